/-
  Layer 9: the document's reading (Read): what it answers; the law's own words.
-/
import Derived.Test.YtefdhbljcnpggaaRfReadA
import Derived.Test.YtefdhbljcnpggaaRfReadB
import Derived.Test.YtefdhbljcnpggaaRfRead4
import Derived.Test.YtefdhbljcnpggaaRfRead7
import Derived.Test.YtefdhbljcnpggaaFrAwake
import Derived.Test.YtefdhbljcnpggaaFrSame
import Derived.Test.YtefdhbljcnpggaaFrRead
namespace Go.Proofs.Ytefdhbljcnpggaa
open Go.RowKit

theorem rg_Read (ln t f s : Int) (t0 : 0 ≤ t) (f0 : 0 ≤ f) (f1 : f ≤ 255) (x : ByteArray) (hx : (x.size : Int) ≤ 600000) (w : World) :
    Calls Try.prog 10 #[.agg #[.int .i64 ln, .int .u8 t, .int .u8 f, .int .i64 s], .string x] w (GivesRr (readR t f s (bts x)) w) := by
  cases hm : misB t s with
  | true => exact rg_Read_mis ln t f s t0 x hm w
  | false =>
    rcases t_cases t0 with rfl | rfl | rfl | rfl | rfl | rfl | rfl | rfl | rfl | rfl | h
    · exact rg_Read_01 ln 0 f s (by omega) (by omega) hm f0 f1 x hx w
    · exact rg_Read_01 ln 1 f s (by omega) (by omega) hm f0 f1 x hx w
    · exact rg_Read_2 ln f s hm f0 f1 x hx w
    · exact rg_Read_3 ln f s hm f0 f1 x hx w
    · exact rg_Read_4 ln f s hm f0 f1 x hx w
    · exact absurd hm (by simp [misB])
    · exact rg_Read_d ln 6 f s (by omega) hm f0 f1 x hx w
    · exact rg_Read_7 ln f s hm f0 f1 x hx w
    · exact rg_Read_8 ln f s hm f0 f1 x hx w
    · exact rg_Read_d ln 9 f s (by omega) hm f0 f1 x hx w
    · exact rg_Read_d ln t f s (by omega) hm f0 f1 x hx w
theorem sameF_refl (F : Fr) (l : List Pr) : sameF F F l l = true := by
  simp [sameF, Fr.same, sameP]
theorem rd_len (t f s : Int) (xs : List Int) : (readR t f s xs).l.length ≤ xs.length := by
  have h0 : (bodyR t f xs).length ≤ xs.length := by
    unfold bodyR
    split
    · rw [List.length_take, List.length_drop]; omega
    · omega
  have h1 : (prsRd t f xs).length ≤ xs.length := by
    unfold prsRd prsR
    split
    · rw [prsL_len]; omega
    · simp
  unfold readR Rd.fault
  repeat' split
  all_goals first | exact Nat.zero_le _ | exact h1
theorem rd_code (t f s : Int) (xs : List Int) : 0 ≤ (readR t f s xs).code ∧ (readR t f s xs).code ≤ 255 := by
  unfold readR Rd.fault
  repeat' split
  all_goals (constructor <;> simp)
set_option maxRecDepth 100000 in
theorem lw_fault (c s : Int) (c0 : 0 ≤ c) (c1 : c ≤ 255) (w : World) :
    Calls Try.prog 12 #[.agg #[.int .u32 c, .int .i64 s]] w fun e w' => e = .returned (.agg #[.int .i64 c, .int .i64 s]) ∧ Below w.heap.size w w' := by
  have hw : IntKind.i64.wrap c = c := IntWalk.i64_in _ (by omega)
  have K1 : BlkIs ((w.alloc (.cells #[.int .u32 c, .int .i64 s] 31)).alloc (.cells #[.int .i64 0, .int .i64 0] 37)) w.heap.size 31 #[.int .u32 c, .int .i64 s] := (BlkIs.new w _ _).alloc _
  have K2 : BlkIs ((w.alloc (.cells #[.int .u32 c, .int .i64 s] 31)).alloc (.cells #[.int .i64 0, .int .i64 0] 37)) (w.heap.size + 1) 37 #[.int .i64 0, .int .i64 0] := blk_two
  have K3 : Below w.heap.size w ((w.alloc (.cells #[.int .u32 c, .int .i64 s] 31)).alloc (.cells #[.int .i64 0, .int .i64 0] 37)) := below_two
  have H1 := hide K1
  have H2 := hide K2
  have H3 := hide K3
  clear K1 K2 K3
  go_enter Try.func12, Try.ntmps12
  go_upto_region 1 with (fail)
  generalize (w.alloc (.cells #[.int .u32 c, .int .i64 s] 31)).alloc (.cells #[.int .i64 0, .int .i64 0] 37) = w0 at H1 H2 H3 ⊢
  obtain ⟨g, hg⟩ : ∃ g, g = w.heap.size := ⟨_, rfl⟩
  rw [← hg] at H1 H2 ⊢
  have HG := hide hg
  clear hg
  obtain ⟨k0, k1⟩ := fa_cells H1.out
  go_wp2_with (refine wpList_store_blk rfl 37 (.tmp 2) (.tmp 8) rfl (g + 1) #[.int .i64 c, .int .i64 s] #[.int .i64 0, .int .i64 0] 37 rfl rfl H2.out rfa_size rfl (fa_one _ _ rfl rfl) ?_)
  exact bodyPost_ret (results_cell_blk rfl _ _ (g + 1) 37 #[.int .i64 c, .int .i64 s] _ rfl (H2.out.row _) Try.underlying37 rfl rfa_size) rfl ⟨rfl, below_setRow H3.out (by rw [HG.out]; omega) _⟩
end Go.Proofs.Ytefdhbljcnpggaa
