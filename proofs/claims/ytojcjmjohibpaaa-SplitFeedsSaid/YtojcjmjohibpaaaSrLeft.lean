/-
  Layer 10, the document's: Left.
-/
import Derived.Test.YtojcjmjohibpaaaSrCheck
import Derived.Test.YtojcjmjohibpaaaSpLeft
namespace Go.Proofs.Ytojcjmjohibpaaa
set_option linter.unusedSimpArgs false
set_option linter.unusedVariables false
open Go.RowKit

theorem sr_size : (Try.prog.info? 23).map (·.size) = some 3 := by kernel_rfl
theorem sr_zero : (Try.prog.info? 23).bind (·.zero) = some (.agg #[.int .i64 0, .string ⟨#[]⟩, .bool false]) := by kernel_rfl
theorem left_of {g : Int} {b : List Int} {d : Bool} : (⟨g, b, d⟩ : Sp).left = if (⟨g, b, d⟩ : Sp).chk = 0 ∧ d = false then (if g < 24 then 24 - g else 9 + gL b - (b.length : Int)) else 0 := by
  unfold Sp.left Sp.goes
  by_cases h : (⟨g, b, d⟩ : Sp).chk = 0
  · cases d <;> simp [h]
  · simp [h]

set_option maxRecDepth 100000 in
set_option maxHeartbeats 3200000 in
theorem rf_Left (g : Int) (B : ByteArray) (d : Bool) (hS : (B.size : Int) ≤ 1000000) (w : World) :
    Calls Try.prog 14 #[.agg #[.int .i64 g, .string B, .bool d]] w fun e w' => e = .returned (.int .i64 (Sp.left ⟨g, bts B, d⟩)) ∧ Below w.heap.size w w' := by
  have hz := run_zero_is rd_zero
  have HC := hide (fun w => rf_Check10 g B d hS w)
  have hg0 : Sp.chk ⟨g, bts B, d⟩ = 0 → d = false → 0 ≤ g ∧ g ≤ 24 := fun h hd => by
    subst hd
    obtain ⟨_, a, b, _⟩ := goes_of (s := ⟨g, bts B, false⟩) (by rw [goes_chk, h]; rfl)
    exact ⟨a, b⟩
  rw [left_of, bts_len]
  have hbd := gL_bd (bts_all B)
  have hlen := bts_len B
  obtain ⟨cap, w1, hcv, hr, hb1, hcap, _, _⟩ := str_row (w.alloc (.cells #[.int .i64 g, .string B, .bool d] 23)) B
  obtain ⟨L, hL⟩ : ∃ L, L = gL (bts B) := ⟨_, rfl⟩
  obtain ⟨T, hT⟩ : ∃ L, L = gT (bts B) := ⟨_, rfl⟩
  obtain ⟨F, hF⟩ : ∃ L, L = gF (bts B) := ⟨_, rfl⟩
  obtain ⟨Z, hZ⟩ : ∃ L, L = gS (bts B) := ⟨_, rfl⟩
  obtain ⟨E, hE⟩ : ∃ L, L = gE (bts B) := ⟨_, rfl⟩
  have HG := hide (rf_GetS B cap w1 _ hr hcap hL hT hF hZ hE)
  have hLE : E ≠ 0 → L = 0 := fun h => by
    rw [hL]; apply gL_short
    by_cases h9 : (bts B).length < 9
    · exact h9
    · exact absurd (by rw [hE, gE, if_neg h9]) h
  rw [← hL] at hbd ⊢
  have l0 := hbd.1
  have l1 := hbd.2
  have K1 := hide ((BlkIs.new w 23 #[.int .i64 g, .string B, .bool d]).keep hb1)
  have B1 := hide (((Below.refl w.heap.size w).alloc (Nat.le_refl _) (.cells #[.int .i64 g, .string B, .bool d] 23)).trans (hb1.mono (by simp)))
  obtain ⟨c, hc⟩ : ∃ c, c = Sp.chk ⟨g, bts B, d⟩ := ⟨_, rfl⟩
  rw [← hc] at HC hg0 ⊢
  obtain ⟨V, hV⟩ : ∃ V, V = (if c = 0 ∧ d = false then if g < 24 then 24 - g else 9 + L - (B.size : Int) else 0) := ⟨_, rfl⟩
  rw [← hV]
  have HV := hide hV
  have HL0 := hide hg0
  have HLE := hide hLE
  have hsz : (World.alloc w (Obj.cells #[Value.int IntKind.i64 g, Value.string B, Value.bool d] 23)).heap.size = w.heap.size + 1 := by simp
  rw [hsz] at HG hcv
  clear hbd hlen hr hb1 hcap hL hT hF hZ hE hc hV hg0 hLE hsz
  go_enter Try.func14, Try.ntmps14
  go_wp2_with fail
  clear hcv
  refine HG.out.mono ?_
  rintro e w2 ⟨rfl, hb2⟩
  have K2 := hide (K1.out.keep hb2)
  have B2 := hide (B1.out.trans (hb2.mono B1.out.size))
  clear hb2 HG K1 B1
  go_wp2_with (refine wpList_load_blk rfl 23 (.tmp 1) rfl w.heap.size rfl 23 #[.int .i64 g, .string B, .bool d] _ (K2.out.alloc _) Try.underlying23 rfl sr_size ?_)
  refine (HC.out _).mono ?_
  rintro e w3 ⟨rfl, hb3⟩
  have K3 := hide ((K2.out.alloc (.cells #[.int .i64 L, .int .u8 T, .int .u8 F, .int .i64 Z] 46)).keep hb3)
  have M3 := hide ((BlkIs.new w2 46 #[.int .i64 L, .int .u8 T, .int .u8 F, .int .i64 Z]).keep hb3)
  have B3 := hide ((B2.out.alloc B2.out.size (.cells #[.int .i64 L, .int .u8 T, .int .u8 F, .int .i64 Z] 46)).trans (hb3.mono (by have := B2.out.size; simp; omega)))
  clear hb3 K2 B2 HC
  have c0 := K3.out.cell 0
  have c1 := K3.out.cell 1
  have c2 := K3.out.cell 2
  have m0 := M3.out.cell 0
  simp only [List.getElem?_toArray, List.getElem?_cons_zero, List.getElem?_cons_succ] at c0 c1 c2 m0
  by_cases hc : c = 0
  · subst hc
    cases d with
    | true =>
      have HR := hide (show V = 0 by rw [HV.out]; simp)
      go_wp2_with fail
      go_ret
      exact ⟨by rw [HR.out]; rfl, B3.out⟩
    | false =>
      obtain ⟨g0, g1⟩ := HL0.out rfl rfl
      by_cases hg : g < 24
      · have HR := hide (show V = 24 - g by rw [HV.out]; simp [hg])
        go_wp2_with fail
        go_ret
        exact ⟨by rw [HR.out]; rfl, B3.out⟩
      · have HR := hide (show V = 9 + L - (B.size : Int) by rw [HV.out]; simp [hg])
        by_cases hE : E = 0
        · subst hE
          go_wp2_with fail
          go_ret
          exact ⟨by rw [HR.out]; rfl, B3.out⟩
        · have HR2 := hide (show V = 9 - (B.size : Int) by rw [HR.out, HLE.out hE]; omega)
          have he : (E != 0) = true := by simp [hE]
          go_wp2_with fail
          go_ret
          exact ⟨by rw [HR2.out]; rfl, B3.out⟩
  · have HR := hide (show V = 0 by rw [HV.out]; simp [hc])
    have he : (c != 0) = true := by simp [hc]
    go_wp2_with fail
    go_ret
    exact ⟨by rw [HR.out]; rfl, B3.out⟩
end Go.Proofs.Ytojcjmjohibpaaa
