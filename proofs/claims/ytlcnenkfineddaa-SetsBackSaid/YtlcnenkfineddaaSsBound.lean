/-
  Layer 12: bounded (values with each one out of its bounds drawn to the nearer one), mayBe, Check: the program's.
-/
import Derived.Test.YtlcnenkfineddaaSsSmall
import Derived.StillTailTactics
import Derived.Lib.MinMax
import Derived.BigRegion
import Derived.BigQuiet
import Derived.Deep.QuietTactic
namespace Go.Proofs.Ytlcnenkfineddaa
set_option linter.unusedSimpArgs false
set_option linter.unusedVariables false
open Go.RowKit

def Vs.least : Vs := ⟨0, 0, 0, 0, 16384, 0⟩
def Vs.most : Vs := ⟨4294967295, 1, 4294967295, 2147483647, 16777215, 4294967295⟩
def clV (v : Vs) : Vs := ⟨min (max v.t 0) 4294967295, min (max v.p 0) 1, min (max v.s 0) 4294967295, min (max v.w 0) 2147483647, min (max v.f 16384) 16777215, min (max v.l 0) 4294967295⟩
theorem cl_at (v : Vs) (k : Nat) (h : k ≤ 6) : min (max (v.at k) (Vs.least.at k)) (Vs.most.at k) = (clV v).at k := by
  have hk : k = 0 ∨ k = 1 ∨ k = 2 ∨ k = 3 ∨ k = 4 ∨ k = 5 ∨ k = 6 := by omega
  rcases hk with rfl | rfl | rfl | rfl | rfl | rfl | rfl <;> rfl
theorem ok_cl (v : Vs) : okB v = decide (v = clV v) := by
  obtain ⟨a, b, c, d, e, f⟩ := v
  rw [Bool.eq_iff_iff, okB_iff, decide_eq_true_iff]
  simp only [clV, Vs.mk.injEq]
  omega
theorem mix_zero (v w : Vs) : mixV v w 0 = v := rfl
theorem mix_put (v w : Vs) (k : Nat) (h6 : k ≤ 6) : (mixV v w k).arr.setIfInBounds k (.int .i64 (w.at k)) = (mixV v w (k + 1)).arr := by
  by_cases h : k = 0
  · subst h; rfl
  · rw [set_arr _ _ _ (by omega) h6, mix_set v w k (by omega) h6]

/-- What bounded's walk knows of memory. -/
structure BdS (B : Nat) (w0 w : World) (g g3 g4 : Nat) (x : Vs) : Prop where
  st : BlkIs w g 50 x.arr
  re : BlkIs w (g + 1) 50 Vs.zero.arr
  lo : BlkIs w g3 50 Vs.least.arr
  hi : BlkIs w g4 50 Vs.most.arr
  le : B ≤ g
  a3 : g + 1 < g3
  a4 : g3 < g4
  bl : Below B w0 w
section
variable {B : Nat} {w0 w w' : World} {g g3 g4 : Nat} {x : Vs}
theorem BdS.drew (h : BdS B w0 w g g3 g4 x) : BdS B w0 w.drew g g3 g4 x := ⟨h.st.drew, h.re.drew, h.lo.drew, h.hi.drew, h.le, h.a3, h.a4, h.bl.drew⟩
theorem BdS.put (h : BdS B w0 w g g3 g4 x) (k : Nat) (u : Value) {y : Vs} (hy : x.arr.setIfInBounds k u = y.arr) : BdS B w0 (w.setCell ⟨g, k, none⟩ u) g g3 g4 y :=
  ⟨hy ▸ h.st.put k u, h.re.far (by simp) u, h.lo.far (by have := h.a3; simp; omega) u, h.hi.far (by have := h.a3; have := h.a4; simp; omega) u, h.le, h.a3, h.a4, h.bl.setCell h.le u⟩
end

set_option maxRecDepth 100000 in
set_option maxHeartbeats 3200000 in
theorem ss_bounded (v : Vs) (w : World) : Calls Try.prog 27 #[.agg v.arr] w (GivesCs (clV v).arr w) := by
  have HL := hide (fun w => (show Calls Try.prog 19 #[.agg #[.int .i64 0, .int .i64 0, .int .i64 0, .int .i64 0, .int .i64 16384, .int .i64 0]] w (GivesCs #[.int .i64 0, .int .i64 0, .int .i64 0, .int .i64 0, .int .i64 0, .int .i64 16384, .int .i64 0] w) from ss_byNumber Vs.least w))
  have HM := hide (fun w => (show Calls Try.prog 19 #[.agg #[.int .i64 4294967295, .int .i64 1, .int .i64 4294967295, .int .i64 2147483647, .int .i64 16777215, .int .i64 4294967295]] w (GivesCs #[.int .i64 0, .int .i64 4294967295, .int .i64 1, .int .i64 4294967295, .int .i64 2147483647, .int .i64 16777215, .int .i64 4294967295] w) from ss_byNumber Vs.most w))
  have HCL := hide (fun k h => cl_at v k h)
  have HPU := hide (fun k h => mix_put v (clV v) k h)
  have HEN := hide (mix_all v (clV v))
  have HS0 := hide (show BlkIs (w.alloc (.cells v.arr 50)) w.heap.size 50 (mixV v (clV v) 0).arr from BlkIs.new w _ _)
  go_enter Try.func27, Try.ntmps27
  obtain ⟨g, hg⟩ : ∃ g, g = w.heap.size := ⟨_, rfl⟩
  have HG := hide hg
  have S0 := hide (show BlkIs ((w.alloc (.cells v.arr 50)).alloc (.cells Vs.zero.arr 50)) g 50 (mixV v (clV v) 0).arr by rw [hg]; exact HS0.out.alloc _)
  have R0 := hide (show BlkIs ((w.alloc (.cells v.arr 50)).alloc (.cells Vs.zero.arr 50)) (g + 1) 50 Vs.zero.arr by rw [hg]; exact new2 w _ _ _)
  have B0 := hide (show Below g w ((w.alloc (.cells v.arr 50)).alloc (.cells Vs.zero.arr 50)) by rw [hg]; exact bel2 w _ _)
  have Z0 := hide (show ((w.alloc (.cells v.arr 50)).alloc (.cells Vs.zero.arr 50)).heap.size = g + 1 + 1 by rw [hg]; simp)
  clear HS0 hg
  go_wp2_with fail
  rw [← HG.out]
  change Calls _ _ _ ((w.alloc (.cells v.arr 50)).alloc (.cells Vs.zero.arr 50)) _
  generalize (w.alloc (.cells v.arr 50)).alloc (.cells Vs.zero.arr 50) = w0 at *
  generalize clV v = cv at *
  refine (HL.out _).mono ?_
  rintro e w1 ⟨rfl, hb1⟩
  obtain ⟨g3, hg3⟩ : ∃ g3, g3 = w1.heap.size := ⟨_, rfl⟩
  have HG3 := hide hg3
  have S1 := hide ((S0.out.keep hb1).alloc (.cells Vs.least.arr 50))
  have R1 := hide ((R0.out.keep hb1).alloc (.cells Vs.least.arr 50))
  have Z1 := hide (show g + 1 < g3 by have := hb1.size; have := Z0.out; omega)
  have B1 := hide ((B0.out.trans (hb1.mono (by have := Z0.out; omega))).alloc (by have := Z1.out; omega) (.cells Vs.least.arr 50))
  have L1 := hide (show BlkIs (w1.alloc (.cells Vs.least.arr 50)) g3 50 Vs.least.arr by rw [hg3]; exact BlkIs.new w1 _ _)
  have Y1 := hide (show (w1.alloc (.cells Vs.least.arr 50)).heap.size = g3 + 1 by rw [hg3]; simp)
  clear hb1 S0 R0 B0 HL hg3 Z0
  go_wp2_with fail
  rw [← HG3.out]
  change Calls _ _ _ (w1.alloc (.cells Vs.least.arr 50)) _
  generalize w1.alloc (.cells Vs.least.arr 50) = w1' at *
  refine (HM.out _).mono ?_
  rintro e w2 ⟨rfl, hb2⟩
  obtain ⟨g4, hg4⟩ : ∃ g4, g4 = w2.heap.size := ⟨_, rfl⟩
  have HG4 := hide hg4
  have HS := hide (show BdS g w (w2.alloc (.cells Vs.most.arr 50)) g g3 g4 (mixV v cv 0) from
    ⟨(S1.out.keep hb2).alloc _, (R1.out.keep hb2).alloc _, (L1.out.keep hb2).alloc _, by rw [hg4]; exact BlkIs.new w2 _ _, Nat.le_refl _, Z1.out, by have := hb2.size; have := Y1.out; omega,
     (B1.out.trans (hb2.mono (by have := Z1.out; have := Y1.out; omega))).alloc (by have := hb2.size; have := Z1.out; have := Y1.out; omega) _⟩)
  clear hb2 S1 R1 B1 L1 Y1 HM hg4 Z1
  go_wp2_with fail
  rw [← HG4.out]
  go_loopw [10] (fun k wr => ∃ i : Nat, i ≤ 7 ∧ k = .int .i64 (i : Int) ∧ BdS g w wr g g3 g4 (mixV v cv i)) (fun k _ => 7 - (intOf k).toNat)
  case atStart => exact ⟨0, by omega, rfl, HS.out⟩
  case round =>
    clear HS
    obtain ⟨i, hi, rfl, hS⟩ := hrel
    have HS := hide hS
    clear hS
    by_cases hlt : i < 7
    · have hlt' : (i : Int) < 7 := by omega
      have h0 : (0 : Int) ≤ (i : Int) := by omega
      have c1 := (HS.out.st.cell i).trans ((mixV v cv i).arr_at i (by omega))
      rw [mix_at] at c1
      have c3 := (HS.out.lo.cell i).trans (Vs.least.arr_at i (by omega))
      have c4 := (HS.out.hi.cell i).trans (Vs.most.arr_at i (by omega))
      have z1 := HS.out.st.frozen i
      go_wp2_with fail
      go_region
      have HN := hide ((HS.out.put i (.int .i64 (min (max (v.at i) (Vs.least.at i)) (Vs.most.at i))) (by rw [HCL.out i (by omega)]; exact HPU.out i (by omega))).drew)
      clear c1 c3 c4 z1
      go_wp2
      go_roundw
      case rel => exact ⟨i + 1, by omega, by go_num, HN.out⟩
      case measure => simp [intOf]; omega
    · obtain rfl : i = 7 := by omega
      have HX := HS.out
      rw [HEN.out] at HX
      have HT := hide HX
      clear HX HS
      go_wp2_with (first
        | (refine wpList_load_blk rfl 50 (.tmp 1) rfl g rfl 50 cv.arr _ HT.out.st Try.underlying50 rfl sn_size ?_)
        | (refine wpList_store_blk rfl 50 (.tmp 2) (.tmp 27) rfl (g + 1) cv.arr Vs.zero.arr 50 rfl rfl HT.out.re sn_size rfl (Vs.arr_one cv) ?_))
      exact bodyPost_ret (results_cell_blk rfl _ _ (g + 1) 50 cv.arr _ rfl (HT.out.re.row _) Try.underlying50 rfl sn_size) rfl ⟨rfl, HG.out ▸ below_setRow HT.out.bl (by omega) _⟩
end Go.Proofs.Ytlcnenkfineddaa
