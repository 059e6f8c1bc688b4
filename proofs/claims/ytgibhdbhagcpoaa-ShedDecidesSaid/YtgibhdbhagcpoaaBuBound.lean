/-
  Layer 21: bounded, Check: the program's.
-/
import Derived.Test.YtgibhdbhagcpoaaBuSmall
import Derived.BigRegion
import Derived.BigQuiet
import Derived.Deep.QuietTactic
import Derived.Deep.RegionWith
namespace Go.Proofs.Ytgibhdbhagcpoaa
set_option linter.unusedSimpArgs false
set_option linter.unusedVariables false
open Go.RowKit

set_option maxRecDepth 100000 in
set_option maxHeartbeats 1600000 in
theorem bu_bounded (b : Bu) (w : World) : Calls Try.prog 26 #[.agg b.cs] w fun e w' => e = .returned (.agg (bndB b).cs) ∧ Below w.heap.size w w' := by
  obtain ⟨u, r, p, l, n⟩ := b
  have H := hide bu_within
  have hu := near_in (n := u) (show (1 : Int) ≤ 1000 by omega)
  have hp := near_in (n := p) (show (1 : Int) ≤ 1000 by omega)
  have hm := mul_in hu.1 hu.2 hp.1 hp.2
  have HF := hide (fun w => bu_full ⟨nearI u 1 1000, nearI r 0 1000, nearI p 1 1000, l, nearI n 0 1099511627776⟩ w hm.1 hm.2)
  clear hu hp hm
  simp only [bndB, Bu.cs] at HF ⊢
  generalize hU : nearI u 1 1000 = U at *
  generalize hR : nearI r 0 1000 = R at *
  generalize hP : nearI p 1 1000 = P at *
  generalize hN : nearI n 0 1099511627776 = N at *
  have HU := hide hU
  have HR := hide hR
  have HP := hide hP
  have HN := hide hN
  clear hU hR hP hN
  go_enter Try.func26, Try.ntmps26
  go_wp2_with fail
  refine (H.out _ _ _ _).mono ?_
  rintro e w' ⟨rfl, rfl⟩
  rw [HU.out]
  go_wp2_with fail
  refine (H.out _ _ _ _).mono ?_
  rintro e w' ⟨rfl, rfl⟩
  rw [HR.out]
  go_wp2_with fail
  refine (H.out _ _ _ _).mono ?_
  rintro e w' ⟨rfl, rfl⟩
  rw [HP.out]
  go_wp2_with fail
  refine (H.out _ _ _ _).mono ?_
  rintro e w' ⟨rfl, rfl⟩
  rw [HN.out]
  clear HU HR HP HN
  go_wp2_with fail
  obtain ⟨W, hW⟩ : ∃ W, W = (w.alloc (.cells #[.int .i64 U, .int .i64 R, .int .i64 P, .int .i64 l, .int .i64 N] 26)).alloc (.cells #[.int .i64 0, .int .i64 0, .int .i64 0, .int .i64 0, .int .i64 0] 26) := ⟨_, rfl⟩
  obtain ⟨g, hg⟩ : ∃ g, g = w.heap.size := ⟨_, rfl⟩
  have HX := hide (show BlkIs W g 26 #[.int .i64 U, .int .i64 R, .int .i64 P, .int .i64 l, .int .i64 N] by rw [hW, hg]; exact (BlkIs.new w _ _).alloc _)
  have HZ := hide (show BlkIs W (g + 1) 26 #[.int .i64 0, .int .i64 0, .int .i64 0, .int .i64 0, .int .i64 0] by rw [hW, hg]; exact new2 w _ _ _)
  have HB := hide (show Below w.heap.size w W by rw [hW]; exact bel2 w _ _)
  have HL := hide (show w.heap.size = g from hg.symm)
  rw [← hW, ← hg]
  clear hW hg
  have k0 := HX.out.cell 0
  have k1 := HX.out.cell 1
  have k2 := HX.out.cell 2
  have k3 := HX.out.cell 3
  have k4 := HX.out.cell 4
  simp only [List.getElem?_toArray, List.getElem?_cons_zero, List.getElem?_cons_succ] at k0 k1 k2 k3 k4
  go_region_with (first
    | (go_at_call 25; refine (HF.out _).mono ?_; rintro e w3 ⟨rfl, hb3⟩; have K3 := hide (HX.out.drew.keep hb3); have Z3 := hide (HZ.out.drew.keep hb3); have B3 := hide (HB.out.drew.trans (hb3.mono HB.out.drew.size)); have d0 := K3.out.cell 0; have d1 := K3.out.cell 1; have d2 := K3.out.cell 2; have d3 := K3.out.cell 3; have d4 := K3.out.cell 4; have f3 := K3.out.frozen 3; simp only [List.getElem?_toArray, List.getElem?_cons_zero, List.getElem?_cons_succ] at d0 d1 d2 d3 d4; clear hb3)
    | (go_at_call 31; refine (H.out _ _ _ _).mono ?_; rintro e w' ⟨rfl, rfl⟩))
  all_goals
    have X5 := hide (K3.out.put 3 (.int .i64 (nearI l 0 (U * P))))
    have Z5 := hide (Z3.out.far (p := ⟨g, 3, none⟩) (by simp) (.int .i64 (nearI l 0 (U * P))))
    have B5 := hide (B3.out.setCell (p := ⟨g, 3, none⟩) (by rw [HL.out]; exact Nat.le_refl _) (.int .i64 (nearI l 0 (U * P))))
    simp only [List.setIfInBounds_toArray, List.set_cons_zero, List.set_cons_succ] at X5
    clear K3 Z3 B3 HX HZ HB k0 k1 k2 k3 k4 f3 d0 d1 d2 d3 d4
    generalize w3.setCell ⟨g, 3, none⟩ (.int .i64 (nearI l 0 (U * P))) = w5 at *
    go_wp2_with (first
      | (refine wpList_load_blk rfl 26 (.tmp 1) rfl g rfl 26 #[.int .i64 U, .int .i64 R, .int .i64 P, .int .i64 (nearI l 0 (U * P)), .int .i64 N] _ X5.out Try.underlying26 rfl bu_size ?_)
      | (refine wpList_store_blk rfl 26 (.tmp 2) (.tmp 25) rfl (g + 1) #[.int .i64 U, .int .i64 R, .int .i64 P, .int .i64 (nearI l 0 (U * P)), .int .i64 N] _ 26 rfl rfl Z5.out bu_size rfl (by simp [Value.oneCell']) ?_))
    exact bodyPost_ret (results_cell_blk rfl _ _ (g + 1) 26 #[.int .i64 U, .int .i64 R, .int .i64 P, .int .i64 (nearI l 0 (U * P)), .int .i64 N] _ rfl (Z5.out.row _) Try.underlying26 rfl bu_size) rfl ⟨rfl, HL.out ▸ below_setRow B5.out (by have := HL.out; omega) _⟩
end Go.Proofs.Ytgibhdbhagcpoaa
