/-
  Layer 9: whether two frames are one (the document's).
-/
import Derived.Test.YtighhdgaaelcdaaFrFits
import Derived.Test.YtighhdgaaelcdaaFrEqR
namespace Go.Proofs.Ytighhdgaaelcdaa
set_option linter.unusedSimpArgs false
set_option linter.unusedVariables false
open Go.RowKit

/-- The same in all fields but the settings. -/
def Fr.same (F G : Fr) : Bool := F.ty == G.ty && F.fl == G.fl && F.st == G.st && F.data.toList == G.data.toList && F.pad == G.pad && F.dep == G.dep && F.sole == G.sole && F.wt == G.wt && F.code == G.code && F.last == G.last && F.inc == G.inc
def sameF (F G : Fr) (l m : List Pr) : Bool := F.same G && sameP l m

theorem sameF_refl (F : Fr) (l : List Pr) : sameF F F l l = true := by
  simp [sameF, Fr.same, sameP]

set_option maxRecDepth 100000 in
set_option maxHeartbeats 3200000 in
theorem rf_Same (F G : Fr) (A B : Option Addr) (n c m d : Nat) (l k : List Pr) (w : World) (ha : PL w A n c l) (hb : PL w B m d k) (hn : (n : Int) ≤ 2000000) (hm : (m : Int) ≤ 2000000) :
    Calls Try.prog 15 #[.agg (F.cs A n c), .agg (G.cs B m d)] w fun e w' => e = .returned (.bool (sameF F G l k)) ∧ Below w.heap.size w w' := by
  obtain ⟨q0, q1, q2, q3, q4, q5, q6, q7, q8, q9, q10, q11⟩ := fr_qs F A n c
  obtain ⟨p0, p1, p2, p3, p4, p5, p6, p7, p8, p9, p10, p11⟩ := fr_qs G B m d
  have HE := hide (fun w ha hb => rf_SamePairs A B n m c d l k w ha hb hn hm)
  have HA := hide ((ha.alloc (.cells (F.cs A n c) 27)).alloc (.cells (G.cs B m d) 27))
  have HB := hide ((hb.alloc (.cells (F.cs A n c) 27)).alloc (.cells (G.cs B m d) 27))
  clear ha hb hn hm
  generalize F.cs A n c = cs at *
  generalize G.cs B m d = os at *
  obtain ⟨ty, fl, st, data, pad, dep, sole, wt, code, last, inc⟩ := F
  obtain ⟨oty, ofl, ost, odata, opad, odep, osole, owt, ocode, olast, oinc⟩ := G
  simp only at q0 q1 q2 q3 q4 q5 q6 q7 q8 q9 q10 q11 p0 p1 p2 p3 p4 p5 p6 p7 p8 p9 p10 p11
  go_enter Try.func15, Try.ntmps15
  go_upto_region 1 with (fail)
  refine wp_region_lit ?_
  refine wpList_rd (.pointer (some ⟨w.heap.size, 0, none⟩)) ?_ ?_ ?_
  focus (rfl)
  focus ((try simp only [lz_true]); go_simp; done)
  simp only [Act.put, List.setIfInBounds_toArray, List.set_cons_zero, List.set_cons_succ]
  refine wpList_rd (.int .u8 ty) ?_ ?_ ?_
  focus (rfl)
  focus ((try simp only [lz_true]); go_simp; done)
  simp only [Act.put, List.setIfInBounds_toArray, List.set_cons_zero, List.set_cons_succ]
  refine wpList_rd (.pointer (some ⟨(w.heap.size + 1), 0, none⟩)) ?_ ?_ ?_
  focus (rfl)
  focus ((try simp only [lz_true]); go_simp; done)
  simp only [Act.put, List.setIfInBounds_toArray, List.set_cons_zero, List.set_cons_succ]
  refine wpList_rd (.int .u8 oty) ?_ ?_ ?_
  focus (rfl)
  focus ((try simp only [lz_true]); go_simp; done)
  simp only [Act.put, List.setIfInBounds_toArray, List.set_cons_zero, List.set_cons_succ]
  obtain ⟨z9, hz9⟩ : ∃ k : Bool, (ty == oty) = k := ⟨_, rfl⟩
  refine wpList_rd (.bool z9) ?_ ?_ ?_
  focus (rfl)
  focus ((try simp only [lz_true]); go_simp; first | done | exact hz9 | rw [hz9] | simp [hz9] | (rw [← hz9]; (first | (simp [beqI, bneI, beqN]; done) | skip)); done)
  simp only [Act.put, List.setIfInBounds_toArray, List.set_cons_zero, List.set_cons_succ]
  have Hz9 := hide hz9.symm
  clear hz9
  refine wpList_rd (.bool z9) ?_ ?_ ?_
  focus (rfl)
  focus ((try simp only [lz_true]); go_simp; done)
  simp only [Act.put, List.setIfInBounds_toArray, List.set_cons_zero, List.set_cons_succ]
  refine wpList_lz z9 (.pointer (some ⟨w.heap.size, 1, none⟩)) ?_ ?_ ?_
  focus (exact (wanted_bool rfl rfl rfl rfl (by cases z9 <;> rfl)))
  focus (intro hk; subst hk; (try simp only [lz_true]); go_simp; done)
  simp only [Act.put, List.setIfInBounds_toArray, List.set_cons_zero, List.set_cons_succ]
  refine wpList_lz z9 (.int .u8 fl) ?_ ?_ ?_
  focus (exact (wanted_bool rfl rfl rfl rfl (by cases z9 <;> rfl)))
  focus (intro hk; subst hk; (try simp only [lz_true]); go_simp; done)
  simp only [Act.put, List.setIfInBounds_toArray, List.set_cons_zero, List.set_cons_succ]
  refine wpList_lz z9 (.pointer (some ⟨(w.heap.size + 1), 1, none⟩)) ?_ ?_ ?_
  focus (exact (wanted_bool rfl rfl rfl rfl (by cases z9 <;> rfl)))
  focus (intro hk; subst hk; (try simp only [lz_true]); go_simp; done)
  simp only [Act.put, List.setIfInBounds_toArray, List.set_cons_zero, List.set_cons_succ]
  refine wpList_lz z9 (.int .u8 ofl) ?_ ?_ ?_
  focus (exact (wanted_bool rfl rfl rfl rfl (by cases z9 <;> rfl)))
  focus (intro hk; subst hk; (try simp only [lz_true]); go_simp; done)
  simp only [Act.put, List.setIfInBounds_toArray, List.set_cons_zero, List.set_cons_succ]
  obtain ⟨z15, hz15⟩ : ∃ k : Bool, (fl == ofl) = k := ⟨_, rfl⟩
  refine wpList_lz z9 (.bool z15) ?_ ?_ ?_
  focus (exact (wanted_bool rfl rfl rfl rfl (by cases z9 <;> rfl)))
  focus (intro hk; subst hk; (try simp only [lz_true]); go_simp; first | done | exact hz15 | rw [hz15] | simp [hz15] | (rw [← hz15]; (first | (simp [beqI, bneI, beqN]; done) | skip)); done)
  simp only [Act.put, List.setIfInBounds_toArray, List.set_cons_zero, List.set_cons_succ]
  have Hz15 := hide hz15.symm
  clear hz15
  obtain ⟨r16, hr16⟩ : ∃ k : Bool, k = (z9 && z15) := ⟨_, rfl⟩
  have Hr16 := hide hr16
  clear hr16
  refine wpList_rd (.bool r16) ?_ ?_ ?_
  focus (rfl)
  focus (refine run_pick_lz _ _ _ rfl z9 rfl _ ?_; rw [Hr16.out]; cases z9 <;> rfl; done)
  simp only [Act.put, List.setIfInBounds_toArray, List.set_cons_zero, List.set_cons_succ]
  refine wpList_rd (.bool r16) ?_ ?_ ?_
  focus (rfl)
  focus ((try simp only [lz_true]); go_simp; done)
  simp only [Act.put, List.setIfInBounds_toArray, List.set_cons_zero, List.set_cons_succ]
  refine wpList_lz r16 (.pointer (some ⟨w.heap.size, 2, none⟩)) ?_ ?_ ?_
  focus (exact (wanted_bool rfl rfl rfl rfl (by cases r16 <;> rfl)))
  focus (intro hk; subst hk; (try simp only [lz_true]); go_simp; done)
  simp only [Act.put, List.setIfInBounds_toArray, List.set_cons_zero, List.set_cons_succ]
  refine wpList_lz r16 (.int .i64 st) ?_ ?_ ?_
  focus (exact (wanted_bool rfl rfl rfl rfl (by cases r16 <;> rfl)))
  focus (intro hk; subst hk; (try simp only [lz_true]); go_simp; done)
  simp only [Act.put, List.setIfInBounds_toArray, List.set_cons_zero, List.set_cons_succ]
  refine wpList_lz r16 (.pointer (some ⟨(w.heap.size + 1), 2, none⟩)) ?_ ?_ ?_
  focus (exact (wanted_bool rfl rfl rfl rfl (by cases r16 <;> rfl)))
  focus (intro hk; subst hk; (try simp only [lz_true]); go_simp; done)
  simp only [Act.put, List.setIfInBounds_toArray, List.set_cons_zero, List.set_cons_succ]
  refine wpList_lz r16 (.int .i64 ost) ?_ ?_ ?_
  focus (exact (wanted_bool rfl rfl rfl rfl (by cases r16 <;> rfl)))
  focus (intro hk; subst hk; (try simp only [lz_true]); go_simp; done)
  simp only [Act.put, List.setIfInBounds_toArray, List.set_cons_zero, List.set_cons_succ]
  obtain ⟨z22, hz22⟩ : ∃ k : Bool, (st == ost) = k := ⟨_, rfl⟩
  refine wpList_lz r16 (.bool z22) ?_ ?_ ?_
  focus (exact (wanted_bool rfl rfl rfl rfl (by cases r16 <;> rfl)))
  focus (intro hk; subst hk; (try simp only [lz_true]); go_simp; first | done | exact hz22 | rw [hz22] | simp [hz22] | (rw [← hz22]; (first | (simp [beqI, bneI, beqN]; done) | skip)); done)
  simp only [Act.put, List.setIfInBounds_toArray, List.set_cons_zero, List.set_cons_succ]
  have Hz22 := hide hz22.symm
  clear hz22
  obtain ⟨r23, hr23⟩ : ∃ k : Bool, k = (r16 && z22) := ⟨_, rfl⟩
  have Hr23 := hide hr23
  clear hr23
  refine wpList_rd (.bool r23) ?_ ?_ ?_
  focus (rfl)
  focus (refine run_pick_lz _ _ _ rfl r16 rfl _ ?_; rw [Hr23.out]; cases r16 <;> rfl; done)
  simp only [Act.put, List.setIfInBounds_toArray, List.set_cons_zero, List.set_cons_succ]
  refine wpList_rd (.bool r23) ?_ ?_ ?_
  focus (rfl)
  focus ((try simp only [lz_true]); go_simp; done)
  simp only [Act.put, List.setIfInBounds_toArray, List.set_cons_zero, List.set_cons_succ]
  refine wpList_lz r23 (.pointer (some ⟨w.heap.size, 3, none⟩)) ?_ ?_ ?_
  focus (exact (wanted_bool rfl rfl rfl rfl (by cases r23 <;> rfl)))
  focus (intro hk; subst hk; (try simp only [lz_true]); go_simp; done)
  simp only [Act.put, List.setIfInBounds_toArray, List.set_cons_zero, List.set_cons_succ]
  refine wpList_lz r23 (.string data) ?_ ?_ ?_
  focus (exact (wanted_bool rfl rfl rfl rfl (by cases r23 <;> rfl)))
  focus (intro hk; subst hk; (try simp only [lz_true]); go_simp; done)
  simp only [Act.put, List.setIfInBounds_toArray, List.set_cons_zero, List.set_cons_succ]
  refine wpList_lz r23 (.pointer (some ⟨(w.heap.size + 1), 3, none⟩)) ?_ ?_ ?_
  focus (exact (wanted_bool rfl rfl rfl rfl (by cases r23 <;> rfl)))
  focus (intro hk; subst hk; (try simp only [lz_true]); go_simp; done)
  simp only [Act.put, List.setIfInBounds_toArray, List.set_cons_zero, List.set_cons_succ]
  refine wpList_lz r23 (.string odata) ?_ ?_ ?_
  focus (exact (wanted_bool rfl rfl rfl rfl (by cases r23 <;> rfl)))
  focus (intro hk; subst hk; (try simp only [lz_true]); go_simp; done)
  simp only [Act.put, List.setIfInBounds_toArray, List.set_cons_zero, List.set_cons_succ]
  obtain ⟨z29, hz29⟩ : ∃ k : Bool, (data.toList == odata.toList) = k := ⟨_, rfl⟩
  refine wpList_lz r23 (.bool z29) ?_ ?_ ?_
  focus (exact (wanted_bool rfl rfl rfl rfl (by cases r23 <;> rfl)))
  focus (intro hk; subst hk; (try simp only [lz_true]); go_simp; first | done | exact hz29 | rw [hz29] | simp [hz29] | (rw [← hz29]; (first | (simp [beqI, bneI, beqN]; done) | skip)); done)
  simp only [Act.put, List.setIfInBounds_toArray, List.set_cons_zero, List.set_cons_succ]
  have Hz29 := hide hz29.symm
  clear hz29
  obtain ⟨r30, hr30⟩ : ∃ k : Bool, k = (r23 && z29) := ⟨_, rfl⟩
  have Hr30 := hide hr30
  clear hr30
  refine wpList_rd (.bool r30) ?_ ?_ ?_
  focus (rfl)
  focus (refine run_pick_lz _ _ _ rfl r23 rfl _ ?_; rw [Hr30.out]; cases r23 <;> rfl; done)
  simp only [Act.put, List.setIfInBounds_toArray, List.set_cons_zero, List.set_cons_succ]
  refine wpList_rd (.bool r30) ?_ ?_ ?_
  focus (rfl)
  focus ((try simp only [lz_true]); go_simp; done)
  simp only [Act.put, List.setIfInBounds_toArray, List.set_cons_zero, List.set_cons_succ]
  refine wpList_lz r30 (.pointer (some ⟨w.heap.size, 4, none⟩)) ?_ ?_ ?_
  focus (exact (wanted_bool rfl rfl rfl rfl (by cases r30 <;> rfl)))
  focus (intro hk; subst hk; (try simp only [lz_true]); go_simp; done)
  simp only [Act.put, List.setIfInBounds_toArray, List.set_cons_zero, List.set_cons_succ]
  refine wpList_lz r30 (.int .i64 pad) ?_ ?_ ?_
  focus (exact (wanted_bool rfl rfl rfl rfl (by cases r30 <;> rfl)))
  focus (intro hk; subst hk; (try simp only [lz_true]); go_simp; done)
  simp only [Act.put, List.setIfInBounds_toArray, List.set_cons_zero, List.set_cons_succ]
  refine wpList_lz r30 (.pointer (some ⟨(w.heap.size + 1), 4, none⟩)) ?_ ?_ ?_
  focus (exact (wanted_bool rfl rfl rfl rfl (by cases r30 <;> rfl)))
  focus (intro hk; subst hk; (try simp only [lz_true]); go_simp; done)
  simp only [Act.put, List.setIfInBounds_toArray, List.set_cons_zero, List.set_cons_succ]
  refine wpList_lz r30 (.int .i64 opad) ?_ ?_ ?_
  focus (exact (wanted_bool rfl rfl rfl rfl (by cases r30 <;> rfl)))
  focus (intro hk; subst hk; (try simp only [lz_true]); go_simp; done)
  simp only [Act.put, List.setIfInBounds_toArray, List.set_cons_zero, List.set_cons_succ]
  obtain ⟨z36, hz36⟩ : ∃ k : Bool, (pad == opad) = k := ⟨_, rfl⟩
  refine wpList_lz r30 (.bool z36) ?_ ?_ ?_
  focus (exact (wanted_bool rfl rfl rfl rfl (by cases r30 <;> rfl)))
  focus (intro hk; subst hk; (try simp only [lz_true]); go_simp; first | done | exact hz36 | rw [hz36] | simp [hz36] | (rw [← hz36]; (first | (simp [beqI, bneI, beqN]; done) | skip)); done)
  simp only [Act.put, List.setIfInBounds_toArray, List.set_cons_zero, List.set_cons_succ]
  have Hz36 := hide hz36.symm
  clear hz36
  obtain ⟨r37, hr37⟩ : ∃ k : Bool, k = (r30 && z36) := ⟨_, rfl⟩
  have Hr37 := hide hr37
  clear hr37
  refine wpList_rd (.bool r37) ?_ ?_ ?_
  focus (rfl)
  focus (refine run_pick_lz _ _ _ rfl r30 rfl _ ?_; rw [Hr37.out]; cases r30 <;> rfl; done)
  simp only [Act.put, List.setIfInBounds_toArray, List.set_cons_zero, List.set_cons_succ]
  refine wpList_rd (.bool r37) ?_ ?_ ?_
  focus (rfl)
  focus ((try simp only [lz_true]); go_simp; done)
  simp only [Act.put, List.setIfInBounds_toArray, List.set_cons_zero, List.set_cons_succ]
  refine wpList_lz r37 (.pointer (some ⟨w.heap.size, 5, none⟩)) ?_ ?_ ?_
  focus (exact (wanted_bool rfl rfl rfl rfl (by cases r37 <;> rfl)))
  focus (intro hk; subst hk; (try simp only [lz_true]); go_simp; done)
  simp only [Act.put, List.setIfInBounds_toArray, List.set_cons_zero, List.set_cons_succ]
  refine wpList_lz r37 (.int .i64 dep) ?_ ?_ ?_
  focus (exact (wanted_bool rfl rfl rfl rfl (by cases r37 <;> rfl)))
  focus (intro hk; subst hk; (try simp only [lz_true]); go_simp; done)
  simp only [Act.put, List.setIfInBounds_toArray, List.set_cons_zero, List.set_cons_succ]
  refine wpList_lz r37 (.pointer (some ⟨(w.heap.size + 1), 5, none⟩)) ?_ ?_ ?_
  focus (exact (wanted_bool rfl rfl rfl rfl (by cases r37 <;> rfl)))
  focus (intro hk; subst hk; (try simp only [lz_true]); go_simp; done)
  simp only [Act.put, List.setIfInBounds_toArray, List.set_cons_zero, List.set_cons_succ]
  refine wpList_lz r37 (.int .i64 odep) ?_ ?_ ?_
  focus (exact (wanted_bool rfl rfl rfl rfl (by cases r37 <;> rfl)))
  focus (intro hk; subst hk; (try simp only [lz_true]); go_simp; done)
  simp only [Act.put, List.setIfInBounds_toArray, List.set_cons_zero, List.set_cons_succ]
  obtain ⟨z43, hz43⟩ : ∃ k : Bool, (dep == odep) = k := ⟨_, rfl⟩
  refine wpList_lz r37 (.bool z43) ?_ ?_ ?_
  focus (exact (wanted_bool rfl rfl rfl rfl (by cases r37 <;> rfl)))
  focus (intro hk; subst hk; (try simp only [lz_true]); go_simp; first | done | exact hz43 | rw [hz43] | simp [hz43] | (rw [← hz43]; (first | (simp [beqI, bneI, beqN]; done) | skip)); done)
  simp only [Act.put, List.setIfInBounds_toArray, List.set_cons_zero, List.set_cons_succ]
  have Hz43 := hide hz43.symm
  clear hz43
  obtain ⟨r44, hr44⟩ : ∃ k : Bool, k = (r37 && z43) := ⟨_, rfl⟩
  have Hr44 := hide hr44
  clear hr44
  refine wpList_rd (.bool r44) ?_ ?_ ?_
  focus (rfl)
  focus (refine run_pick_lz _ _ _ rfl r37 rfl _ ?_; rw [Hr44.out]; cases r37 <;> rfl; done)
  simp only [Act.put, List.setIfInBounds_toArray, List.set_cons_zero, List.set_cons_succ]
  refine wpList_rd (.bool r44) ?_ ?_ ?_
  focus (rfl)
  focus ((try simp only [lz_true]); go_simp; done)
  simp only [Act.put, List.setIfInBounds_toArray, List.set_cons_zero, List.set_cons_succ]
  refine wpList_lz r44 (.pointer (some ⟨w.heap.size, 6, none⟩)) ?_ ?_ ?_
  focus (exact (wanted_bool rfl rfl rfl rfl (by cases r44 <;> rfl)))
  focus (intro hk; subst hk; (try simp only [lz_true]); go_simp; done)
  simp only [Act.put, List.setIfInBounds_toArray, List.set_cons_zero, List.set_cons_succ]
  refine wpList_lz r44 (.bool sole) ?_ ?_ ?_
  focus (exact (wanted_bool rfl rfl rfl rfl (by cases r44 <;> rfl)))
  focus (intro hk; subst hk; (try simp only [lz_true]); go_simp; done)
  simp only [Act.put, List.setIfInBounds_toArray, List.set_cons_zero, List.set_cons_succ]
  refine wpList_lz r44 (.pointer (some ⟨(w.heap.size + 1), 6, none⟩)) ?_ ?_ ?_
  focus (exact (wanted_bool rfl rfl rfl rfl (by cases r44 <;> rfl)))
  focus (intro hk; subst hk; (try simp only [lz_true]); go_simp; done)
  simp only [Act.put, List.setIfInBounds_toArray, List.set_cons_zero, List.set_cons_succ]
  refine wpList_lz r44 (.bool osole) ?_ ?_ ?_
  focus (exact (wanted_bool rfl rfl rfl rfl (by cases r44 <;> rfl)))
  focus (intro hk; subst hk; (try simp only [lz_true]); go_simp; done)
  simp only [Act.put, List.setIfInBounds_toArray, List.set_cons_zero, List.set_cons_succ]
  obtain ⟨z50, hz50⟩ : ∃ k : Bool, (sole == osole) = k := ⟨_, rfl⟩
  refine wpList_lz r44 (.bool z50) ?_ ?_ ?_
  focus (exact (wanted_bool rfl rfl rfl rfl (by cases r44 <;> rfl)))
  focus (intro hk; subst hk; (try simp only [lz_true]); go_simp; first | done | exact hz50 | rw [hz50] | simp [hz50] | (rw [← hz50]; (first | (simp [beqI, bneI, beqN]; done) | skip)); done)
  simp only [Act.put, List.setIfInBounds_toArray, List.set_cons_zero, List.set_cons_succ]
  have Hz50 := hide hz50.symm
  clear hz50
  obtain ⟨r51, hr51⟩ : ∃ k : Bool, k = (r44 && z50) := ⟨_, rfl⟩
  have Hr51 := hide hr51
  clear hr51
  refine wpList_rd (.bool r51) ?_ ?_ ?_
  focus (rfl)
  focus (refine run_pick_lz _ _ _ rfl r44 rfl _ ?_; rw [Hr51.out]; cases r44 <;> rfl; done)
  simp only [Act.put, List.setIfInBounds_toArray, List.set_cons_zero, List.set_cons_succ]
  refine wpList_rd (.bool r51) ?_ ?_ ?_
  focus (rfl)
  focus ((try simp only [lz_true]); go_simp; done)
  simp only [Act.put, List.setIfInBounds_toArray, List.set_cons_zero, List.set_cons_succ]
  refine wpList_lz r51 (.pointer (some ⟨w.heap.size, 7, none⟩)) ?_ ?_ ?_
  focus (exact (wanted_bool rfl rfl rfl rfl (by cases r51 <;> rfl)))
  focus (intro hk; subst hk; (try simp only [lz_true]); go_simp; done)
  simp only [Act.put, List.setIfInBounds_toArray, List.set_cons_zero, List.set_cons_succ]
  refine wpList_lz r51 (.int .u8 wt) ?_ ?_ ?_
  focus (exact (wanted_bool rfl rfl rfl rfl (by cases r51 <;> rfl)))
  focus (intro hk; subst hk; (try simp only [lz_true]); go_simp; done)
  simp only [Act.put, List.setIfInBounds_toArray, List.set_cons_zero, List.set_cons_succ]
  refine wpList_lz r51 (.pointer (some ⟨(w.heap.size + 1), 7, none⟩)) ?_ ?_ ?_
  focus (exact (wanted_bool rfl rfl rfl rfl (by cases r51 <;> rfl)))
  focus (intro hk; subst hk; (try simp only [lz_true]); go_simp; done)
  simp only [Act.put, List.setIfInBounds_toArray, List.set_cons_zero, List.set_cons_succ]
  refine wpList_lz r51 (.int .u8 owt) ?_ ?_ ?_
  focus (exact (wanted_bool rfl rfl rfl rfl (by cases r51 <;> rfl)))
  focus (intro hk; subst hk; (try simp only [lz_true]); go_simp; done)
  simp only [Act.put, List.setIfInBounds_toArray, List.set_cons_zero, List.set_cons_succ]
  obtain ⟨z57, hz57⟩ : ∃ k : Bool, (wt == owt) = k := ⟨_, rfl⟩
  refine wpList_lz r51 (.bool z57) ?_ ?_ ?_
  focus (exact (wanted_bool rfl rfl rfl rfl (by cases r51 <;> rfl)))
  focus (intro hk; subst hk; (try simp only [lz_true]); go_simp; first | done | exact hz57 | rw [hz57] | simp [hz57] | (rw [← hz57]; (first | (simp [beqI, bneI, beqN]; done) | skip)); done)
  simp only [Act.put, List.setIfInBounds_toArray, List.set_cons_zero, List.set_cons_succ]
  have Hz57 := hide hz57.symm
  clear hz57
  obtain ⟨r58, hr58⟩ : ∃ k : Bool, k = (r51 && z57) := ⟨_, rfl⟩
  have Hr58 := hide hr58
  clear hr58
  refine wpList_rd (.bool r58) ?_ ?_ ?_
  focus (rfl)
  focus (refine run_pick_lz _ _ _ rfl r51 rfl _ ?_; rw [Hr58.out]; cases r51 <;> rfl; done)
  simp only [Act.put, List.setIfInBounds_toArray, List.set_cons_zero, List.set_cons_succ]
  refine wpList_rd (.bool r58) ?_ ?_ ?_
  focus (rfl)
  focus ((try simp only [lz_true]); go_simp; done)
  simp only [Act.put, List.setIfInBounds_toArray, List.set_cons_zero, List.set_cons_succ]
  refine wpList_lz r58 (.pointer (some ⟨w.heap.size, 8, none⟩)) ?_ ?_ ?_
  focus (exact (wanted_bool rfl rfl rfl rfl (by cases r58 <;> rfl)))
  focus (intro hk; subst hk; (try simp only [lz_true]); go_simp; done)
  simp only [Act.put, List.setIfInBounds_toArray, List.set_cons_zero, List.set_cons_succ]
  refine wpList_lz r58 (.int .u32 code) ?_ ?_ ?_
  focus (exact (wanted_bool rfl rfl rfl rfl (by cases r58 <;> rfl)))
  focus (intro hk; subst hk; (try simp only [lz_true]); go_simp; done)
  simp only [Act.put, List.setIfInBounds_toArray, List.set_cons_zero, List.set_cons_succ]
  refine wpList_lz r58 (.pointer (some ⟨(w.heap.size + 1), 8, none⟩)) ?_ ?_ ?_
  focus (exact (wanted_bool rfl rfl rfl rfl (by cases r58 <;> rfl)))
  focus (intro hk; subst hk; (try simp only [lz_true]); go_simp; done)
  simp only [Act.put, List.setIfInBounds_toArray, List.set_cons_zero, List.set_cons_succ]
  refine wpList_lz r58 (.int .u32 ocode) ?_ ?_ ?_
  focus (exact (wanted_bool rfl rfl rfl rfl (by cases r58 <;> rfl)))
  focus (intro hk; subst hk; (try simp only [lz_true]); go_simp; done)
  simp only [Act.put, List.setIfInBounds_toArray, List.set_cons_zero, List.set_cons_succ]
  obtain ⟨z64, hz64⟩ : ∃ k : Bool, (code == ocode) = k := ⟨_, rfl⟩
  refine wpList_lz r58 (.bool z64) ?_ ?_ ?_
  focus (exact (wanted_bool rfl rfl rfl rfl (by cases r58 <;> rfl)))
  focus (intro hk; subst hk; (try simp only [lz_true]); go_simp; first | done | exact hz64 | rw [hz64] | simp [hz64] | (rw [← hz64]; (first | (simp [beqI, bneI, beqN]; done) | skip)); done)
  simp only [Act.put, List.setIfInBounds_toArray, List.set_cons_zero, List.set_cons_succ]
  have Hz64 := hide hz64.symm
  clear hz64
  obtain ⟨r65, hr65⟩ : ∃ k : Bool, k = (r58 && z64) := ⟨_, rfl⟩
  have Hr65 := hide hr65
  clear hr65
  refine wpList_rd (.bool r65) ?_ ?_ ?_
  focus (rfl)
  focus (refine run_pick_lz _ _ _ rfl r58 rfl _ ?_; rw [Hr65.out]; cases r58 <;> rfl; done)
  simp only [Act.put, List.setIfInBounds_toArray, List.set_cons_zero, List.set_cons_succ]
  refine wpList_rd (.bool r65) ?_ ?_ ?_
  focus (rfl)
  focus ((try simp only [lz_true]); go_simp; done)
  simp only [Act.put, List.setIfInBounds_toArray, List.set_cons_zero, List.set_cons_succ]
  refine wpList_lz r65 (.pointer (some ⟨w.heap.size, 9, none⟩)) ?_ ?_ ?_
  focus (exact (wanted_bool rfl rfl rfl rfl (by cases r65 <;> rfl)))
  focus (intro hk; subst hk; (try simp only [lz_true]); go_simp; done)
  simp only [Act.put, List.setIfInBounds_toArray, List.set_cons_zero, List.set_cons_succ]
  refine wpList_lz r65 (.int .i64 last) ?_ ?_ ?_
  focus (exact (wanted_bool rfl rfl rfl rfl (by cases r65 <;> rfl)))
  focus (intro hk; subst hk; (try simp only [lz_true]); go_simp; done)
  simp only [Act.put, List.setIfInBounds_toArray, List.set_cons_zero, List.set_cons_succ]
  refine wpList_lz r65 (.pointer (some ⟨(w.heap.size + 1), 9, none⟩)) ?_ ?_ ?_
  focus (exact (wanted_bool rfl rfl rfl rfl (by cases r65 <;> rfl)))
  focus (intro hk; subst hk; (try simp only [lz_true]); go_simp; done)
  simp only [Act.put, List.setIfInBounds_toArray, List.set_cons_zero, List.set_cons_succ]
  refine wpList_lz r65 (.int .i64 olast) ?_ ?_ ?_
  focus (exact (wanted_bool rfl rfl rfl rfl (by cases r65 <;> rfl)))
  focus (intro hk; subst hk; (try simp only [lz_true]); go_simp; done)
  simp only [Act.put, List.setIfInBounds_toArray, List.set_cons_zero, List.set_cons_succ]
  obtain ⟨z71, hz71⟩ : ∃ k : Bool, (last == olast) = k := ⟨_, rfl⟩
  refine wpList_lz r65 (.bool z71) ?_ ?_ ?_
  focus (exact (wanted_bool rfl rfl rfl rfl (by cases r65 <;> rfl)))
  focus (intro hk; subst hk; (try simp only [lz_true]); go_simp; first | done | exact hz71 | rw [hz71] | simp [hz71] | (rw [← hz71]; (first | (simp [beqI, bneI, beqN]; done) | skip)); done)
  simp only [Act.put, List.setIfInBounds_toArray, List.set_cons_zero, List.set_cons_succ]
  have Hz71 := hide hz71.symm
  clear hz71
  obtain ⟨r72, hr72⟩ : ∃ k : Bool, k = (r65 && z71) := ⟨_, rfl⟩
  have Hr72 := hide hr72
  clear hr72
  refine wpList_rd (.bool r72) ?_ ?_ ?_
  focus (rfl)
  focus (refine run_pick_lz _ _ _ rfl r65 rfl _ ?_; rw [Hr72.out]; cases r65 <;> rfl; done)
  simp only [Act.put, List.setIfInBounds_toArray, List.set_cons_zero, List.set_cons_succ]
  refine wpList_rd (.bool r72) ?_ ?_ ?_
  focus (rfl)
  focus ((try simp only [lz_true]); go_simp; done)
  simp only [Act.put, List.setIfInBounds_toArray, List.set_cons_zero, List.set_cons_succ]
  refine wpList_lz r72 (.pointer (some ⟨w.heap.size, 10, none⟩)) ?_ ?_ ?_
  focus (exact (wanted_bool rfl rfl rfl rfl (by cases r72 <;> rfl)))
  focus (intro hk; subst hk; (try simp only [lz_true]); go_simp; done)
  simp only [Act.put, List.setIfInBounds_toArray, List.set_cons_zero, List.set_cons_succ]
  refine wpList_lz r72 (.int .i64 inc) ?_ ?_ ?_
  focus (exact (wanted_bool rfl rfl rfl rfl (by cases r72 <;> rfl)))
  focus (intro hk; subst hk; (try simp only [lz_true]); go_simp; done)
  simp only [Act.put, List.setIfInBounds_toArray, List.set_cons_zero, List.set_cons_succ]
  refine wpList_lz r72 (.pointer (some ⟨(w.heap.size + 1), 10, none⟩)) ?_ ?_ ?_
  focus (exact (wanted_bool rfl rfl rfl rfl (by cases r72 <;> rfl)))
  focus (intro hk; subst hk; (try simp only [lz_true]); go_simp; done)
  simp only [Act.put, List.setIfInBounds_toArray, List.set_cons_zero, List.set_cons_succ]
  refine wpList_lz r72 (.int .i64 oinc) ?_ ?_ ?_
  focus (exact (wanted_bool rfl rfl rfl rfl (by cases r72 <;> rfl)))
  focus (intro hk; subst hk; (try simp only [lz_true]); go_simp; done)
  simp only [Act.put, List.setIfInBounds_toArray, List.set_cons_zero, List.set_cons_succ]
  obtain ⟨z78, hz78⟩ : ∃ k : Bool, (inc == oinc) = k := ⟨_, rfl⟩
  refine wpList_lz r72 (.bool z78) ?_ ?_ ?_
  focus (exact (wanted_bool rfl rfl rfl rfl (by cases r72 <;> rfl)))
  focus (intro hk; subst hk; (try simp only [lz_true]); go_simp; first | done | exact hz78 | rw [hz78] | simp [hz78] | (rw [← hz78]; (first | (simp [beqI, bneI, beqN]; done) | skip)); done)
  simp only [Act.put, List.setIfInBounds_toArray, List.set_cons_zero, List.set_cons_succ]
  have Hz78 := hide hz78.symm
  clear hz78
  obtain ⟨r79, hr79⟩ : ∃ k : Bool, k = (r72 && z78) := ⟨_, rfl⟩
  have Hr79 := hide hr79
  clear hr79
  refine wpList_rd (.bool r79) ?_ ?_ ?_
  focus (rfl)
  focus (refine run_pick_lz _ _ _ rfl r72 rfl _ ?_; rw [Hr79.out]; cases r72 <;> rfl; done)
  simp only [Act.put, List.setIfInBounds_toArray, List.set_cons_zero, List.set_cons_succ]
  refine wpList_rd (.bool r79) ?_ ?_ ?_
  focus (rfl)
  focus ((try simp only [lz_true]); go_simp; done)
  simp only [Act.put, List.setIfInBounds_toArray, List.set_cons_zero, List.set_cons_succ]
  refine wpList_lz r79 (.pointer (some ⟨w.heap.size, 11, none⟩)) ?_ ?_ ?_
  focus (exact (wanted_bool rfl rfl rfl rfl (by cases r79 <;> rfl)))
  focus (intro hk; subst hk; (try simp only [lz_true]); go_simp; done)
  simp only [Act.put, List.setIfInBounds_toArray, List.set_cons_zero, List.set_cons_succ]
  refine wpList_lz r79 (.slice A n c) ?_ ?_ ?_
  focus (exact (wanted_bool rfl rfl rfl rfl (by cases r79 <;> rfl)))
  focus (intro hk; subst hk; (try simp only [lz_true]); go_simp; done)
  simp only [Act.put, List.setIfInBounds_toArray, List.set_cons_zero, List.set_cons_succ]
  refine wpList_lz r79 (.pointer (some ⟨(w.heap.size + 1), 11, none⟩)) ?_ ?_ ?_
  focus (exact (wanted_bool rfl rfl rfl rfl (by cases r79 <;> rfl)))
  focus (intro hk; subst hk; (try simp only [lz_true]); go_simp; done)
  simp only [Act.put, List.setIfInBounds_toArray, List.set_cons_zero, List.set_cons_succ]
  refine wpList_lz r79 (.slice B m d) ?_ ?_ ?_
  focus (exact (wanted_bool rfl rfl rfl rfl (by cases r79 <;> rfl)))
  focus (intro hk; subst hk; (try simp only [lz_true]); go_simp; done)
  simp only [Act.put, List.setIfInBounds_toArray, List.set_cons_zero, List.set_cons_succ]
  have HQ := hide (show r79 = Fr.same ⟨ty, fl, st, data, pad, dep, sole, wt, code, last, inc⟩ ⟨oty, ofl, ost, odata, opad, odep, osole, owt, ocode, olast, oinc⟩ by rw [Hr79.out, Hz78.out, Hr72.out, Hz71.out, Hr65.out, Hz64.out, Hr58.out, Hz57.out, Hr51.out, Hz50.out, Hr44.out, Hz43.out, Hr37.out, Hz36.out, Hr30.out, Hz29.out, Hr23.out, Hz22.out, Hr16.out, Hz15.out, Hz9.out]; rfl)
  clear Hr79 Hz78 Hr72 Hz71 Hr65 Hz64 Hr58 Hz57 Hr51 Hz50 Hr44 Hz43 Hr37 Hz36 Hr30 Hz29 Hr23 Hz22 Hr16 Hz15 Hz9
  cases r79 with
  | false =>
    go_wp2
    go_ret
    refine ⟨?_, below_two⟩
    rw [sameF, ← HQ.out]; rfl
  | true =>
    go_wp2_with fail
    refine (HE.out _ HA.out HB.out).mono ?_
    rintro e w3 ⟨rfl, hb3⟩
    have HB3 := hide (below_two.trans (hb3.mono (by simp; omega)))
    clear hb3
    go_wp2
    go_ret
    refine ⟨?_, HB3.out⟩
    rw [sameF, ← HQ.out, Bool.true_and]; rfl
end Go.Proofs.Ytighhdgaaelcdaa
