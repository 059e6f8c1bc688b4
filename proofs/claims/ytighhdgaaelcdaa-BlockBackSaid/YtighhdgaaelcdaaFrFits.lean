/-
  Layer 9: whether a frame has no field that its payload has not (fits).
-/
import Derived.Test.YtighhdgaaelcdaaFrFixed
import Derived.Test.YtighhdgaaelcdaaFrLazy
import Derived.Deep.CutRange
namespace Go.Proofs.Ytighhdgaaelcdaa
set_option linter.unusedSimpArgs false
set_option linter.unusedVariables false
open Go.RowKit

/-- What fits asks. -/
def fitV (p d l c i r x : Bool) (F : Fr) (n : Nat) : Bool :=
  ((((((((p || (F.pad == 0)) && (d || ((F.dep == 0) && !F.sole) && (F.wt == 0))) && (l || (F.last == 0))) && (c || (F.code == 0))) && (i || (F.inc == 0))) && (r || (n == 0))) && (x || F.data.toList.isEmpty)))
theorem fr_qs (F : Fr) (A : Option Addr) (n c : Nat) :
    (F.cs A n c)[0]? = some (.int .u8 F.ty) ∧ (F.cs A n c)[1]? = some (.int .u8 F.fl) ∧ (F.cs A n c)[2]? = some (.int .i64 F.st) ∧ (F.cs A n c)[3]? = some (.string F.data) ∧
    (F.cs A n c)[4]? = some (.int .i64 F.pad) ∧ (F.cs A n c)[5]? = some (.int .i64 F.dep) ∧ (F.cs A n c)[6]? = some (.bool F.sole) ∧ (F.cs A n c)[7]? = some (.int .u8 F.wt) ∧
    (F.cs A n c)[8]? = some (.int .u32 F.code) ∧ (F.cs A n c)[9]? = some (.int .i64 F.last) ∧ (F.cs A n c)[10]? = some (.int .i64 F.inc) ∧ (F.cs A n c)[11]? = some (.slice A n c) :=
  ⟨rfl, rfl, rfl, rfl, rfl, rfl, rfl, rfl, rfl, rfl, rfl, rfl⟩

set_option maxRecDepth 100000 in
set_option maxHeartbeats 800000 in
theorem fr_fits (p d l c0 i r x : Bool) (F : Fr) (A : Option Addr) (n c : Nat) (w : World) :
    Calls Try.prog 28 #[.agg (F.cs A n c), .agg #[.bool p, .bool d, .bool l, .bool c0, .bool i, .bool r, .bool x]] w fun e w' => e = .returned (.bool (fitV p d l c0 i r x F n)) ∧ Below w.heap.size w w' := by
  obtain ⟨q0, q1, q2, q3, q4, q5, q6, q7, q8, q9, q10, q11⟩ := fr_qs F A n c
  generalize F.cs A n c = cs at *
  obtain ⟨ty, fl, st, data, pad, dep, sole, wt, code, last, inc⟩ := F
  simp only at q0 q1 q2 q3 q4 q5 q6 q7 q8 q9 q10 q11
  go_enter Try.func28, Try.ntmps28
  go_upto_region 1 with (fail)
  refine wp_region_lit ?_
  refine wpList_rd (.pointer (some ⟨(w.heap.size + 1), 0, none⟩)) ?_ ?_ ?_
  focus (rfl)
  focus ((try simp only [lz_true]); go_simp; done)
  simp only [Act.put, List.setIfInBounds_toArray, List.set_cons_zero, List.set_cons_succ]
  refine wpList_rd (.bool p) ?_ ?_ ?_
  focus (rfl)
  focus ((try simp only [lz_true]); go_simp; done)
  simp only [Act.put, List.setIfInBounds_toArray, List.set_cons_zero, List.set_cons_succ]
  refine wpList_rd (.bool p) ?_ ?_ ?_
  focus (rfl)
  focus ((try simp only [lz_true]); go_simp; done)
  simp only [Act.put, List.setIfInBounds_toArray, List.set_cons_zero, List.set_cons_succ]
  obtain ⟨kk14, hkk14⟩ : ∃ k : Bool, k = (!p) := ⟨_, rfl⟩
  have Hkk14 := hide hkk14
  clear hkk14
  refine wpList_lz kk14 (.pointer (some ⟨w.heap.size, 4, none⟩)) ?_ ?_ ?_
  focus (exact (wanted_bool rfl rfl rfl rfl (by rw [Hkk14.out]; cases p <;> rfl)))
  focus (intro hk; subst hk; (try simp only [lz_true]); go_simp; done)
  simp only [Act.put, List.setIfInBounds_toArray, List.set_cons_zero, List.set_cons_succ]
  refine wpList_lz kk14 (.int .i64 pad) ?_ ?_ ?_
  focus (exact (wanted_bool rfl rfl rfl rfl (by rw [Hkk14.out]; cases p <;> rfl)))
  focus (intro hk; subst hk; (try simp only [lz_true]); go_simp; done)
  simp only [Act.put, List.setIfInBounds_toArray, List.set_cons_zero, List.set_cons_succ]
  obtain ⟨z10, hz10⟩ : ∃ k : Bool, (pad == 0) = k := ⟨_, rfl⟩
  refine wpList_lz kk14 (.bool z10) ?_ ?_ ?_
  focus (exact (wanted_bool rfl rfl rfl rfl (by rw [Hkk14.out]; cases p <;> rfl)))
  focus (intro hk; subst hk; (try simp only [lz_true]); go_simp; first | done | exact hz10 | rw [hz10] | simp [hz10] | (rw [← hz10]; (first | (simp [beqI, bneI, beqN]; done) | skip)); done)
  simp only [Act.put, List.setIfInBounds_toArray, List.set_cons_zero, List.set_cons_succ]
  have Hz10 := hide hz10.symm
  clear hz10
  obtain ⟨r11, hr11⟩ : ∃ k : Bool, k = (p || z10) := ⟨_, rfl⟩
  have Hr11 := hide hr11
  clear hr11
  refine wpList_rd (.bool r11) ?_ ?_ ?_
  focus (rfl)
  focus (refine run_pick_lz _ _ _ rfl p rfl _ ?_; rw [Hr11.out]; (try rw [Hkk14.out]); cases p <;> rfl; done)
  simp only [Act.put, List.setIfInBounds_toArray, List.set_cons_zero, List.set_cons_succ]
  refine wpList_rd (.bool r11) ?_ ?_ ?_
  focus (rfl)
  focus ((try simp only [lz_true]); go_simp; done)
  simp only [Act.put, List.setIfInBounds_toArray, List.set_cons_zero, List.set_cons_succ]
  refine wpList_lz r11 (.pointer (some ⟨(w.heap.size + 1), 1, none⟩)) ?_ ?_ ?_
  focus (exact (wanted_bool rfl rfl rfl rfl (by cases r11 <;> rfl)))
  focus (intro hk; subst hk; (try simp only [lz_true]); go_simp; done)
  simp only [Act.put, List.setIfInBounds_toArray, List.set_cons_zero, List.set_cons_succ]
  refine wpList_lz r11 (.bool d) ?_ ?_ ?_
  focus (exact (wanted_bool rfl rfl rfl rfl (by cases r11 <;> rfl)))
  focus (intro hk; subst hk; (try simp only [lz_true]); go_simp; done)
  simp only [Act.put, List.setIfInBounds_toArray, List.set_cons_zero, List.set_cons_succ]
  refine wpList_lz r11 (.bool d) ?_ ?_ ?_
  focus (exact (wanted_bool rfl rfl rfl rfl (by cases r11 <;> rfl)))
  focus (intro hk; subst hk; (try simp only [lz_true]); go_simp; done)
  simp only [Act.put, List.setIfInBounds_toArray, List.set_cons_zero, List.set_cons_succ]
  obtain ⟨kk30, hkk30⟩ : ∃ k : Bool, k = (r11 && !d) := ⟨_, rfl⟩
  have Hkk30 := hide hkk30
  clear hkk30
  refine wpList_lz kk30 (.pointer (some ⟨w.heap.size, 5, none⟩)) ?_ ?_ ?_
  focus (exact (wanted_lz rfl rfl rfl rfl (by rw [Hkk30.out]; cases r11 <;> cases d <;> rfl)))
  focus (intro hk; subst hk; (try simp only [lz_true]); go_simp; done)
  simp only [Act.put, List.setIfInBounds_toArray, List.set_cons_zero, List.set_cons_succ]
  refine wpList_lz kk30 (.int .i64 dep) ?_ ?_ ?_
  focus (exact (wanted_lz rfl rfl rfl rfl (by rw [Hkk30.out]; cases r11 <;> cases d <;> rfl)))
  focus (intro hk; subst hk; (try simp only [lz_true]); go_simp; done)
  simp only [Act.put, List.setIfInBounds_toArray, List.set_cons_zero, List.set_cons_succ]
  obtain ⟨z18, hz18⟩ : ∃ k : Bool, (dep == 0) = k := ⟨_, rfl⟩
  refine wpList_lz kk30 (.bool z18) ?_ ?_ ?_
  focus (exact (wanted_lz rfl rfl rfl rfl (by rw [Hkk30.out]; cases r11 <;> cases d <;> rfl)))
  focus (intro hk; subst hk; (try simp only [lz_true]); go_simp; first | done | exact hz18 | rw [hz18] | simp [hz18] | (rw [← hz18]; (first | (simp [beqI, bneI, beqN]; done) | skip)); done)
  simp only [Act.put, List.setIfInBounds_toArray, List.set_cons_zero, List.set_cons_succ]
  have Hz18 := hide hz18.symm
  clear hz18
  refine wpList_lz kk30 (.bool z18) ?_ ?_ ?_
  focus (exact (wanted_lz rfl rfl rfl rfl (by rw [Hkk30.out]; cases r11 <;> cases d <;> rfl)))
  focus (intro hk; subst hk; (try simp only [lz_true]); go_simp; done)
  simp only [Act.put, List.setIfInBounds_toArray, List.set_cons_zero, List.set_cons_succ]
  obtain ⟨kk39, hkk39⟩ : ∃ k : Bool, k = (kk30 && z18) := ⟨_, rfl⟩
  have Hkk39 := hide hkk39
  clear hkk39
  refine wpList_lz kk39 (.pointer (some ⟨w.heap.size, 6, none⟩)) ?_ ?_ ?_
  focus (exact (wanted_lz rfl rfl rfl rfl (by rw [Hkk39.out]; cases kk30 <;> cases z18 <;> rfl)))
  focus (intro hk; subst hk; (try simp only [lz_true]); go_simp; done)
  simp only [Act.put, List.setIfInBounds_toArray, List.set_cons_zero, List.set_cons_succ]
  refine wpList_lz kk39 (.bool sole) ?_ ?_ ?_
  focus (exact (wanted_lz rfl rfl rfl rfl (by rw [Hkk39.out]; cases kk30 <;> cases z18 <;> rfl)))
  focus (intro hk; subst hk; (try simp only [lz_true]); go_simp; done)
  simp only [Act.put, List.setIfInBounds_toArray, List.set_cons_zero, List.set_cons_succ]
  obtain ⟨n22, hn22⟩ : ∃ k : Bool, k = (!sole) := ⟨_, rfl⟩
  have Hn22 := hide hn22
  clear hn22
  refine wpList_lz kk39 (.bool n22) ?_ ?_ ?_
  focus (exact (wanted_lz rfl rfl rfl rfl (by rw [Hkk39.out]; cases kk30 <;> cases z18 <;> rfl)))
  focus (intro hk; subst hk; rw [Hn22.out]; (try simp only [lz_true]); go_simp; done)
  simp only [Act.put, List.setIfInBounds_toArray, List.set_cons_zero, List.set_cons_succ]
  obtain ⟨r23, hr23⟩ : ∃ k : Bool, k = (z18 && n22) := ⟨_, rfl⟩
  have Hr23 := hide hr23
  clear hr23
  refine wpList_lz kk30 (.bool r23) ?_ ?_ ?_
  focus (exact (wanted_lz rfl rfl rfl rfl (by rw [Hkk30.out]; cases r11 <;> cases d <;> rfl)))
  focus (intro hk; subst hk; refine run_pick_lz _ _ _ rfl z18 rfl _ ?_; rw [Hr23.out]; (try rw [Hkk39.out]); cases z18 <;> rfl; done)
  simp only [Act.put, List.setIfInBounds_toArray, List.set_cons_zero, List.set_cons_succ]
  refine wpList_lz kk30 (.bool r23) ?_ ?_ ?_
  focus (exact (wanted_lz rfl rfl rfl rfl (by rw [Hkk30.out]; cases r11 <;> cases d <;> rfl)))
  focus (intro hk; subst hk; (try simp only [lz_true]); go_simp; done)
  simp only [Act.put, List.setIfInBounds_toArray, List.set_cons_zero, List.set_cons_succ]
  obtain ⟨kk49, hkk49⟩ : ∃ k : Bool, k = (kk30 && r23) := ⟨_, rfl⟩
  have Hkk49 := hide hkk49
  clear hkk49
  refine wpList_lz kk49 (.pointer (some ⟨w.heap.size, 7, none⟩)) ?_ ?_ ?_
  focus (exact (wanted_lz rfl rfl rfl rfl (by rw [Hkk49.out]; cases kk30 <;> cases r23 <;> rfl)))
  focus (intro hk; subst hk; (try simp only [lz_true]); go_simp; done)
  simp only [Act.put, List.setIfInBounds_toArray, List.set_cons_zero, List.set_cons_succ]
  refine wpList_lz kk49 (.int .u8 wt) ?_ ?_ ?_
  focus (exact (wanted_lz rfl rfl rfl rfl (by rw [Hkk49.out]; cases kk30 <;> cases r23 <;> rfl)))
  focus (intro hk; subst hk; (try simp only [lz_true]); go_simp; done)
  simp only [Act.put, List.setIfInBounds_toArray, List.set_cons_zero, List.set_cons_succ]
  obtain ⟨z27, hz27⟩ : ∃ k : Bool, (wt == 0) = k := ⟨_, rfl⟩
  refine wpList_lz kk49 (.bool z27) ?_ ?_ ?_
  focus (exact (wanted_lz rfl rfl rfl rfl (by rw [Hkk49.out]; cases kk30 <;> cases r23 <;> rfl)))
  focus (intro hk; subst hk; (try simp only [lz_true]); go_simp; first | done | exact hz27 | rw [hz27] | simp [hz27] | (rw [← hz27]; (first | (simp [beqI, bneI, beqN]; done) | skip)); done)
  simp only [Act.put, List.setIfInBounds_toArray, List.set_cons_zero, List.set_cons_succ]
  have Hz27 := hide hz27.symm
  clear hz27
  obtain ⟨r28, hr28⟩ : ∃ k : Bool, k = (r23 && z27) := ⟨_, rfl⟩
  have Hr28 := hide hr28
  clear hr28
  refine wpList_lz kk30 (.bool r28) ?_ ?_ ?_
  focus (exact (wanted_lz rfl rfl rfl rfl (by rw [Hkk30.out]; cases r11 <;> cases d <;> rfl)))
  focus (intro hk; subst hk; refine run_pick_lz _ _ _ rfl r23 rfl _ ?_; rw [Hr28.out]; (try rw [Hkk49.out]); cases r23 <;> rfl; done)
  simp only [Act.put, List.setIfInBounds_toArray, List.set_cons_zero, List.set_cons_succ]
  obtain ⟨r29, hr29⟩ : ∃ k : Bool, k = (d || r28) := ⟨_, rfl⟩
  have Hr29 := hide hr29
  clear hr29
  refine wpList_lz r11 (.bool r29) ?_ ?_ ?_
  focus (exact (wanted_bool rfl rfl rfl rfl (by cases r11 <;> rfl)))
  focus (intro hk; subst hk; refine run_pick_lz _ _ _ rfl d rfl _ ?_; rw [Hr29.out]; (try rw [Hkk30.out]); cases d <;> rfl; done)
  simp only [Act.put, List.setIfInBounds_toArray, List.set_cons_zero, List.set_cons_succ]
  obtain ⟨r30, hr30⟩ : ∃ k : Bool, k = (r11 && r29) := ⟨_, rfl⟩
  have Hr30 := hide hr30
  clear hr30
  refine wpList_rd (.bool r30) ?_ ?_ ?_
  focus (rfl)
  focus (refine run_pick_lz _ _ _ rfl r11 rfl _ ?_; rw [Hr30.out]; cases r11 <;> rfl; done)
  simp only [Act.put, List.setIfInBounds_toArray, List.set_cons_zero, List.set_cons_succ]
  refine wpList_rd (.bool r30) ?_ ?_ ?_
  focus (rfl)
  focus ((try simp only [lz_true]); go_simp; done)
  simp only [Act.put, List.setIfInBounds_toArray, List.set_cons_zero, List.set_cons_succ]
  refine wpList_lz r30 (.pointer (some ⟨(w.heap.size + 1), 2, none⟩)) ?_ ?_ ?_
  focus (exact (wanted_bool rfl rfl rfl rfl (by cases r30 <;> rfl)))
  focus (intro hk; subst hk; (try simp only [lz_true]); go_simp; done)
  simp only [Act.put, List.setIfInBounds_toArray, List.set_cons_zero, List.set_cons_succ]
  refine wpList_lz r30 (.bool l) ?_ ?_ ?_
  focus (exact (wanted_bool rfl rfl rfl rfl (by cases r30 <;> rfl)))
  focus (intro hk; subst hk; (try simp only [lz_true]); go_simp; done)
  simp only [Act.put, List.setIfInBounds_toArray, List.set_cons_zero, List.set_cons_succ]
  refine wpList_lz r30 (.bool l) ?_ ?_ ?_
  focus (exact (wanted_bool rfl rfl rfl rfl (by cases r30 <;> rfl)))
  focus (intro hk; subst hk; (try simp only [lz_true]); go_simp; done)
  simp only [Act.put, List.setIfInBounds_toArray, List.set_cons_zero, List.set_cons_succ]
  obtain ⟨kk68, hkk68⟩ : ∃ k : Bool, k = (r30 && !l) := ⟨_, rfl⟩
  have Hkk68 := hide hkk68
  clear hkk68
  refine wpList_lz kk68 (.pointer (some ⟨w.heap.size, 9, none⟩)) ?_ ?_ ?_
  focus (exact (wanted_lz rfl rfl rfl rfl (by rw [Hkk68.out]; cases r30 <;> cases l <;> rfl)))
  focus (intro hk; subst hk; (try simp only [lz_true]); go_simp; done)
  simp only [Act.put, List.setIfInBounds_toArray, List.set_cons_zero, List.set_cons_succ]
  refine wpList_lz kk68 (.int .i64 last) ?_ ?_ ?_
  focus (exact (wanted_lz rfl rfl rfl rfl (by rw [Hkk68.out]; cases r30 <;> cases l <;> rfl)))
  focus (intro hk; subst hk; (try simp only [lz_true]); go_simp; done)
  simp only [Act.put, List.setIfInBounds_toArray, List.set_cons_zero, List.set_cons_succ]
  obtain ⟨z37, hz37⟩ : ∃ k : Bool, (last == 0) = k := ⟨_, rfl⟩
  refine wpList_lz kk68 (.bool z37) ?_ ?_ ?_
  focus (exact (wanted_lz rfl rfl rfl rfl (by rw [Hkk68.out]; cases r30 <;> cases l <;> rfl)))
  focus (intro hk; subst hk; (try simp only [lz_true]); go_simp; first | done | exact hz37 | rw [hz37] | simp [hz37] | (rw [← hz37]; (first | (simp [beqI, bneI, beqN]; done) | skip)); done)
  simp only [Act.put, List.setIfInBounds_toArray, List.set_cons_zero, List.set_cons_succ]
  have Hz37 := hide hz37.symm
  clear hz37
  obtain ⟨r38, hr38⟩ : ∃ k : Bool, k = (l || z37) := ⟨_, rfl⟩
  have Hr38 := hide hr38
  clear hr38
  refine wpList_lz r30 (.bool r38) ?_ ?_ ?_
  focus (exact (wanted_bool rfl rfl rfl rfl (by cases r30 <;> rfl)))
  focus (intro hk; subst hk; refine run_pick_lz _ _ _ rfl l rfl _ ?_; rw [Hr38.out]; (try rw [Hkk68.out]); cases l <;> rfl; done)
  simp only [Act.put, List.setIfInBounds_toArray, List.set_cons_zero, List.set_cons_succ]
  obtain ⟨r39, hr39⟩ : ∃ k : Bool, k = (r30 && r38) := ⟨_, rfl⟩
  have Hr39 := hide hr39
  clear hr39
  refine wpList_rd (.bool r39) ?_ ?_ ?_
  focus (rfl)
  focus (refine run_pick_lz _ _ _ rfl r30 rfl _ ?_; rw [Hr39.out]; cases r30 <;> rfl; done)
  simp only [Act.put, List.setIfInBounds_toArray, List.set_cons_zero, List.set_cons_succ]
  refine wpList_rd (.bool r39) ?_ ?_ ?_
  focus (rfl)
  focus ((try simp only [lz_true]); go_simp; done)
  simp only [Act.put, List.setIfInBounds_toArray, List.set_cons_zero, List.set_cons_succ]
  refine wpList_lz r39 (.pointer (some ⟨(w.heap.size + 1), 3, none⟩)) ?_ ?_ ?_
  focus (exact (wanted_bool rfl rfl rfl rfl (by cases r39 <;> rfl)))
  focus (intro hk; subst hk; (try simp only [lz_true]); go_simp; done)
  simp only [Act.put, List.setIfInBounds_toArray, List.set_cons_zero, List.set_cons_succ]
  refine wpList_lz r39 (.bool c0) ?_ ?_ ?_
  focus (exact (wanted_bool rfl rfl rfl rfl (by cases r39 <;> rfl)))
  focus (intro hk; subst hk; (try simp only [lz_true]); go_simp; done)
  simp only [Act.put, List.setIfInBounds_toArray, List.set_cons_zero, List.set_cons_succ]
  refine wpList_lz r39 (.bool c0) ?_ ?_ ?_
  focus (exact (wanted_bool rfl rfl rfl rfl (by cases r39 <;> rfl)))
  focus (intro hk; subst hk; (try simp only [lz_true]); go_simp; done)
  simp only [Act.put, List.setIfInBounds_toArray, List.set_cons_zero, List.set_cons_succ]
  obtain ⟨kk86, hkk86⟩ : ∃ k : Bool, k = (r39 && !c0) := ⟨_, rfl⟩
  have Hkk86 := hide hkk86
  clear hkk86
  refine wpList_lz kk86 (.pointer (some ⟨w.heap.size, 8, none⟩)) ?_ ?_ ?_
  focus (exact (wanted_lz rfl rfl rfl rfl (by rw [Hkk86.out]; cases r39 <;> cases c0 <;> rfl)))
  focus (intro hk; subst hk; (try simp only [lz_true]); go_simp; done)
  simp only [Act.put, List.setIfInBounds_toArray, List.set_cons_zero, List.set_cons_succ]
  refine wpList_lz kk86 (.int .u32 code) ?_ ?_ ?_
  focus (exact (wanted_lz rfl rfl rfl rfl (by rw [Hkk86.out]; cases r39 <;> cases c0 <;> rfl)))
  focus (intro hk; subst hk; (try simp only [lz_true]); go_simp; done)
  simp only [Act.put, List.setIfInBounds_toArray, List.set_cons_zero, List.set_cons_succ]
  obtain ⟨z46, hz46⟩ : ∃ k : Bool, (code == 0) = k := ⟨_, rfl⟩
  refine wpList_lz kk86 (.bool z46) ?_ ?_ ?_
  focus (exact (wanted_lz rfl rfl rfl rfl (by rw [Hkk86.out]; cases r39 <;> cases c0 <;> rfl)))
  focus (intro hk; subst hk; (try simp only [lz_true]); go_simp; first | done | exact hz46 | rw [hz46] | simp [hz46] | (rw [← hz46]; (first | (simp [beqI, bneI, beqN]; done) | skip)); done)
  simp only [Act.put, List.setIfInBounds_toArray, List.set_cons_zero, List.set_cons_succ]
  have Hz46 := hide hz46.symm
  clear hz46
  obtain ⟨r47, hr47⟩ : ∃ k : Bool, k = (c0 || z46) := ⟨_, rfl⟩
  have Hr47 := hide hr47
  clear hr47
  refine wpList_lz r39 (.bool r47) ?_ ?_ ?_
  focus (exact (wanted_bool rfl rfl rfl rfl (by cases r39 <;> rfl)))
  focus (intro hk; subst hk; refine run_pick_lz _ _ _ rfl c0 rfl _ ?_; rw [Hr47.out]; (try rw [Hkk86.out]); cases c0 <;> rfl; done)
  simp only [Act.put, List.setIfInBounds_toArray, List.set_cons_zero, List.set_cons_succ]
  obtain ⟨r48, hr48⟩ : ∃ k : Bool, k = (r39 && r47) := ⟨_, rfl⟩
  have Hr48 := hide hr48
  clear hr48
  refine wpList_rd (.bool r48) ?_ ?_ ?_
  focus (rfl)
  focus (refine run_pick_lz _ _ _ rfl r39 rfl _ ?_; rw [Hr48.out]; cases r39 <;> rfl; done)
  simp only [Act.put, List.setIfInBounds_toArray, List.set_cons_zero, List.set_cons_succ]
  refine wpList_rd (.bool r48) ?_ ?_ ?_
  focus (rfl)
  focus ((try simp only [lz_true]); go_simp; done)
  simp only [Act.put, List.setIfInBounds_toArray, List.set_cons_zero, List.set_cons_succ]
  refine wpList_lz r48 (.pointer (some ⟨(w.heap.size + 1), 4, none⟩)) ?_ ?_ ?_
  focus (exact (wanted_bool rfl rfl rfl rfl (by cases r48 <;> rfl)))
  focus (intro hk; subst hk; (try simp only [lz_true]); go_simp; done)
  simp only [Act.put, List.setIfInBounds_toArray, List.set_cons_zero, List.set_cons_succ]
  refine wpList_lz r48 (.bool i) ?_ ?_ ?_
  focus (exact (wanted_bool rfl rfl rfl rfl (by cases r48 <;> rfl)))
  focus (intro hk; subst hk; (try simp only [lz_true]); go_simp; done)
  simp only [Act.put, List.setIfInBounds_toArray, List.set_cons_zero, List.set_cons_succ]
  refine wpList_lz r48 (.bool i) ?_ ?_ ?_
  focus (exact (wanted_bool rfl rfl rfl rfl (by cases r48 <;> rfl)))
  focus (intro hk; subst hk; (try simp only [lz_true]); go_simp; done)
  simp only [Act.put, List.setIfInBounds_toArray, List.set_cons_zero, List.set_cons_succ]
  obtain ⟨kk104, hkk104⟩ : ∃ k : Bool, k = (r48 && !i) := ⟨_, rfl⟩
  have Hkk104 := hide hkk104
  clear hkk104
  refine wpList_lz kk104 (.pointer (some ⟨w.heap.size, 10, none⟩)) ?_ ?_ ?_
  focus (exact (wanted_lz rfl rfl rfl rfl (by rw [Hkk104.out]; cases r48 <;> cases i <;> rfl)))
  focus (intro hk; subst hk; (try simp only [lz_true]); go_simp; done)
  simp only [Act.put, List.setIfInBounds_toArray, List.set_cons_zero, List.set_cons_succ]
  refine wpList_lz kk104 (.int .i64 inc) ?_ ?_ ?_
  focus (exact (wanted_lz rfl rfl rfl rfl (by rw [Hkk104.out]; cases r48 <;> cases i <;> rfl)))
  focus (intro hk; subst hk; (try simp only [lz_true]); go_simp; done)
  simp only [Act.put, List.setIfInBounds_toArray, List.set_cons_zero, List.set_cons_succ]
  obtain ⟨z55, hz55⟩ : ∃ k : Bool, (inc == 0) = k := ⟨_, rfl⟩
  refine wpList_lz kk104 (.bool z55) ?_ ?_ ?_
  focus (exact (wanted_lz rfl rfl rfl rfl (by rw [Hkk104.out]; cases r48 <;> cases i <;> rfl)))
  focus (intro hk; subst hk; (try simp only [lz_true]); go_simp; first | done | exact hz55 | rw [hz55] | simp [hz55] | (rw [← hz55]; (first | (simp [beqI, bneI, beqN]; done) | skip)); done)
  simp only [Act.put, List.setIfInBounds_toArray, List.set_cons_zero, List.set_cons_succ]
  have Hz55 := hide hz55.symm
  clear hz55
  obtain ⟨r56, hr56⟩ : ∃ k : Bool, k = (i || z55) := ⟨_, rfl⟩
  have Hr56 := hide hr56
  clear hr56
  refine wpList_lz r48 (.bool r56) ?_ ?_ ?_
  focus (exact (wanted_bool rfl rfl rfl rfl (by cases r48 <;> rfl)))
  focus (intro hk; subst hk; refine run_pick_lz _ _ _ rfl i rfl _ ?_; rw [Hr56.out]; (try rw [Hkk104.out]); cases i <;> rfl; done)
  simp only [Act.put, List.setIfInBounds_toArray, List.set_cons_zero, List.set_cons_succ]
  obtain ⟨r57, hr57⟩ : ∃ k : Bool, k = (r48 && r56) := ⟨_, rfl⟩
  have Hr57 := hide hr57
  clear hr57
  refine wpList_rd (.bool r57) ?_ ?_ ?_
  focus (rfl)
  focus (refine run_pick_lz _ _ _ rfl r48 rfl _ ?_; rw [Hr57.out]; cases r48 <;> rfl; done)
  simp only [Act.put, List.setIfInBounds_toArray, List.set_cons_zero, List.set_cons_succ]
  refine wpList_rd (.bool r57) ?_ ?_ ?_
  focus (rfl)
  focus ((try simp only [lz_true]); go_simp; done)
  simp only [Act.put, List.setIfInBounds_toArray, List.set_cons_zero, List.set_cons_succ]
  refine wpList_lz r57 (.pointer (some ⟨(w.heap.size + 1), 5, none⟩)) ?_ ?_ ?_
  focus (exact (wanted_bool rfl rfl rfl rfl (by cases r57 <;> rfl)))
  focus (intro hk; subst hk; (try simp only [lz_true]); go_simp; done)
  simp only [Act.put, List.setIfInBounds_toArray, List.set_cons_zero, List.set_cons_succ]
  refine wpList_lz r57 (.bool r) ?_ ?_ ?_
  focus (exact (wanted_bool rfl rfl rfl rfl (by cases r57 <;> rfl)))
  focus (intro hk; subst hk; (try simp only [lz_true]); go_simp; done)
  simp only [Act.put, List.setIfInBounds_toArray, List.set_cons_zero, List.set_cons_succ]
  refine wpList_lz r57 (.bool r) ?_ ?_ ?_
  focus (exact (wanted_bool rfl rfl rfl rfl (by cases r57 <;> rfl)))
  focus (intro hk; subst hk; (try simp only [lz_true]); go_simp; done)
  simp only [Act.put, List.setIfInBounds_toArray, List.set_cons_zero, List.set_cons_succ]
  obtain ⟨kk122, hkk122⟩ : ∃ k : Bool, k = (r57 && !r) := ⟨_, rfl⟩
  have Hkk122 := hide hkk122
  clear hkk122
  refine wpList_lz kk122 (.pointer (some ⟨w.heap.size, 11, none⟩)) ?_ ?_ ?_
  focus (exact (wanted_lz rfl rfl rfl rfl (by rw [Hkk122.out]; cases r57 <;> cases r <;> rfl)))
  focus (intro hk; subst hk; (try simp only [lz_true]); go_simp; done)
  simp only [Act.put, List.setIfInBounds_toArray, List.set_cons_zero, List.set_cons_succ]
  refine wpList_lz kk122 (.slice A n c) ?_ ?_ ?_
  focus (exact (wanted_lz rfl rfl rfl rfl (by rw [Hkk122.out]; cases r57 <;> cases r <;> rfl)))
  focus (intro hk; subst hk; (try simp only [lz_true]); go_simp; done)
  simp only [Act.put, List.setIfInBounds_toArray, List.set_cons_zero, List.set_cons_succ]
  refine wpList_lz kk122 (.int .i64 n) ?_ ?_ ?_
  focus (exact (wanted_lz rfl rfl rfl rfl (by rw [Hkk122.out]; cases r57 <;> cases r <;> rfl)))
  focus (intro hk; subst hk; (try simp only [lz_true]); go_simp; done)
  simp only [Act.put, List.setIfInBounds_toArray, List.set_cons_zero, List.set_cons_succ]
  obtain ⟨z65, hz65⟩ : ∃ k : Bool, (n == 0) = k := ⟨_, rfl⟩
  refine wpList_lz kk122 (.bool z65) ?_ ?_ ?_
  focus (exact (wanted_lz rfl rfl rfl rfl (by rw [Hkk122.out]; cases r57 <;> cases r <;> rfl)))
  focus (intro hk; subst hk; (try simp only [lz_true]); go_simp; first | done | exact hz65 | rw [hz65] | simp [hz65] | (rw [← hz65]; (first | (simp [beqI, bneI, beqN]; done) | skip)); done)
  simp only [Act.put, List.setIfInBounds_toArray, List.set_cons_zero, List.set_cons_succ]
  have Hz65 := hide hz65.symm
  clear hz65
  obtain ⟨r66, hr66⟩ : ∃ k : Bool, k = (r || z65) := ⟨_, rfl⟩
  have Hr66 := hide hr66
  clear hr66
  refine wpList_lz r57 (.bool r66) ?_ ?_ ?_
  focus (exact (wanted_bool rfl rfl rfl rfl (by cases r57 <;> rfl)))
  focus (intro hk; subst hk; refine run_pick_lz _ _ _ rfl r rfl _ ?_; rw [Hr66.out]; (try rw [Hkk122.out]); cases r <;> rfl; done)
  simp only [Act.put, List.setIfInBounds_toArray, List.set_cons_zero, List.set_cons_succ]
  obtain ⟨r67, hr67⟩ : ∃ k : Bool, k = (r57 && r66) := ⟨_, rfl⟩
  have Hr67 := hide hr67
  clear hr67
  refine wpList_rd (.bool r67) ?_ ?_ ?_
  focus (rfl)
  focus (refine run_pick_lz _ _ _ rfl r57 rfl _ ?_; rw [Hr67.out]; cases r57 <;> rfl; done)
  simp only [Act.put, List.setIfInBounds_toArray, List.set_cons_zero, List.set_cons_succ]
  refine wpList_rd (.bool r67) ?_ ?_ ?_
  focus (rfl)
  focus ((try simp only [lz_true]); go_simp; done)
  simp only [Act.put, List.setIfInBounds_toArray, List.set_cons_zero, List.set_cons_succ]
  refine wpList_lz r67 (.pointer (some ⟨(w.heap.size + 1), 6, none⟩)) ?_ ?_ ?_
  focus (exact (wanted_bool rfl rfl rfl rfl (by cases r67 <;> rfl)))
  focus (intro hk; subst hk; (try simp only [lz_true]); go_simp; done)
  simp only [Act.put, List.setIfInBounds_toArray, List.set_cons_zero, List.set_cons_succ]
  refine wpList_lz r67 (.bool x) ?_ ?_ ?_
  focus (exact (wanted_bool rfl rfl rfl rfl (by cases r67 <;> rfl)))
  focus (intro hk; subst hk; (try simp only [lz_true]); go_simp; done)
  simp only [Act.put, List.setIfInBounds_toArray, List.set_cons_zero, List.set_cons_succ]
  refine wpList_lz r67 (.bool x) ?_ ?_ ?_
  focus (exact (wanted_bool rfl rfl rfl rfl (by cases r67 <;> rfl)))
  focus (intro hk; subst hk; (try simp only [lz_true]); go_simp; done)
  simp only [Act.put, List.setIfInBounds_toArray, List.set_cons_zero, List.set_cons_succ]
  obtain ⟨kk142, hkk142⟩ : ∃ k : Bool, k = (r67 && !x) := ⟨_, rfl⟩
  have Hkk142 := hide hkk142
  clear hkk142
  refine wpList_lz kk142 (.pointer (some ⟨w.heap.size, 3, none⟩)) ?_ ?_ ?_
  focus (exact (wanted_lz rfl rfl rfl rfl (by rw [Hkk142.out]; cases r67 <;> cases x <;> rfl)))
  focus (intro hk; subst hk; (try simp only [lz_true]); go_simp; done)
  simp only [Act.put, List.setIfInBounds_toArray, List.set_cons_zero, List.set_cons_succ]
  refine wpList_lz kk142 (.string data) ?_ ?_ ?_
  focus (exact (wanted_lz rfl rfl rfl rfl (by rw [Hkk142.out]; cases r67 <;> cases x <;> rfl)))
  focus (intro hk; subst hk; (try simp only [lz_true]); go_simp; done)
  simp only [Act.put, List.setIfInBounds_toArray, List.set_cons_zero, List.set_cons_succ]
  obtain ⟨z74, hz74⟩ : ∃ k : Bool, (data.toList.isEmpty) = k := ⟨_, rfl⟩
  refine wpList_lz kk142 (.bool z74) ?_ ?_ ?_
  focus (exact (wanted_lz rfl rfl rfl rfl (by rw [Hkk142.out]; cases r67 <;> cases x <;> rfl)))
  focus (intro hk; subst hk; (try simp only [lz_true]); go_simp; first | done | exact hz74 | rw [hz74] | simp [hz74] | (rw [← hz74]; (first | (simp [beqI, bneI, beqN]; done) | skip)); done)
  simp only [Act.put, List.setIfInBounds_toArray, List.set_cons_zero, List.set_cons_succ]
  have Hz74 := hide hz74.symm
  clear hz74
  obtain ⟨r75, hr75⟩ : ∃ k : Bool, k = (x || z74) := ⟨_, rfl⟩
  have Hr75 := hide hr75
  clear hr75
  refine wpList_lz r67 (.bool r75) ?_ ?_ ?_
  focus (exact (wanted_bool rfl rfl rfl rfl (by cases r67 <;> rfl)))
  focus (intro hk; subst hk; refine run_pick_lz _ _ _ rfl x rfl _ ?_; rw [Hr75.out]; (try rw [Hkk142.out]); cases x <;> rfl; done)
  simp only [Act.put, List.setIfInBounds_toArray, List.set_cons_zero, List.set_cons_succ]
  obtain ⟨r76, hr76⟩ : ∃ k : Bool, k = (r67 && r75) := ⟨_, rfl⟩
  have Hr76 := hide hr76
  clear hr76
  refine wpList_rd (.bool r76) ?_ ?_ ?_
  focus (rfl)
  focus (refine run_pick_lz _ _ _ rfl r67 rfl _ ?_; rw [Hr76.out]; cases r67 <;> rfl; done)
  simp only [Act.put, List.setIfInBounds_toArray, List.set_cons_zero, List.set_cons_succ]
  go_wp2
  go_ret
  refine ⟨?_, below_two⟩
  rw [Hr76.out, Hr75.out, Hz74.out, Hkk142.out, Hr67.out, Hr66.out, Hz65.out, Hkk122.out, Hr57.out, Hr56.out, Hz55.out, Hkk104.out, Hr48.out, Hr47.out, Hz46.out, Hkk86.out, Hr39.out, Hr38.out, Hz37.out, Hkk68.out, Hr30.out, Hr29.out, Hr28.out, Hz27.out, Hkk49.out, Hr23.out, Hn22.out, Hkk39.out, Hz18.out, Hkk30.out, Hr11.out, Hz10.out, Hkk14.out]
  rfl
end Go.Proofs.Ytighhdgaaelcdaa
