/-
  Layer 9: what the document calls too much (extra).
-/
import Derived.Test.YtefdhbljcnpggaaRpMath
import Derived.Test.YtefdhbljcnpggaaRpSmall
import Derived.Test.YtefdhbljcnpggaaRpLazy
import Derived.Deep.CutRange
namespace Go.Proofs.Ytefdhbljcnpggaa
open Go.RowKit

theorem ext_n (n : Nat) : decide ((0 : Int) < (n : Int)) = !(n == 0) := by
  cases n with
  | zero => rfl
  | succ n => simp
theorem ext_d (n : Nat) : ((n : Int) != 8) = !(n == 8) := by
  by_cases h : n = 8
  · subst h; rfl
  · have h2 : ((n : Int) != 8) = true := by simp; omega
    rw [h2]; simp [h]

set_option maxRecDepth 100000 in
set_option maxHeartbeats 1600000 in
theorem rp_extra (F : Fr) (A : Option Addr) (n c : Nat) (t0 : 0 ≤ F.ty) (f0 : 0 ≤ F.fl) (f1 : F.fl ≤ 255) (w : World) :
    Calls Try.prog 45 #[.agg (F.cs A n c)] w fun e w' => e = .returned (.bool (F.extraB n)) ∧ Below w.heap.size w w' := by
  have HP := hide (fun w => rg_padded F A n c t0 f0 f1 w)
  have HD := hide (fun w => rp_weighed F A n c f0 f1 w)
  have HH := hide (fun w => rg_has F A n c f0 f1 1 (by omega) w)
  have HZ := hide (show (Try.prog.info? 35).map (·.size) = some (F.cs A n c).size from rfr_sz)
  obtain ⟨q0, q1, q2, q3, q4, q5, q6, q7, q8, q9, q10, q11⟩ := fr_qs F A n c
  obtain ⟨P, hP⟩ : ∃ P, P = shP F.ty F.fl := ⟨_, rfl⟩
  obtain ⟨D, hD⟩ : ∃ P, P = shD F.ty F.fl := ⟨_, rfl⟩
  obtain ⟨a1, ha1⟩ : ∃ P, P = hasB F.fl 1 := ⟨_, rfl⟩
  rw [← hP] at HP
  rw [← hD] at HD
  rw [show ((1 : Nat) : Int) = 1 from rfl, ← ha1] at HH
  have EP := hide hP
  have ED := hide hD
  have EA := hide ha1
  clear hP hD ha1
  generalize F.cs A n c = cs at *
  go_enter Try.func45, Try.ntmps45
  go_upto_region 1 with (fail)
  have B0 := hide (Below.refl w.heap.size w)
  have KN1 := hide (BlkIs.new w 35 cs)
  obtain ⟨g, hg⟩ : ∃ g, g = w.heap.size := ⟨_, rfl⟩
  have B1 := hide (B0.out.alloc B0.out.size (.cells cs 35))
  rw [← hg] at KN1 ⊢
  generalize w.alloc (.cells cs 35) = w1 at B1 KN1 ⊢
  clear hg B0
  have k0 := (KN1.out.cell 0).trans q0
  go_upto_region 2 with (fail)
  clear k0
  refine wp_region_lit ?_
  refine wpList_rd (.agg cs) ?_ ?_ ?_
  focus (rfl)
  focus (refine run_load_blk 35 (.tmp 1) rfl g ?_ _ cs _ KN1.out Try.underlying35 rfl HZ.out; (try simp only [lz_true]); rfl; done)
  simp only [Act.put, List.setIfInBounds_toArray, List.set_cons_zero, List.set_cons_succ]
  refine wpList_rdcall P _ _ rfl (by (try simp only [lz_true]); go_simp) (HP.out _) ?_
  intro w12 hb12
  have K12 := hide (KN1.out.keep hb12)
  have B12 := hide (B1.out.trans (hb12.mono B1.out.size))
  clear hb12 KN1 B1
  simp only [Act.put, List.setIfInBounds_toArray, List.set_cons_zero, List.set_cons_succ]
  obtain ⟨n8, hn8⟩ : ∃ k : Bool, k = (!P) := ⟨_, rfl⟩
  have Hn8 := hide hn8
  clear hn8
  refine wpList_rd (.bool n8) ?_ ?_ ?_
  focus (rfl)
  focus (rw [Hn8.out]; (try simp only [lz_true]); go_simp; done)
  simp only [Act.put, List.setIfInBounds_toArray, List.set_cons_zero, List.set_cons_succ]
  refine wpList_rd (.bool n8) ?_ ?_ ?_
  focus (rfl)
  focus ((try simp only [lz_true]); go_simp; done)
  simp only [Act.put, List.setIfInBounds_toArray, List.set_cons_zero, List.set_cons_succ]
  refine wpList_lz n8 (.pointer (some ⟨g, 4, none⟩)) ?_ ?_ ?_
  focus (exact (wanted_bool rfl rfl rfl rfl (by cases n8 <;> rfl)))
  focus (intro hk; subst hk; (try simp only [lz_true]); go_simp; done)
  simp only [Act.put, List.setIfInBounds_toArray, List.set_cons_zero, List.set_cons_succ]
  refine wpList_lz n8 (.int .i64 F.pad) ?_ ?_ ?_
  focus (exact (wanted_bool rfl rfl rfl rfl (by cases n8 <;> rfl)))
  focus (intro hk; subst hk; have kc := (K12.out.cell 4).trans q4; (try simp only [lz_true]); go_simp; done)
  simp only [Act.put, List.setIfInBounds_toArray, List.set_cons_zero, List.set_cons_succ]
  obtain ⟨z12, hz12⟩ : ∃ k : Bool, (F.pad != 0) = k := ⟨_, rfl⟩
  refine wpList_lz n8 (.bool z12) ?_ ?_ ?_
  focus (exact (wanted_bool rfl rfl rfl rfl (by cases n8 <;> rfl)))
  focus (intro hk; subst hk; (try simp only [lz_true]); go_simp; first | done | exact hz12 | rw [hz12] | simp [hz12] | (rw [← hz12]; (first | (simp [beqI, bneI, beqN]; done) | skip)); done)
  simp only [Act.put, List.setIfInBounds_toArray, List.set_cons_zero, List.set_cons_succ]
  have Hz12 := hide hz12.symm
  clear hz12
  obtain ⟨r13, hr13⟩ : ∃ k : Bool, k = (n8 && z12) := ⟨_, rfl⟩
  have Hr13 := hide hr13
  clear hr13
  refine wpList_rd (.bool r13) ?_ ?_ ?_
  focus (rfl)
  focus (refine run_pick_lz _ _ _ rfl n8 rfl _ ?_; rw [Hr13.out]; cases n8 <;> rfl; done)
  simp only [Act.put, List.setIfInBounds_toArray, List.set_cons_zero, List.set_cons_succ]
  refine wpList_rd (.bool r13) ?_ ?_ ?_
  focus (rfl)
  focus ((try simp only [lz_true]); go_simp; done)
  simp only [Act.put, List.setIfInBounds_toArray, List.set_cons_zero, List.set_cons_succ]
  obtain ⟨kk28, hkk28⟩ : ∃ k : Bool, k = (!r13) := ⟨_, rfl⟩
  have Hkk28 := hide hkk28
  clear hkk28
  refine wpList_lz kk28 (.agg cs) ?_ ?_ ?_
  focus (exact (wanted_bool rfl rfl rfl rfl (by rw [Hkk28.out]; cases r13 <;> rfl)))
  focus (intro hk; subst hk; refine run_load_blk 35 (.tmp 1) rfl g ?_ _ cs _ K12.out Try.underlying35 rfl HZ.out; (try simp only [lz_true]); rfl; done)
  simp only [Act.put, List.setIfInBounds_toArray, List.set_cons_zero, List.set_cons_succ]
  refine wpList_lzcall kk28 D _ _ (wanted_bool rfl rfl rfl rfl (by rw [Hkk28.out]; cases r13 <;> rfl)) (by intro hk; subst hk; (try simp only [lz_true]); go_simp; done) (fun _ => HD.out _) ?_
  intro w13 hb13
  have K13 := hide (K12.out.keep hb13)
  have B13 := hide (B12.out.trans (hb13.mono B12.out.size))
  clear hb13 K12 B12
  simp only [Act.put, List.setIfInBounds_toArray, List.set_cons_zero, List.set_cons_succ]
  obtain ⟨n17, hn17⟩ : ∃ k : Bool, k = (!D) := ⟨_, rfl⟩
  have Hn17 := hide hn17
  clear hn17
  refine wpList_lz kk28 (.bool n17) ?_ ?_ ?_
  focus (exact (wanted_bool rfl rfl rfl rfl (by rw [Hkk28.out]; cases r13 <;> rfl)))
  focus (intro hk; subst hk; rw [Hn17.out]; (try simp only [lz_true]); go_simp; done)
  simp only [Act.put, List.setIfInBounds_toArray, List.set_cons_zero, List.set_cons_succ]
  refine wpList_lz kk28 (.bool n17) ?_ ?_ ?_
  focus (exact (wanted_bool rfl rfl rfl rfl (by rw [Hkk28.out]; cases r13 <;> rfl)))
  focus (intro hk; subst hk; (try simp only [lz_true]); go_simp; done)
  simp only [Act.put, List.setIfInBounds_toArray, List.set_cons_zero, List.set_cons_succ]
  obtain ⟨kk37, hkk37⟩ : ∃ k : Bool, k = (kk28 && n17) := ⟨_, rfl⟩
  have Hkk37 := hide hkk37
  clear hkk37
  refine wpList_lz kk37 (.pointer (some ⟨g, 5, none⟩)) ?_ ?_ ?_
  focus (exact (wanted_lz rfl rfl rfl rfl (by rw [Hkk37.out]; cases kk28 <;> cases n17 <;> rfl)))
  focus (intro hk; subst hk; (try simp only [lz_true]); go_simp; done)
  simp only [Act.put, List.setIfInBounds_toArray, List.set_cons_zero, List.set_cons_succ]
  refine wpList_lz kk37 (.int .i64 F.dep) ?_ ?_ ?_
  focus (exact (wanted_lz rfl rfl rfl rfl (by rw [Hkk37.out]; cases kk28 <;> cases n17 <;> rfl)))
  focus (intro hk; subst hk; have kc := (K13.out.cell 5).trans q5; (try simp only [lz_true]); go_simp; done)
  simp only [Act.put, List.setIfInBounds_toArray, List.set_cons_zero, List.set_cons_succ]
  obtain ⟨z21, hz21⟩ : ∃ k : Bool, (F.dep != 0) = k := ⟨_, rfl⟩
  refine wpList_lz kk37 (.bool z21) ?_ ?_ ?_
  focus (exact (wanted_lz rfl rfl rfl rfl (by rw [Hkk37.out]; cases kk28 <;> cases n17 <;> rfl)))
  focus (intro hk; subst hk; (try simp only [lz_true]); go_simp; first | done | exact hz21 | rw [hz21] | simp [hz21] | (rw [← hz21]; (first | (simp [beqI, bneI, beqN]; done) | skip)); done)
  simp only [Act.put, List.setIfInBounds_toArray, List.set_cons_zero, List.set_cons_succ]
  have Hz21 := hide hz21.symm
  clear hz21
  refine wpList_lz kk37 (.bool z21) ?_ ?_ ?_
  focus (exact (wanted_lz rfl rfl rfl rfl (by rw [Hkk37.out]; cases kk28 <;> cases n17 <;> rfl)))
  focus (intro hk; subst hk; (try simp only [lz_true]); go_simp; done)
  simp only [Act.put, List.setIfInBounds_toArray, List.set_cons_zero, List.set_cons_succ]
  obtain ⟨kk44, hkk44⟩ : ∃ k : Bool, k = (kk37 && !z21) := ⟨_, rfl⟩
  have Hkk44 := hide hkk44
  clear hkk44
  refine wpList_lz kk44 (.pointer (some ⟨g, 6, none⟩)) ?_ ?_ ?_
  focus (exact (wanted_lz rfl rfl rfl rfl (by rw [Hkk44.out]; cases kk37 <;> cases z21 <;> rfl)))
  focus (intro hk; subst hk; (try simp only [lz_true]); go_simp; done)
  simp only [Act.put, List.setIfInBounds_toArray, List.set_cons_zero, List.set_cons_succ]
  refine wpList_lz kk44 (.bool F.sole) ?_ ?_ ?_
  focus (exact (wanted_lz rfl rfl rfl rfl (by rw [Hkk44.out]; cases kk37 <;> cases z21 <;> rfl)))
  focus (intro hk; subst hk; have kc := (K13.out.cell 6).trans q6; (try simp only [lz_true]); go_simp; done)
  simp only [Act.put, List.setIfInBounds_toArray, List.set_cons_zero, List.set_cons_succ]
  obtain ⟨r25, hr25⟩ : ∃ k : Bool, k = (z21 || F.sole) := ⟨_, rfl⟩
  have Hr25 := hide hr25
  clear hr25
  refine wpList_lz kk37 (.bool r25) ?_ ?_ ?_
  focus (exact (wanted_lz rfl rfl rfl rfl (by rw [Hkk37.out]; cases kk28 <;> cases n17 <;> rfl)))
  focus (intro hk; subst hk; refine run_pick_lz _ _ _ rfl z21 rfl _ ?_; rw [Hr25.out]; (try rw [Hkk44.out]); cases z21 <;> rfl; done)
  simp only [Act.put, List.setIfInBounds_toArray, List.set_cons_zero, List.set_cons_succ]
  refine wpList_lz kk37 (.bool r25) ?_ ?_ ?_
  focus (exact (wanted_lz rfl rfl rfl rfl (by rw [Hkk37.out]; cases kk28 <;> cases n17 <;> rfl)))
  focus (intro hk; subst hk; (try simp only [lz_true]); go_simp; done)
  simp only [Act.put, List.setIfInBounds_toArray, List.set_cons_zero, List.set_cons_succ]
  obtain ⟨kk52, hkk52⟩ : ∃ k : Bool, k = (kk37 && !r25) := ⟨_, rfl⟩
  have Hkk52 := hide hkk52
  clear hkk52
  refine wpList_lz kk52 (.pointer (some ⟨g, 7, none⟩)) ?_ ?_ ?_
  focus (exact (wanted_lz rfl rfl rfl rfl (by rw [Hkk52.out]; cases kk37 <;> cases r25 <;> rfl)))
  focus (intro hk; subst hk; (try simp only [lz_true]); go_simp; done)
  simp only [Act.put, List.setIfInBounds_toArray, List.set_cons_zero, List.set_cons_succ]
  refine wpList_lz kk52 (.int .u8 F.wt) ?_ ?_ ?_
  focus (exact (wanted_lz rfl rfl rfl rfl (by rw [Hkk52.out]; cases kk37 <;> cases r25 <;> rfl)))
  focus (intro hk; subst hk; have kc := (K13.out.cell 7).trans q7; (try simp only [lz_true]); go_simp; done)
  simp only [Act.put, List.setIfInBounds_toArray, List.set_cons_zero, List.set_cons_succ]
  obtain ⟨z29, hz29⟩ : ∃ k : Bool, (F.wt != 0) = k := ⟨_, rfl⟩
  refine wpList_lz kk52 (.bool z29) ?_ ?_ ?_
  focus (exact (wanted_lz rfl rfl rfl rfl (by rw [Hkk52.out]; cases kk37 <;> cases r25 <;> rfl)))
  focus (intro hk; subst hk; (try simp only [lz_true]); go_simp; first | done | exact hz29 | rw [hz29] | simp [hz29] | (rw [← hz29]; (first | (simp [beqI, bneI, beqN]; done) | skip)); done)
  simp only [Act.put, List.setIfInBounds_toArray, List.set_cons_zero, List.set_cons_succ]
  have Hz29 := hide hz29.symm
  clear hz29
  obtain ⟨r30, hr30⟩ : ∃ k : Bool, k = (r25 || z29) := ⟨_, rfl⟩
  have Hr30 := hide hr30
  clear hr30
  refine wpList_lz kk37 (.bool r30) ?_ ?_ ?_
  focus (exact (wanted_lz rfl rfl rfl rfl (by rw [Hkk37.out]; cases kk28 <;> cases n17 <;> rfl)))
  focus (intro hk; subst hk; refine run_pick_lz _ _ _ rfl r25 rfl _ ?_; rw [Hr30.out]; (try rw [Hkk52.out]); cases r25 <;> rfl; done)
  simp only [Act.put, List.setIfInBounds_toArray, List.set_cons_zero, List.set_cons_succ]
  obtain ⟨r31, hr31⟩ : ∃ k : Bool, k = (n17 && r30) := ⟨_, rfl⟩
  have Hr31 := hide hr31
  clear hr31
  refine wpList_lz kk28 (.bool r31) ?_ ?_ ?_
  focus (exact (wanted_bool rfl rfl rfl rfl (by rw [Hkk28.out]; cases r13 <;> rfl)))
  focus (intro hk; subst hk; refine run_pick_lz _ _ _ rfl n17 rfl _ ?_; rw [Hr31.out]; (try rw [Hkk37.out]); cases n17 <;> rfl; done)
  simp only [Act.put, List.setIfInBounds_toArray, List.set_cons_zero, List.set_cons_succ]
  obtain ⟨r32, hr32⟩ : ∃ k : Bool, k = (r13 || r31) := ⟨_, rfl⟩
  have Hr32 := hide hr32
  clear hr32
  refine wpList_rd (.bool r32) ?_ ?_ ?_
  focus (rfl)
  focus (refine run_pick_lz _ _ _ rfl r13 rfl _ ?_; rw [Hr32.out]; (try rw [Hkk28.out]); cases r13 <;> rfl; done)
  simp only [Act.put, List.setIfInBounds_toArray, List.set_cons_zero, List.set_cons_succ]
  refine wpList_rd (.bool r32) ?_ ?_ ?_
  focus (rfl)
  focus ((try simp only [lz_true]); go_simp; done)
  simp only [Act.put, List.setIfInBounds_toArray, List.set_cons_zero, List.set_cons_succ]
  obtain ⟨kk66, hkk66⟩ : ∃ k : Bool, k = (!r32) := ⟨_, rfl⟩
  have Hkk66 := hide hkk66
  clear hkk66
  refine wpList_lz kk66 (.int .u8 F.ty) ?_ ?_ ?_
  focus (exact (wanted_bool rfl rfl rfl rfl (by rw [Hkk66.out]; cases r32 <;> rfl)))
  focus (intro hk; subst hk; (try simp only [lz_true]); go_simp; done)
  simp only [Act.put, List.setIfInBounds_toArray, List.set_cons_zero, List.set_cons_succ]
  obtain ⟨z35, hz35⟩ : ∃ k : Bool, (F.ty != 3) = k := ⟨_, rfl⟩
  refine wpList_lz kk66 (.bool z35) ?_ ?_ ?_
  focus (exact (wanted_bool rfl rfl rfl rfl (by rw [Hkk66.out]; cases r32 <;> rfl)))
  focus (intro hk; subst hk; (try simp only [lz_true]); go_simp; first | done | exact hz35 | rw [hz35] | simp [hz35] | (rw [← hz35]; (first | (simp [beqI, bneI, beqN]; done) | skip)); done)
  simp only [Act.put, List.setIfInBounds_toArray, List.set_cons_zero, List.set_cons_succ]
  have Hz35 := hide hz35.symm
  clear hz35
  refine wpList_lz kk66 (.bool z35) ?_ ?_ ?_
  focus (exact (wanted_bool rfl rfl rfl rfl (by rw [Hkk66.out]; cases r32 <;> rfl)))
  focus (intro hk; subst hk; (try simp only [lz_true]); go_simp; done)
  simp only [Act.put, List.setIfInBounds_toArray, List.set_cons_zero, List.set_cons_succ]
  obtain ⟨kk73, hkk73⟩ : ∃ k : Bool, k = (kk66 && z35) := ⟨_, rfl⟩
  have Hkk73 := hide hkk73
  clear hkk73
  refine wpList_lz kk73 (.int .u8 F.ty) ?_ ?_ ?_
  focus (exact (wanted_lz rfl rfl rfl rfl (by rw [Hkk73.out]; cases kk66 <;> cases z35 <;> rfl)))
  focus (intro hk; subst hk; (try simp only [lz_true]); go_simp; done)
  simp only [Act.put, List.setIfInBounds_toArray, List.set_cons_zero, List.set_cons_succ]
  obtain ⟨z38, hz38⟩ : ∃ k : Bool, (F.ty != 7) = k := ⟨_, rfl⟩
  refine wpList_lz kk73 (.bool z38) ?_ ?_ ?_
  focus (exact (wanted_lz rfl rfl rfl rfl (by rw [Hkk73.out]; cases kk66 <;> cases z35 <;> rfl)))
  focus (intro hk; subst hk; (try simp only [lz_true]); go_simp; first | done | exact hz38 | rw [hz38] | simp [hz38] | (rw [← hz38]; (first | (simp [beqI, bneI, beqN]; done) | skip)); done)
  simp only [Act.put, List.setIfInBounds_toArray, List.set_cons_zero, List.set_cons_succ]
  have Hz38 := hide hz38.symm
  clear hz38
  obtain ⟨r39, hr39⟩ : ∃ k : Bool, k = (z35 && z38) := ⟨_, rfl⟩
  have Hr39 := hide hr39
  clear hr39
  refine wpList_lz kk66 (.bool r39) ?_ ?_ ?_
  focus (exact (wanted_bool rfl rfl rfl rfl (by rw [Hkk66.out]; cases r32 <;> rfl)))
  focus (intro hk; subst hk; refine run_pick_lz _ _ _ rfl z35 rfl _ ?_; rw [Hr39.out]; (try rw [Hkk73.out]); cases z35 <;> rfl; done)
  simp only [Act.put, List.setIfInBounds_toArray, List.set_cons_zero, List.set_cons_succ]
  refine wpList_lz kk66 (.bool r39) ?_ ?_ ?_
  focus (exact (wanted_bool rfl rfl rfl rfl (by rw [Hkk66.out]; cases r32 <;> rfl)))
  focus (intro hk; subst hk; (try simp only [lz_true]); go_simp; done)
  simp only [Act.put, List.setIfInBounds_toArray, List.set_cons_zero, List.set_cons_succ]
  obtain ⟨kk81, hkk81⟩ : ∃ k : Bool, k = (kk66 && r39) := ⟨_, rfl⟩
  have Hkk81 := hide hkk81
  clear hkk81
  refine wpList_lz kk81 (.pointer (some ⟨g, 8, none⟩)) ?_ ?_ ?_
  focus (exact (wanted_lz rfl rfl rfl rfl (by rw [Hkk81.out]; cases kk66 <;> cases r39 <;> rfl)))
  focus (intro hk; subst hk; (try simp only [lz_true]); go_simp; done)
  simp only [Act.put, List.setIfInBounds_toArray, List.set_cons_zero, List.set_cons_succ]
  refine wpList_lz kk81 (.int .u32 F.code) ?_ ?_ ?_
  focus (exact (wanted_lz rfl rfl rfl rfl (by rw [Hkk81.out]; cases kk66 <;> cases r39 <;> rfl)))
  focus (intro hk; subst hk; have kc := (K13.out.cell 8).trans q8; (try simp only [lz_true]); go_simp; done)
  simp only [Act.put, List.setIfInBounds_toArray, List.set_cons_zero, List.set_cons_succ]
  obtain ⟨z43, hz43⟩ : ∃ k : Bool, (F.code != 0) = k := ⟨_, rfl⟩
  refine wpList_lz kk81 (.bool z43) ?_ ?_ ?_
  focus (exact (wanted_lz rfl rfl rfl rfl (by rw [Hkk81.out]; cases kk66 <;> cases r39 <;> rfl)))
  focus (intro hk; subst hk; (try simp only [lz_true]); go_simp; first | done | exact hz43 | rw [hz43] | simp [hz43] | (rw [← hz43]; (first | (simp [beqI, bneI, beqN]; done) | skip)); done)
  simp only [Act.put, List.setIfInBounds_toArray, List.set_cons_zero, List.set_cons_succ]
  have Hz43 := hide hz43.symm
  clear hz43
  obtain ⟨r44, hr44⟩ : ∃ k : Bool, k = (r39 && z43) := ⟨_, rfl⟩
  have Hr44 := hide hr44
  clear hr44
  refine wpList_lz kk66 (.bool r44) ?_ ?_ ?_
  focus (exact (wanted_bool rfl rfl rfl rfl (by rw [Hkk66.out]; cases r32 <;> rfl)))
  focus (intro hk; subst hk; refine run_pick_lz _ _ _ rfl r39 rfl _ ?_; rw [Hr44.out]; (try rw [Hkk81.out]); cases r39 <;> rfl; done)
  simp only [Act.put, List.setIfInBounds_toArray, List.set_cons_zero, List.set_cons_succ]
  obtain ⟨r45, hr45⟩ : ∃ k : Bool, k = (r32 || r44) := ⟨_, rfl⟩
  have Hr45 := hide hr45
  clear hr45
  refine wpList_rd (.bool r45) ?_ ?_ ?_
  focus (rfl)
  focus (refine run_pick_lz _ _ _ rfl r32 rfl _ ?_; rw [Hr45.out]; (try rw [Hkk66.out]); cases r32 <;> rfl; done)
  simp only [Act.put, List.setIfInBounds_toArray, List.set_cons_zero, List.set_cons_succ]
  refine wpList_rd (.bool r45) ?_ ?_ ?_
  focus (rfl)
  focus ((try simp only [lz_true]); go_simp; done)
  simp only [Act.put, List.setIfInBounds_toArray, List.set_cons_zero, List.set_cons_succ]
  obtain ⟨kk92, hkk92⟩ : ∃ k : Bool, k = (!r45) := ⟨_, rfl⟩
  have Hkk92 := hide hkk92
  clear hkk92
  refine wpList_lz kk92 (.int .u8 F.ty) ?_ ?_ ?_
  focus (exact (wanted_bool rfl rfl rfl rfl (by rw [Hkk92.out]; cases r45 <;> rfl)))
  focus (intro hk; subst hk; (try simp only [lz_true]); go_simp; done)
  simp only [Act.put, List.setIfInBounds_toArray, List.set_cons_zero, List.set_cons_succ]
  obtain ⟨z48, hz48⟩ : ∃ k : Bool, (F.ty != 7) = k := ⟨_, rfl⟩
  refine wpList_lz kk92 (.bool z48) ?_ ?_ ?_
  focus (exact (wanted_bool rfl rfl rfl rfl (by rw [Hkk92.out]; cases r45 <;> rfl)))
  focus (intro hk; subst hk; (try simp only [lz_true]); go_simp; first | done | exact hz48 | rw [hz48] | simp [hz48] | (rw [← hz48]; (first | (simp [beqI, bneI, beqN]; done) | skip)); done)
  simp only [Act.put, List.setIfInBounds_toArray, List.set_cons_zero, List.set_cons_succ]
  have Hz48 := hide hz48.symm
  clear hz48
  refine wpList_lz kk92 (.bool z48) ?_ ?_ ?_
  focus (exact (wanted_bool rfl rfl rfl rfl (by rw [Hkk92.out]; cases r45 <;> rfl)))
  focus (intro hk; subst hk; (try simp only [lz_true]); go_simp; done)
  simp only [Act.put, List.setIfInBounds_toArray, List.set_cons_zero, List.set_cons_succ]
  obtain ⟨kk99, hkk99⟩ : ∃ k : Bool, k = (kk92 && z48) := ⟨_, rfl⟩
  have Hkk99 := hide hkk99
  clear hkk99
  refine wpList_lz kk99 (.pointer (some ⟨g, 9, none⟩)) ?_ ?_ ?_
  focus (exact (wanted_lz rfl rfl rfl rfl (by rw [Hkk99.out]; cases kk92 <;> cases z48 <;> rfl)))
  focus (intro hk; subst hk; (try simp only [lz_true]); go_simp; done)
  simp only [Act.put, List.setIfInBounds_toArray, List.set_cons_zero, List.set_cons_succ]
  refine wpList_lz kk99 (.int .i64 F.last) ?_ ?_ ?_
  focus (exact (wanted_lz rfl rfl rfl rfl (by rw [Hkk99.out]; cases kk92 <;> cases z48 <;> rfl)))
  focus (intro hk; subst hk; have kc := (K13.out.cell 9).trans q9; (try simp only [lz_true]); go_simp; done)
  simp only [Act.put, List.setIfInBounds_toArray, List.set_cons_zero, List.set_cons_succ]
  obtain ⟨z52, hz52⟩ : ∃ k : Bool, (F.last != 0) = k := ⟨_, rfl⟩
  refine wpList_lz kk99 (.bool z52) ?_ ?_ ?_
  focus (exact (wanted_lz rfl rfl rfl rfl (by rw [Hkk99.out]; cases kk92 <;> cases z48 <;> rfl)))
  focus (intro hk; subst hk; (try simp only [lz_true]); go_simp; first | done | exact hz52 | rw [hz52] | simp [hz52] | (rw [← hz52]; (first | (simp [beqI, bneI, beqN]; done) | skip)); done)
  simp only [Act.put, List.setIfInBounds_toArray, List.set_cons_zero, List.set_cons_succ]
  have Hz52 := hide hz52.symm
  clear hz52
  obtain ⟨r53, hr53⟩ : ∃ k : Bool, k = (z48 && z52) := ⟨_, rfl⟩
  have Hr53 := hide hr53
  clear hr53
  refine wpList_lz kk92 (.bool r53) ?_ ?_ ?_
  focus (exact (wanted_bool rfl rfl rfl rfl (by rw [Hkk92.out]; cases r45 <;> rfl)))
  focus (intro hk; subst hk; refine run_pick_lz _ _ _ rfl z48 rfl _ ?_; rw [Hr53.out]; (try rw [Hkk99.out]); cases z48 <;> rfl; done)
  simp only [Act.put, List.setIfInBounds_toArray, List.set_cons_zero, List.set_cons_succ]
  obtain ⟨r54, hr54⟩ : ∃ k : Bool, k = (r45 || r53) := ⟨_, rfl⟩
  have Hr54 := hide hr54
  clear hr54
  refine wpList_rd (.bool r54) ?_ ?_ ?_
  focus (rfl)
  focus (refine run_pick_lz _ _ _ rfl r45 rfl _ ?_; rw [Hr54.out]; (try rw [Hkk92.out]); cases r45 <;> rfl; done)
  simp only [Act.put, List.setIfInBounds_toArray, List.set_cons_zero, List.set_cons_succ]
  refine wpList_rd (.bool r54) ?_ ?_ ?_
  focus (rfl)
  focus ((try simp only [lz_true]); go_simp; done)
  simp only [Act.put, List.setIfInBounds_toArray, List.set_cons_zero, List.set_cons_succ]
  obtain ⟨kk110, hkk110⟩ : ∃ k : Bool, k = (!r54) := ⟨_, rfl⟩
  have Hkk110 := hide hkk110
  clear hkk110
  refine wpList_lz kk110 (.int .u8 F.ty) ?_ ?_ ?_
  focus (exact (wanted_bool rfl rfl rfl rfl (by rw [Hkk110.out]; cases r54 <;> rfl)))
  focus (intro hk; subst hk; (try simp only [lz_true]); go_simp; done)
  simp only [Act.put, List.setIfInBounds_toArray, List.set_cons_zero, List.set_cons_succ]
  obtain ⟨z57, hz57⟩ : ∃ k : Bool, (F.ty != 8) = k := ⟨_, rfl⟩
  refine wpList_lz kk110 (.bool z57) ?_ ?_ ?_
  focus (exact (wanted_bool rfl rfl rfl rfl (by rw [Hkk110.out]; cases r54 <;> rfl)))
  focus (intro hk; subst hk; (try simp only [lz_true]); go_simp; first | done | exact hz57 | rw [hz57] | simp [hz57] | (rw [← hz57]; (first | (simp [beqI, bneI, beqN]; done) | skip)); done)
  simp only [Act.put, List.setIfInBounds_toArray, List.set_cons_zero, List.set_cons_succ]
  have Hz57 := hide hz57.symm
  clear hz57
  refine wpList_lz kk110 (.bool z57) ?_ ?_ ?_
  focus (exact (wanted_bool rfl rfl rfl rfl (by rw [Hkk110.out]; cases r54 <;> rfl)))
  focus (intro hk; subst hk; (try simp only [lz_true]); go_simp; done)
  simp only [Act.put, List.setIfInBounds_toArray, List.set_cons_zero, List.set_cons_succ]
  obtain ⟨kk117, hkk117⟩ : ∃ k : Bool, k = (kk110 && z57) := ⟨_, rfl⟩
  have Hkk117 := hide hkk117
  clear hkk117
  refine wpList_lz kk117 (.pointer (some ⟨g, 10, none⟩)) ?_ ?_ ?_
  focus (exact (wanted_lz rfl rfl rfl rfl (by rw [Hkk117.out]; cases kk110 <;> cases z57 <;> rfl)))
  focus (intro hk; subst hk; (try simp only [lz_true]); go_simp; done)
  simp only [Act.put, List.setIfInBounds_toArray, List.set_cons_zero, List.set_cons_succ]
  refine wpList_lz kk117 (.int .i64 F.inc) ?_ ?_ ?_
  focus (exact (wanted_lz rfl rfl rfl rfl (by rw [Hkk117.out]; cases kk110 <;> cases z57 <;> rfl)))
  focus (intro hk; subst hk; have kc := (K13.out.cell 10).trans q10; (try simp only [lz_true]); go_simp; done)
  simp only [Act.put, List.setIfInBounds_toArray, List.set_cons_zero, List.set_cons_succ]
  obtain ⟨z61, hz61⟩ : ∃ k : Bool, (F.inc != 0) = k := ⟨_, rfl⟩
  refine wpList_lz kk117 (.bool z61) ?_ ?_ ?_
  focus (exact (wanted_lz rfl rfl rfl rfl (by rw [Hkk117.out]; cases kk110 <;> cases z57 <;> rfl)))
  focus (intro hk; subst hk; (try simp only [lz_true]); go_simp; first | done | exact hz61 | rw [hz61] | simp [hz61] | (rw [← hz61]; (first | (simp [beqI, bneI, beqN]; done) | skip)); done)
  simp only [Act.put, List.setIfInBounds_toArray, List.set_cons_zero, List.set_cons_succ]
  have Hz61 := hide hz61.symm
  clear hz61
  obtain ⟨r62, hr62⟩ : ∃ k : Bool, k = (z57 && z61) := ⟨_, rfl⟩
  have Hr62 := hide hr62
  clear hr62
  refine wpList_lz kk110 (.bool r62) ?_ ?_ ?_
  focus (exact (wanted_bool rfl rfl rfl rfl (by rw [Hkk110.out]; cases r54 <;> rfl)))
  focus (intro hk; subst hk; refine run_pick_lz _ _ _ rfl z57 rfl _ ?_; rw [Hr62.out]; (try rw [Hkk117.out]); cases z57 <;> rfl; done)
  simp only [Act.put, List.setIfInBounds_toArray, List.set_cons_zero, List.set_cons_succ]
  obtain ⟨r63, hr63⟩ : ∃ k : Bool, k = (r54 || r62) := ⟨_, rfl⟩
  have Hr63 := hide hr63
  clear hr63
  refine wpList_rd (.bool r63) ?_ ?_ ?_
  focus (rfl)
  focus (refine run_pick_lz _ _ _ rfl r54 rfl _ ?_; rw [Hr63.out]; (try rw [Hkk110.out]); cases r54 <;> rfl; done)
  simp only [Act.put, List.setIfInBounds_toArray, List.set_cons_zero, List.set_cons_succ]
  refine wpList_rd (.bool r63) ?_ ?_ ?_
  focus (rfl)
  focus ((try simp only [lz_true]); go_simp; done)
  simp only [Act.put, List.setIfInBounds_toArray, List.set_cons_zero, List.set_cons_succ]
  obtain ⟨kk128, hkk128⟩ : ∃ k : Bool, k = (!r63) := ⟨_, rfl⟩
  have Hkk128 := hide hkk128
  clear hkk128
  refine wpList_lz kk128 (.int .u8 F.ty) ?_ ?_ ?_
  focus (exact (wanted_bool rfl rfl rfl rfl (by rw [Hkk128.out]; cases r63 <;> rfl)))
  focus (intro hk; subst hk; (try simp only [lz_true]); go_simp; done)
  simp only [Act.put, List.setIfInBounds_toArray, List.set_cons_zero, List.set_cons_succ]
  obtain ⟨z66, hz66⟩ : ∃ k : Bool, (F.ty != 4) = k := ⟨_, rfl⟩
  refine wpList_lz kk128 (.bool z66) ?_ ?_ ?_
  focus (exact (wanted_bool rfl rfl rfl rfl (by rw [Hkk128.out]; cases r63 <;> rfl)))
  focus (intro hk; subst hk; (try simp only [lz_true]); go_simp; first | done | exact hz66 | rw [hz66] | simp [hz66] | (rw [← hz66]; (first | (simp [beqI, bneI, beqN]; done) | skip)); done)
  simp only [Act.put, List.setIfInBounds_toArray, List.set_cons_zero, List.set_cons_succ]
  have Hz66 := hide hz66.symm
  clear hz66
  refine wpList_lz kk128 (.bool z66) ?_ ?_ ?_
  focus (exact (wanted_bool rfl rfl rfl rfl (by rw [Hkk128.out]; cases r63 <;> rfl)))
  focus (intro hk; subst hk; (try simp only [lz_true]); go_simp; done)
  simp only [Act.put, List.setIfInBounds_toArray, List.set_cons_zero, List.set_cons_succ]
  obtain ⟨kk135, hkk135⟩ : ∃ k : Bool, k = (kk128 && z66) := ⟨_, rfl⟩
  have Hkk135 := hide hkk135
  clear hkk135
  refine wpList_lz kk135 (.pointer (some ⟨g, 11, none⟩)) ?_ ?_ ?_
  focus (exact (wanted_lz rfl rfl rfl rfl (by rw [Hkk135.out]; cases kk128 <;> cases z66 <;> rfl)))
  focus (intro hk; subst hk; (try simp only [lz_true]); go_simp; done)
  simp only [Act.put, List.setIfInBounds_toArray, List.set_cons_zero, List.set_cons_succ]
  refine wpList_lz kk135 (.slice A n c) ?_ ?_ ?_
  focus (exact (wanted_lz rfl rfl rfl rfl (by rw [Hkk135.out]; cases kk128 <;> cases z66 <;> rfl)))
  focus (intro hk; subst hk; have kc := (K13.out.cell 11).trans q11; (try simp only [lz_true]); go_simp; done)
  simp only [Act.put, List.setIfInBounds_toArray, List.set_cons_zero, List.set_cons_succ]
  refine wpList_lz kk135 (.int .i64 (n : Int)) ?_ ?_ ?_
  focus (exact (wanted_lz rfl rfl rfl rfl (by rw [Hkk135.out]; cases kk128 <;> cases z66 <;> rfl)))
  focus (intro hk; subst hk; (try simp only [lz_true]); go_simp; done)
  simp only [Act.put, List.setIfInBounds_toArray, List.set_cons_zero, List.set_cons_succ]
  obtain ⟨z71, hz71⟩ : ∃ k : Bool, (decide (0 < (n : Int))) = k := ⟨_, rfl⟩
  refine wpList_lz kk135 (.bool z71) ?_ ?_ ?_
  focus (exact (wanted_lz rfl rfl rfl rfl (by rw [Hkk135.out]; cases kk128 <;> cases z66 <;> rfl)))
  focus (intro hk; subst hk; (try simp only [lz_true]); go_simp; first | done | exact hz71 | rw [hz71] | simp [hz71] | (rw [← hz71]; (first | (simp [beqI, bneI, beqN]; done) | skip)); done)
  simp only [Act.put, List.setIfInBounds_toArray, List.set_cons_zero, List.set_cons_succ]
  have Hz71 := hide hz71.symm
  clear hz71
  obtain ⟨r72, hr72⟩ : ∃ k : Bool, k = (z66 && z71) := ⟨_, rfl⟩
  have Hr72 := hide hr72
  clear hr72
  refine wpList_lz kk128 (.bool r72) ?_ ?_ ?_
  focus (exact (wanted_bool rfl rfl rfl rfl (by rw [Hkk128.out]; cases r63 <;> rfl)))
  focus (intro hk; subst hk; refine run_pick_lz _ _ _ rfl z66 rfl _ ?_; rw [Hr72.out]; (try rw [Hkk135.out]); cases z66 <;> rfl; done)
  simp only [Act.put, List.setIfInBounds_toArray, List.set_cons_zero, List.set_cons_succ]
  obtain ⟨r73, hr73⟩ : ∃ k : Bool, k = (r63 || r72) := ⟨_, rfl⟩
  have Hr73 := hide hr73
  clear hr73
  refine wpList_rd (.bool r73) ?_ ?_ ?_
  focus (rfl)
  focus (refine run_pick_lz _ _ _ rfl r63 rfl _ ?_; rw [Hr73.out]; (try rw [Hkk128.out]); cases r63 <;> rfl; done)
  simp only [Act.put, List.setIfInBounds_toArray, List.set_cons_zero, List.set_cons_succ]
  refine wpList_rd (.bool r73) ?_ ?_ ?_
  focus (rfl)
  focus ((try simp only [lz_true]); go_simp; done)
  simp only [Act.put, List.setIfInBounds_toArray, List.set_cons_zero, List.set_cons_succ]
  obtain ⟨kk148, hkk148⟩ : ∃ k : Bool, k = (!r73) := ⟨_, rfl⟩
  have Hkk148 := hide hkk148
  clear hkk148
  refine wpList_lz kk148 (.int .u8 F.ty) ?_ ?_ ?_
  focus (exact (wanted_bool rfl rfl rfl rfl (by rw [Hkk148.out]; cases r73 <;> rfl)))
  focus (intro hk; subst hk; (try simp only [lz_true]); go_simp; done)
  simp only [Act.put, List.setIfInBounds_toArray, List.set_cons_zero, List.set_cons_succ]
  obtain ⟨z76, hz76⟩ : ∃ k : Bool, (F.ty == 2) = k := ⟨_, rfl⟩
  refine wpList_lz kk148 (.bool z76) ?_ ?_ ?_
  focus (exact (wanted_bool rfl rfl rfl rfl (by rw [Hkk148.out]; cases r73 <;> rfl)))
  focus (intro hk; subst hk; (try simp only [lz_true]); go_simp; first | done | exact hz76 | rw [hz76] | simp [hz76] | (rw [← hz76]; (first | (simp [beqI, bneI, beqN]; done) | skip)); done)
  simp only [Act.put, List.setIfInBounds_toArray, List.set_cons_zero, List.set_cons_succ]
  have Hz76 := hide hz76.symm
  clear hz76
  refine wpList_lz kk148 (.bool z76) ?_ ?_ ?_
  focus (exact (wanted_bool rfl rfl rfl rfl (by rw [Hkk148.out]; cases r73 <;> rfl)))
  focus (intro hk; subst hk; (try simp only [lz_true]); go_simp; done)
  simp only [Act.put, List.setIfInBounds_toArray, List.set_cons_zero, List.set_cons_succ]
  obtain ⟨kk154, hkk154⟩ : ∃ k : Bool, k = (kk148 && !z76) := ⟨_, rfl⟩
  have Hkk154 := hide hkk154
  clear hkk154
  refine wpList_lz kk154 (.int .u8 F.ty) ?_ ?_ ?_
  focus (exact (wanted_lz rfl rfl rfl rfl (by rw [Hkk154.out]; cases kk148 <;> cases z76 <;> rfl)))
  focus (intro hk; subst hk; (try simp only [lz_true]); go_simp; done)
  simp only [Act.put, List.setIfInBounds_toArray, List.set_cons_zero, List.set_cons_succ]
  obtain ⟨z79, hz79⟩ : ∃ k : Bool, (F.ty == 3) = k := ⟨_, rfl⟩
  refine wpList_lz kk154 (.bool z79) ?_ ?_ ?_
  focus (exact (wanted_lz rfl rfl rfl rfl (by rw [Hkk154.out]; cases kk148 <;> cases z76 <;> rfl)))
  focus (intro hk; subst hk; (try simp only [lz_true]); go_simp; first | done | exact hz79 | rw [hz79] | simp [hz79] | (rw [← hz79]; (first | (simp [beqI, bneI, beqN]; done) | skip)); done)
  simp only [Act.put, List.setIfInBounds_toArray, List.set_cons_zero, List.set_cons_succ]
  have Hz79 := hide hz79.symm
  clear hz79
  obtain ⟨r80, hr80⟩ : ∃ k : Bool, k = (z76 || z79) := ⟨_, rfl⟩
  have Hr80 := hide hr80
  clear hr80
  refine wpList_lz kk148 (.bool r80) ?_ ?_ ?_
  focus (exact (wanted_bool rfl rfl rfl rfl (by rw [Hkk148.out]; cases r73 <;> rfl)))
  focus (intro hk; subst hk; refine run_pick_lz _ _ _ rfl z76 rfl _ ?_; rw [Hr80.out]; (try rw [Hkk154.out]); cases z76 <;> rfl; done)
  simp only [Act.put, List.setIfInBounds_toArray, List.set_cons_zero, List.set_cons_succ]
  refine wpList_lz kk148 (.bool r80) ?_ ?_ ?_
  focus (exact (wanted_bool rfl rfl rfl rfl (by rw [Hkk148.out]; cases r73 <;> rfl)))
  focus (intro hk; subst hk; (try simp only [lz_true]); go_simp; done)
  simp only [Act.put, List.setIfInBounds_toArray, List.set_cons_zero, List.set_cons_succ]
  obtain ⟨kk162, hkk162⟩ : ∃ k : Bool, k = (kk148 && !r80) := ⟨_, rfl⟩
  have Hkk162 := hide hkk162
  clear hkk162
  refine wpList_lz kk162 (.int .u8 F.ty) ?_ ?_ ?_
  focus (exact (wanted_lz rfl rfl rfl rfl (by rw [Hkk162.out]; cases kk148 <;> cases r80 <;> rfl)))
  focus (intro hk; subst hk; (try simp only [lz_true]); go_simp; done)
  simp only [Act.put, List.setIfInBounds_toArray, List.set_cons_zero, List.set_cons_succ]
  obtain ⟨z83, hz83⟩ : ∃ k : Bool, (F.ty == 4) = k := ⟨_, rfl⟩
  refine wpList_lz kk162 (.bool z83) ?_ ?_ ?_
  focus (exact (wanted_lz rfl rfl rfl rfl (by rw [Hkk162.out]; cases kk148 <;> cases r80 <;> rfl)))
  focus (intro hk; subst hk; (try simp only [lz_true]); go_simp; first | done | exact hz83 | rw [hz83] | simp [hz83] | (rw [← hz83]; (first | (simp [beqI, bneI, beqN]; done) | skip)); done)
  simp only [Act.put, List.setIfInBounds_toArray, List.set_cons_zero, List.set_cons_succ]
  have Hz83 := hide hz83.symm
  clear hz83
  obtain ⟨r84, hr84⟩ : ∃ k : Bool, k = (r80 || z83) := ⟨_, rfl⟩
  have Hr84 := hide hr84
  clear hr84
  refine wpList_lz kk148 (.bool r84) ?_ ?_ ?_
  focus (exact (wanted_bool rfl rfl rfl rfl (by rw [Hkk148.out]; cases r73 <;> rfl)))
  focus (intro hk; subst hk; refine run_pick_lz _ _ _ rfl r80 rfl _ ?_; rw [Hr84.out]; (try rw [Hkk162.out]); cases r80 <;> rfl; done)
  simp only [Act.put, List.setIfInBounds_toArray, List.set_cons_zero, List.set_cons_succ]
  refine wpList_lz kk148 (.bool r84) ?_ ?_ ?_
  focus (exact (wanted_bool rfl rfl rfl rfl (by rw [Hkk148.out]; cases r73 <;> rfl)))
  focus (intro hk; subst hk; (try simp only [lz_true]); go_simp; done)
  simp only [Act.put, List.setIfInBounds_toArray, List.set_cons_zero, List.set_cons_succ]
  obtain ⟨kk170, hkk170⟩ : ∃ k : Bool, k = (kk148 && !r84) := ⟨_, rfl⟩
  have Hkk170 := hide hkk170
  clear hkk170
  refine wpList_lz kk170 (.int .u8 F.ty) ?_ ?_ ?_
  focus (exact (wanted_lz rfl rfl rfl rfl (by rw [Hkk170.out]; cases kk148 <;> cases r84 <;> rfl)))
  focus (intro hk; subst hk; (try simp only [lz_true]); go_simp; done)
  simp only [Act.put, List.setIfInBounds_toArray, List.set_cons_zero, List.set_cons_succ]
  obtain ⟨z87, hz87⟩ : ∃ k : Bool, (F.ty == 8) = k := ⟨_, rfl⟩
  refine wpList_lz kk170 (.bool z87) ?_ ?_ ?_
  focus (exact (wanted_lz rfl rfl rfl rfl (by rw [Hkk170.out]; cases kk148 <;> cases r84 <;> rfl)))
  focus (intro hk; subst hk; (try simp only [lz_true]); go_simp; first | done | exact hz87 | rw [hz87] | simp [hz87] | (rw [← hz87]; (first | (simp [beqI, bneI, beqN]; done) | skip)); done)
  simp only [Act.put, List.setIfInBounds_toArray, List.set_cons_zero, List.set_cons_succ]
  have Hz87 := hide hz87.symm
  clear hz87
  obtain ⟨r88, hr88⟩ : ∃ k : Bool, k = (r84 || z87) := ⟨_, rfl⟩
  have Hr88 := hide hr88
  clear hr88
  refine wpList_lz kk148 (.bool r88) ?_ ?_ ?_
  focus (exact (wanted_bool rfl rfl rfl rfl (by rw [Hkk148.out]; cases r73 <;> rfl)))
  focus (intro hk; subst hk; refine run_pick_lz _ _ _ rfl r84 rfl _ ?_; rw [Hr88.out]; (try rw [Hkk170.out]); cases r84 <;> rfl; done)
  simp only [Act.put, List.setIfInBounds_toArray, List.set_cons_zero, List.set_cons_succ]
  refine wpList_lz kk148 (.bool r88) ?_ ?_ ?_
  focus (exact (wanted_bool rfl rfl rfl rfl (by rw [Hkk148.out]; cases r73 <;> rfl)))
  focus (intro hk; subst hk; (try simp only [lz_true]); go_simp; done)
  simp only [Act.put, List.setIfInBounds_toArray, List.set_cons_zero, List.set_cons_succ]
  obtain ⟨kk179, hkk179⟩ : ∃ k : Bool, k = (kk148 && r88) := ⟨_, rfl⟩
  have Hkk179 := hide hkk179
  clear hkk179
  refine wpList_lz kk179 (.pointer (some ⟨g, 3, none⟩)) ?_ ?_ ?_
  focus (exact (wanted_lz rfl rfl rfl rfl (by rw [Hkk179.out]; cases kk148 <;> cases r88 <;> rfl)))
  focus (intro hk; subst hk; (try simp only [lz_true]); go_simp; done)
  simp only [Act.put, List.setIfInBounds_toArray, List.set_cons_zero, List.set_cons_succ]
  refine wpList_lz kk179 (.string F.data) ?_ ?_ ?_
  focus (exact (wanted_lz rfl rfl rfl rfl (by rw [Hkk179.out]; cases kk148 <;> cases r88 <;> rfl)))
  focus (intro hk; subst hk; have kc := (K13.out.cell 3).trans q3; (try simp only [lz_true]); go_simp; done)
  simp only [Act.put, List.setIfInBounds_toArray, List.set_cons_zero, List.set_cons_succ]
  obtain ⟨z92, hz92⟩ : ∃ k : Bool, (!F.data.toList.isEmpty) = k := ⟨_, rfl⟩
  refine wpList_lz kk179 (.bool z92) ?_ ?_ ?_
  focus (exact (wanted_lz rfl rfl rfl rfl (by rw [Hkk179.out]; cases kk148 <;> cases r88 <;> rfl)))
  focus (intro hk; subst hk; (try simp only [lz_true]); go_simp; first | done | exact hz92 | rw [hz92] | simp [hz92] | (rw [← hz92]; (first | (simp [beqI, bneI, beqN]; done) | skip)); done)
  simp only [Act.put, List.setIfInBounds_toArray, List.set_cons_zero, List.set_cons_succ]
  have Hz92 := hide hz92.symm
  clear hz92
  obtain ⟨r93, hr93⟩ : ∃ k : Bool, k = (r88 && z92) := ⟨_, rfl⟩
  have Hr93 := hide hr93
  clear hr93
  refine wpList_lz kk148 (.bool r93) ?_ ?_ ?_
  focus (exact (wanted_bool rfl rfl rfl rfl (by rw [Hkk148.out]; cases r73 <;> rfl)))
  focus (intro hk; subst hk; refine run_pick_lz _ _ _ rfl r88 rfl _ ?_; rw [Hr93.out]; (try rw [Hkk179.out]); cases r88 <;> rfl; done)
  simp only [Act.put, List.setIfInBounds_toArray, List.set_cons_zero, List.set_cons_succ]
  obtain ⟨r94, hr94⟩ : ∃ k : Bool, k = (r73 || r93) := ⟨_, rfl⟩
  have Hr94 := hide hr94
  clear hr94
  refine wpList_rd (.bool r94) ?_ ?_ ?_
  focus (rfl)
  focus (refine run_pick_lz _ _ _ rfl r73 rfl _ ?_; rw [Hr94.out]; (try rw [Hkk148.out]); cases r73 <;> rfl; done)
  simp only [Act.put, List.setIfInBounds_toArray, List.set_cons_zero, List.set_cons_succ]
  refine wpList_rd (.bool r94) ?_ ?_ ?_
  focus (rfl)
  focus ((try simp only [lz_true]); go_simp; done)
  simp only [Act.put, List.setIfInBounds_toArray, List.set_cons_zero, List.set_cons_succ]
  obtain ⟨kk190, hkk190⟩ : ∃ k : Bool, k = (!r94) := ⟨_, rfl⟩
  have Hkk190 := hide hkk190
  clear hkk190
  refine wpList_lz kk190 (.int .u8 F.ty) ?_ ?_ ?_
  focus (exact (wanted_bool rfl rfl rfl rfl (by rw [Hkk190.out]; cases r94 <;> rfl)))
  focus (intro hk; subst hk; (try simp only [lz_true]); go_simp; done)
  simp only [Act.put, List.setIfInBounds_toArray, List.set_cons_zero, List.set_cons_succ]
  obtain ⟨z97, hz97⟩ : ∃ k : Bool, (F.ty == 6) = k := ⟨_, rfl⟩
  refine wpList_lz kk190 (.bool z97) ?_ ?_ ?_
  focus (exact (wanted_bool rfl rfl rfl rfl (by rw [Hkk190.out]; cases r94 <;> rfl)))
  focus (intro hk; subst hk; (try simp only [lz_true]); go_simp; first | done | exact hz97 | rw [hz97] | simp [hz97] | (rw [← hz97]; (first | (simp [beqI, bneI, beqN]; done) | skip)); done)
  simp only [Act.put, List.setIfInBounds_toArray, List.set_cons_zero, List.set_cons_succ]
  have Hz97 := hide hz97.symm
  clear hz97
  refine wpList_lz kk190 (.bool z97) ?_ ?_ ?_
  focus (exact (wanted_bool rfl rfl rfl rfl (by rw [Hkk190.out]; cases r94 <;> rfl)))
  focus (intro hk; subst hk; (try simp only [lz_true]); go_simp; done)
  simp only [Act.put, List.setIfInBounds_toArray, List.set_cons_zero, List.set_cons_succ]
  obtain ⟨kk197, hkk197⟩ : ∃ k : Bool, k = (kk190 && z97) := ⟨_, rfl⟩
  have Hkk197 := hide hkk197
  clear hkk197
  refine wpList_lz kk197 (.pointer (some ⟨g, 3, none⟩)) ?_ ?_ ?_
  focus (exact (wanted_lz rfl rfl rfl rfl (by rw [Hkk197.out]; cases kk190 <;> cases z97 <;> rfl)))
  focus (intro hk; subst hk; (try simp only [lz_true]); go_simp; done)
  simp only [Act.put, List.setIfInBounds_toArray, List.set_cons_zero, List.set_cons_succ]
  refine wpList_lz kk197 (.string F.data) ?_ ?_ ?_
  focus (exact (wanted_lz rfl rfl rfl rfl (by rw [Hkk197.out]; cases kk190 <;> cases z97 <;> rfl)))
  focus (intro hk; subst hk; have kc := (K13.out.cell 3).trans q3; (try simp only [lz_true]); go_simp; done)
  simp only [Act.put, List.setIfInBounds_toArray, List.set_cons_zero, List.set_cons_succ]
  refine wpList_lz kk197 (.int .i64 (F.data.size : Int)) ?_ ?_ ?_
  focus (exact (wanted_lz rfl rfl rfl rfl (by rw [Hkk197.out]; cases kk190 <;> cases z97 <;> rfl)))
  focus (intro hk; subst hk; (try simp only [lz_true]); go_simp; done)
  simp only [Act.put, List.setIfInBounds_toArray, List.set_cons_zero, List.set_cons_succ]
  obtain ⟨z102, hz102⟩ : ∃ k : Bool, ((F.data.size : Int) != 8) = k := ⟨_, rfl⟩
  refine wpList_lz kk197 (.bool z102) ?_ ?_ ?_
  focus (exact (wanted_lz rfl rfl rfl rfl (by rw [Hkk197.out]; cases kk190 <;> cases z97 <;> rfl)))
  focus (intro hk; subst hk; (try simp only [lz_true]); go_simp; first | done | exact hz102 | rw [hz102] | simp [hz102] | (rw [← hz102]; (first | (simp [beqI, bneI, beqN]; done) | skip)); done)
  simp only [Act.put, List.setIfInBounds_toArray, List.set_cons_zero, List.set_cons_succ]
  have Hz102 := hide hz102.symm
  clear hz102
  obtain ⟨r103, hr103⟩ : ∃ k : Bool, k = (z97 && z102) := ⟨_, rfl⟩
  have Hr103 := hide hr103
  clear hr103
  refine wpList_lz kk190 (.bool r103) ?_ ?_ ?_
  focus (exact (wanted_bool rfl rfl rfl rfl (by rw [Hkk190.out]; cases r94 <;> rfl)))
  focus (intro hk; subst hk; refine run_pick_lz _ _ _ rfl z97 rfl _ ?_; rw [Hr103.out]; (try rw [Hkk197.out]); cases z97 <;> rfl; done)
  simp only [Act.put, List.setIfInBounds_toArray, List.set_cons_zero, List.set_cons_succ]
  obtain ⟨r104, hr104⟩ : ∃ k : Bool, k = (r94 || r103) := ⟨_, rfl⟩
  have Hr104 := hide hr104
  clear hr104
  refine wpList_rd (.bool r104) ?_ ?_ ?_
  focus (rfl)
  focus (refine run_pick_lz _ _ _ rfl r94 rfl _ ?_; rw [Hr104.out]; (try rw [Hkk190.out]); cases r94 <;> rfl; done)
  simp only [Act.put, List.setIfInBounds_toArray, List.set_cons_zero, List.set_cons_succ]
  refine wpList_rd (.bool r104) ?_ ?_ ?_
  focus (rfl)
  focus ((try simp only [lz_true]); go_simp; done)
  simp only [Act.put, List.setIfInBounds_toArray, List.set_cons_zero, List.set_cons_succ]
  obtain ⟨kk210, hkk210⟩ : ∃ k : Bool, k = (!r104) := ⟨_, rfl⟩
  have Hkk210 := hide hkk210
  clear hkk210
  refine wpList_lz kk210 (.int .u8 F.ty) ?_ ?_ ?_
  focus (exact (wanted_bool rfl rfl rfl rfl (by rw [Hkk210.out]; cases r104 <;> rfl)))
  focus (intro hk; subst hk; (try simp only [lz_true]); go_simp; done)
  simp only [Act.put, List.setIfInBounds_toArray, List.set_cons_zero, List.set_cons_succ]
  obtain ⟨z107, hz107⟩ : ∃ k : Bool, (F.ty == 4) = k := ⟨_, rfl⟩
  refine wpList_lz kk210 (.bool z107) ?_ ?_ ?_
  focus (exact (wanted_bool rfl rfl rfl rfl (by rw [Hkk210.out]; cases r104 <;> rfl)))
  focus (intro hk; subst hk; (try simp only [lz_true]); go_simp; first | done | exact hz107 | rw [hz107] | simp [hz107] | (rw [← hz107]; (first | (simp [beqI, bneI, beqN]; done) | skip)); done)
  simp only [Act.put, List.setIfInBounds_toArray, List.set_cons_zero, List.set_cons_succ]
  have Hz107 := hide hz107.symm
  clear hz107
  refine wpList_lz kk210 (.bool z107) ?_ ?_ ?_
  focus (exact (wanted_bool rfl rfl rfl rfl (by rw [Hkk210.out]; cases r104 <;> rfl)))
  focus (intro hk; subst hk; (try simp only [lz_true]); go_simp; done)
  simp only [Act.put, List.setIfInBounds_toArray, List.set_cons_zero, List.set_cons_succ]
  obtain ⟨kk217, hkk217⟩ : ∃ k : Bool, k = (kk210 && z107) := ⟨_, rfl⟩
  have Hkk217 := hide hkk217
  clear hkk217
  refine wpList_lz kk217 (.agg cs) ?_ ?_ ?_
  focus (exact (wanted_lz rfl rfl rfl rfl (by rw [Hkk217.out]; cases kk210 <;> cases z107 <;> rfl)))
  focus (intro hk; subst hk; refine run_load_blk 35 (.tmp 1) rfl g ?_ _ cs _ K13.out Try.underlying35 rfl HZ.out; (try simp only [lz_true]); rfl; done)
  simp only [Act.put, List.setIfInBounds_toArray, List.set_cons_zero, List.set_cons_succ]
  refine wpList_lzcall kk217 a1 _ _ (wanted_lz rfl rfl rfl rfl (by rw [Hkk217.out]; cases kk210 <;> cases z107 <;> rfl)) (by intro hk; subst hk; (try simp only [lz_true]); go_simp; done) (fun _ => HH.out _) ?_
  intro w14 hb14
  have K14 := hide (K13.out.keep hb14)
  have B14 := hide (B13.out.trans (hb14.mono B13.out.size))
  clear hb14 K13 B13
  simp only [Act.put, List.setIfInBounds_toArray, List.set_cons_zero, List.set_cons_succ]
  obtain ⟨r111, hr111⟩ : ∃ k : Bool, k = (z107 && a1) := ⟨_, rfl⟩
  have Hr111 := hide hr111
  clear hr111
  refine wpList_lz kk210 (.bool r111) ?_ ?_ ?_
  focus (exact (wanted_bool rfl rfl rfl rfl (by rw [Hkk210.out]; cases r104 <;> rfl)))
  focus (intro hk; subst hk; refine run_pick_lz _ _ _ rfl z107 rfl _ ?_; rw [Hr111.out]; (try rw [Hkk217.out]); cases z107 <;> rfl; done)
  simp only [Act.put, List.setIfInBounds_toArray, List.set_cons_zero, List.set_cons_succ]
  refine wpList_lz kk210 (.bool r111) ?_ ?_ ?_
  focus (exact (wanted_bool rfl rfl rfl rfl (by rw [Hkk210.out]; cases r104 <;> rfl)))
  focus (intro hk; subst hk; (try simp only [lz_true]); go_simp; done)
  simp only [Act.put, List.setIfInBounds_toArray, List.set_cons_zero, List.set_cons_succ]
  obtain ⟨kk225, hkk225⟩ : ∃ k : Bool, k = (kk210 && r111) := ⟨_, rfl⟩
  have Hkk225 := hide hkk225
  clear hkk225
  refine wpList_lz kk225 (.pointer (some ⟨g, 11, none⟩)) ?_ ?_ ?_
  focus (exact (wanted_lz rfl rfl rfl rfl (by rw [Hkk225.out]; cases kk210 <;> cases r111 <;> rfl)))
  focus (intro hk; subst hk; (try simp only [lz_true]); go_simp; done)
  simp only [Act.put, List.setIfInBounds_toArray, List.set_cons_zero, List.set_cons_succ]
  refine wpList_lz kk225 (.slice A n c) ?_ ?_ ?_
  focus (exact (wanted_lz rfl rfl rfl rfl (by rw [Hkk225.out]; cases kk210 <;> cases r111 <;> rfl)))
  focus (intro hk; subst hk; have kc := (K14.out.cell 11).trans q11; (try simp only [lz_true]); go_simp; done)
  simp only [Act.put, List.setIfInBounds_toArray, List.set_cons_zero, List.set_cons_succ]
  refine wpList_lz kk225 (.int .i64 (n : Int)) ?_ ?_ ?_
  focus (exact (wanted_lz rfl rfl rfl rfl (by rw [Hkk225.out]; cases kk210 <;> cases r111 <;> rfl)))
  focus (intro hk; subst hk; (try simp only [lz_true]); go_simp; done)
  simp only [Act.put, List.setIfInBounds_toArray, List.set_cons_zero, List.set_cons_succ]
  obtain ⟨z116, hz116⟩ : ∃ k : Bool, (decide (0 < (n : Int))) = k := ⟨_, rfl⟩
  refine wpList_lz kk225 (.bool z116) ?_ ?_ ?_
  focus (exact (wanted_lz rfl rfl rfl rfl (by rw [Hkk225.out]; cases kk210 <;> cases r111 <;> rfl)))
  focus (intro hk; subst hk; (try simp only [lz_true]); go_simp; first | done | exact hz116 | rw [hz116] | simp [hz116] | (rw [← hz116]; (first | (simp [beqI, bneI, beqN]; done) | skip)); done)
  simp only [Act.put, List.setIfInBounds_toArray, List.set_cons_zero, List.set_cons_succ]
  have Hz116 := hide hz116.symm
  clear hz116
  obtain ⟨r117, hr117⟩ : ∃ k : Bool, k = (r111 && z116) := ⟨_, rfl⟩
  have Hr117 := hide hr117
  clear hr117
  refine wpList_lz kk210 (.bool r117) ?_ ?_ ?_
  focus (exact (wanted_bool rfl rfl rfl rfl (by rw [Hkk210.out]; cases r104 <;> rfl)))
  focus (intro hk; subst hk; refine run_pick_lz _ _ _ rfl r111 rfl _ ?_; rw [Hr117.out]; (try rw [Hkk225.out]); cases r111 <;> rfl; done)
  simp only [Act.put, List.setIfInBounds_toArray, List.set_cons_zero, List.set_cons_succ]
  obtain ⟨r118, hr118⟩ : ∃ k : Bool, k = (r104 || r117) := ⟨_, rfl⟩
  have Hr118 := hide hr118
  clear hr118
  refine wpList_rd (.bool r118) ?_ ?_ ?_
  focus (rfl)
  focus (refine run_pick_lz _ _ _ rfl r104 rfl _ ?_; rw [Hr118.out]; (try rw [Hkk210.out]); cases r104 <;> rfl; done)
  simp only [Act.put, List.setIfInBounds_toArray, List.set_cons_zero, List.set_cons_succ]
  go_wp2
  go_ret
  refine ⟨?_, B14.out⟩
  rw [Hr118.out, Hr117.out, Hz116.out, Hr111.out, Hz107.out, Hr104.out, Hr103.out, Hz102.out, Hz97.out, Hr94.out, Hr93.out, Hz92.out, Hr88.out, Hz87.out, Hr84.out, Hz83.out, Hr80.out, Hz79.out, Hz76.out, Hr73.out, Hr72.out, Hz71.out, Hz66.out, Hr63.out, Hr62.out, Hz61.out, Hz57.out, Hr54.out, Hr53.out, Hz52.out, Hz48.out, Hr45.out, Hr44.out, Hz43.out, Hr39.out, Hz38.out, Hz35.out, Hr32.out, Hr31.out, Hr30.out, Hz29.out, Hr25.out, Hz21.out, Hn17.out, Hr13.out, Hz12.out, Hn8.out, EP.out, ED.out, EA.out, ext_n, ext_d]
  rfl
end Go.Proofs.Ytefdhbljcnpggaa
