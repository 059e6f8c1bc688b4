/-
  Layer 9: the document's Check, Put and Length.
-/
import Derived.Test.YtefdhbljcnpggaaRpPay
import Derived.Test.YtefdhbljcnpggaaFrPut
namespace Go.Proofs.Ytefdhbljcnpggaa
open Go.RowKit

theorem payB_len (F : Fr) (l : List Pr) (hp : 0 ≤ F.pad) : ((F.payB l).length : Int) = F.siz l.length := by
  unfold Fr.payB Fr.siz sizV fixN b4
  simp only [List.length_append, prB_len, bts_len, zs, List.length_replicate, List.nil_append]
  have e1 : (ifB (shP F.ty F.fl) [F.pad]).length = if shP F.ty F.fl then 1 else 0 := by cases shP F.ty F.fl <;> rfl
  have e2 : (ifB (shD F.ty F.fl) (num4 F.top ++ [F.wt])).length = if shD F.ty F.fl then 5 else 0 := by cases shD F.ty F.fl <;> rfl
  have e3 : (ifB (shL F.ty) (num4 F.last)).length = if shL F.ty then 4 else 0 := by cases shL F.ty <;> rfl
  have e4 : (ifB (shC F.ty) (num4 F.code)).length = if shC F.ty then 4 else 0 := by cases shC F.ty <;> rfl
  have e5 : (ifB (shI F.ty) (num4 F.inc)).length = if shI F.ty then 4 else 0 := by cases shI F.ty <;> rfl
  rw [e1, e2, e3, e4, e5]
  cases shP F.ty F.fl <;> cases shD F.ty F.fl <;> cases shL F.ty <;> cases shC F.ty <;> cases shI F.ty <;> simp <;> omega
theorem pay_lay {F : Fr} {l : List Pr} (h : F.fitB l.length = true) (xs : List Int) : F.lay l xs = xs ++ F.payB l := by
  rw [lay_eq]
  congr 1
  unfold Fr.lay Fr.payB
  cases l with
  | nil => simp [prB]
  | cons a l =>
    have hI : shI F.ty = false := by
      cases hi : shI F.ty with
      | false => rfl
      | true =>
        have h8 : F.ty = 8 := by simpa [shI] using hi
        unfold Fr.fitB fitV at h
        simp [h8, shR] at h
    rw [hI]
    simp [ifB]
theorem in_not (F : Fr) : (!(inS F.st) || !(inS F.dep) || !(inS F.last) || !(inS F.inc) || decide (F.pad < 0) || decide (255 < F.pad)) = !F.inB := by
  have e1 : decide (F.pad < 0) = !decide (0 ≤ F.pad) := by
    by_cases h : F.pad < 0
    · rw [decide_eq_true h, decide_eq_false (by omega)]; rfl
    · rw [decide_eq_false h, decide_eq_true (by omega)]; rfl
  have e2 : decide (255 < F.pad) = !decide (F.pad ≤ 255) := by
    by_cases h : 255 < F.pad
    · rw [decide_eq_true h, decide_eq_false (by omega)]; rfl
    · rw [decide_eq_false h, decide_eq_true (by omega)]; rfl
  rw [e1, e2]
  unfold Fr.inB
  cases inS F.st <;> cases inS F.dep <;> cases inS F.last <;> cases inS F.inc <;> cases decide (0 ≤ F.pad) <;> cases decide (F.pad ≤ 255) <;> rfl
theorem chk_not {F : Fr} {n : Nat} (h : F.inB = true) : F.chk n = if F.extraB n = true then 4 else if 16384 < F.siz n then 5 else 0 := by
  unfold Fr.chk
  rw [if_neg (by rw [h]; simp), extra_fit]
  by_cases hf : F.fitB n = false ∨ F.ty = 6 ∧ ¬ F.data.size = 8
  · rw [if_pos hf, if_pos]
    rcases hf with hf | ⟨h6, h8⟩
    · simp [hf]
    · simp [h6, h8]
  · have hx : ¬ ((!(F.fitB n) || (F.ty == 6) && !(F.data.size == 8)) = true) := by
      simp only [not_or] at hf
      obtain ⟨h1, h2⟩ := hf
      intro hc
      rw [show F.fitB n = true by simpa using h1] at hc
      simp at hc
      exact h2 hc
    rw [if_neg hf, if_neg hx]
theorem payB_all (F : Fr) (l : List Pr) (hi : 0 ≤ F.st ∧ F.st ≤ 2147483647 ∧ 0 ≤ F.dep ∧ F.dep ≤ 2147483647 ∧ 0 ≤ F.last ∧ F.last ≤ 2147483647 ∧ 0 ≤ F.inc ∧ F.inc ≤ 2147483647 ∧ 0 ≤ F.pad ∧ F.pad ≤ 255) (_hc0 : 0 ≤ F.code) (_hc1 : F.code ≤ 4294967295) (hw0 : 0 ≤ F.wt) (hw1 : F.wt ≤ 255) : AllB (F.payB l) := by
  intro x hx
  unfold Fr.payB at hx
  simp only [List.mem_append, List.nil_append] at hx
  have hif : ∀ (b : Bool) (l : List Int), AllB l → x ∈ ifB b l → 0 ≤ x ∧ x ≤ 255 := fun b l h hx => by
    cases b
    · cases hx
    · exact h x hx
  rcases hx with ((((((hx | hx) | hx) | hx) | hx) | hx) | hx) | hx
  · exact hif _ _ (fun y hy => by simp at hy; omega) hx
  · refine hif _ _ (fun y hy => ?_) hx
    rcases List.mem_append.1 hy with hy | hy
    · exact num4_all _ y hy
    · simp at hy; omega
  · exact hif _ _ (num4_all _) hx
  · exact hif _ _ (num4_all _) hx
  · exact prB_all _ x hx
  · exact hif _ _ (num4_all _) hx
  · exact bts_all _ x hx
  · simp [zs] at hx; omega
theorem siz_small {F : Fr} {n : Nat} (hin : F.inB = true) (hn : (n : Int) ≤ 20000) (hs : (F.data.size : Int) ≤ 20000) : 0 ≤ F.siz n ∧ F.siz n ≤ 200000 := by
  have hb := fixN_bd (shD F.ty F.fl) (shL F.ty) (shC F.ty) (shI F.ty)
  have hi := (inB_iff F).1 hin
  unfold Fr.siz sizV at *
  split <;> omega

set_option maxRecDepth 100000 in
set_option maxHeartbeats 1600000 in
theorem rp_Check (F : Fr) (A : Option Addr) (n c : Nat) (lp : List Pr) (t0 : 0 ≤ F.ty) (f0 : 0 ≤ F.fl) (f1 : F.fl ≤ 255) (hp : AllP lp) (hc0 : 0 ≤ F.code) (hc1 : F.code ≤ 4294967295) (hw0 : 0 ≤ F.wt) (hw1 : F.wt ≤ 255)
    (hn : (n : Int) ≤ 20000) (hs : (F.data.size : Int) ≤ 20000) (w : World) (hpl : PL w A n c lp) :
    Calls Try.prog 17 #[.agg (F.cs A n c)] w fun e w' => e = .returned (.int .i64 (F.chk n)) ∧ Below w.heap.size w w' := by
  obtain ⟨q0, q1, q2, q3, q4, q5, q6, q7, q8, q9, q10, q11⟩ := fr_qs F A n c
  have HX := hide (fun w => rp_extra F A n c t0 f0 f1 w)
  have HPY := hide (fun hin w hpl => rp_payload F A n c lp t0 f0 f1 hp hin hc0 hc1 hn hs w hpl)
  have HZ := hide (show (Try.prog.info? 35).map (·.size) = some (F.cs A n c).size from rfr_sz)
  have HPL := hide (fun h0 => payB_len F lp h0)
  rw [hpl.len] at HPL
  have HSM := hide (fun h => siz_small (F := F) (n := n) h hn hs)
  generalize F.cs A n c = cs at *
  go_enter Try.func17, Try.ntmps17
  go_upto_region 1 with (fail)
  have B0 := hide (Below.refl w.heap.size w)
  have KN1 := hide (BlkIs.new w 35 cs)
  have HE1 := hide hpl
  have HLT := hide (hpl.lts (Nat.le_refl _))
  obtain ⟨g, hg⟩ : ∃ g, g = w.heap.size := ⟨_, rfl⟩
  have B1 := hide (B0.out.alloc B0.out.size (.cells cs 35))
  rw [← hg] at KN1 ⊢
  generalize w.alloc (.cells cs 35) = w1 at B1 KN1 ⊢
  clear hg B0 hpl
  refine wp_region_lit ?_
  refine wpList_rd (.pointer (some ⟨g, 2, none⟩)) ?_ ?_ ?_
  focus (rfl)
  focus ((try simp only [lz_true]); go_simp; done)
  simp only [Act.put, List.setIfInBounds_toArray, List.set_cons_zero, List.set_cons_succ]
  refine wpList_rd (.int .i64 F.st) ?_ ?_ ?_
  focus (rfl)
  focus (have kc := (KN1.out.cell 2).trans q2; (try simp only [lz_true]); go_simp; done)
  simp only [Act.put, List.setIfInBounds_toArray, List.set_cons_zero, List.set_cons_succ]
  refine wpList_rdcall (inS F.st) _ _ rfl (by (try simp only [lz_true]); go_simp) (rp_in F.st _) ?_
  intro w12 hb12
  have K12 := hide (KN1.out.keep hb12)
  have B12 := hide (B1.out.trans (hb12.mono B1.out.size))
  clear hb12 KN1 B1
  simp only [Act.put, List.setIfInBounds_toArray, List.set_cons_zero, List.set_cons_succ]
  obtain ⟨n7, hn7⟩ : ∃ k : Bool, k = (!(inS F.st)) := ⟨_, rfl⟩
  have Hn7 := hide hn7
  clear hn7
  refine wpList_rd (.bool n7) ?_ ?_ ?_
  focus (rfl)
  focus (rw [Hn7.out]; (try simp only [lz_true]); go_simp; done)
  simp only [Act.put, List.setIfInBounds_toArray, List.set_cons_zero, List.set_cons_succ]
  refine wpList_rd (.bool n7) ?_ ?_ ?_
  focus (rfl)
  focus ((try simp only [lz_true]); go_simp; done)
  simp only [Act.put, List.setIfInBounds_toArray, List.set_cons_zero, List.set_cons_succ]
  obtain ⟨kk16, hkk16⟩ : ∃ k : Bool, k = (!n7) := ⟨_, rfl⟩
  have Hkk16 := hide hkk16
  clear hkk16
  refine wpList_lz kk16 (.pointer (some ⟨g, 5, none⟩)) ?_ ?_ ?_
  focus (exact (wanted_bool rfl rfl rfl rfl (by rw [Hkk16.out]; cases n7 <;> rfl)))
  focus (intro hk; subst hk; (try simp only [lz_true]); go_simp; done)
  simp only [Act.put, List.setIfInBounds_toArray, List.set_cons_zero, List.set_cons_succ]
  refine wpList_lz kk16 (.int .i64 F.dep) ?_ ?_ ?_
  focus (exact (wanted_bool rfl rfl rfl rfl (by rw [Hkk16.out]; cases n7 <;> rfl)))
  focus (intro hk; subst hk; have kc := (K12.out.cell 5).trans q5; (try simp only [lz_true]); go_simp; done)
  simp only [Act.put, List.setIfInBounds_toArray, List.set_cons_zero, List.set_cons_succ]
  refine wpList_lzcall kk16 (inS F.dep) _ _ (wanted_bool rfl rfl rfl rfl (by rw [Hkk16.out]; cases n7 <;> rfl)) (by intro hk; subst hk; (try simp only [lz_true]); go_simp; done) (fun _ => rp_in F.dep _) ?_
  intro w13 hb13
  have K13 := hide (K12.out.keep hb13)
  have B13 := hide (B12.out.trans (hb13.mono B12.out.size))
  clear hb13 K12 B12
  simp only [Act.put, List.setIfInBounds_toArray, List.set_cons_zero, List.set_cons_succ]
  obtain ⟨n12, hn12⟩ : ∃ k : Bool, k = (!(inS F.dep)) := ⟨_, rfl⟩
  have Hn12 := hide hn12
  clear hn12
  refine wpList_lz kk16 (.bool n12) ?_ ?_ ?_
  focus (exact (wanted_bool rfl rfl rfl rfl (by rw [Hkk16.out]; cases n7 <;> rfl)))
  focus (intro hk; subst hk; rw [Hn12.out]; (try simp only [lz_true]); go_simp; done)
  simp only [Act.put, List.setIfInBounds_toArray, List.set_cons_zero, List.set_cons_succ]
  obtain ⟨r13, hr13⟩ : ∃ k : Bool, k = (n7 || n12) := ⟨_, rfl⟩
  have Hr13 := hide hr13
  clear hr13
  refine wpList_rd (.bool r13) ?_ ?_ ?_
  focus (rfl)
  focus (refine run_pick_lz _ _ _ rfl n7 rfl _ ?_; rw [Hr13.out]; (try rw [Hkk16.out]); cases n7 <;> rfl; done)
  simp only [Act.put, List.setIfInBounds_toArray, List.set_cons_zero, List.set_cons_succ]
  refine wpList_rd (.bool r13) ?_ ?_ ?_
  focus (rfl)
  focus ((try simp only [lz_true]); go_simp; done)
  simp only [Act.put, List.setIfInBounds_toArray, List.set_cons_zero, List.set_cons_succ]
  obtain ⟨kk28, hkk28⟩ : ∃ k : Bool, k = (!r13) := ⟨_, rfl⟩
  have Hkk28 := hide hkk28
  clear hkk28
  refine wpList_lz kk28 (.pointer (some ⟨g, 9, none⟩)) ?_ ?_ ?_
  focus (exact (wanted_bool rfl rfl rfl rfl (by rw [Hkk28.out]; cases r13 <;> rfl)))
  focus (intro hk; subst hk; (try simp only [lz_true]); go_simp; done)
  simp only [Act.put, List.setIfInBounds_toArray, List.set_cons_zero, List.set_cons_succ]
  refine wpList_lz kk28 (.int .i64 F.last) ?_ ?_ ?_
  focus (exact (wanted_bool rfl rfl rfl rfl (by rw [Hkk28.out]; cases r13 <;> rfl)))
  focus (intro hk; subst hk; have kc := (K13.out.cell 9).trans q9; (try simp only [lz_true]); go_simp; done)
  simp only [Act.put, List.setIfInBounds_toArray, List.set_cons_zero, List.set_cons_succ]
  refine wpList_lzcall kk28 (inS F.last) _ _ (wanted_bool rfl rfl rfl rfl (by rw [Hkk28.out]; cases r13 <;> rfl)) (by intro hk; subst hk; (try simp only [lz_true]); go_simp; done) (fun _ => rp_in F.last _) ?_
  intro w14 hb14
  have K14 := hide (K13.out.keep hb14)
  have B14 := hide (B13.out.trans (hb14.mono B13.out.size))
  clear hb14 K13 B13
  simp only [Act.put, List.setIfInBounds_toArray, List.set_cons_zero, List.set_cons_succ]
  obtain ⟨n18, hn18⟩ : ∃ k : Bool, k = (!(inS F.last)) := ⟨_, rfl⟩
  have Hn18 := hide hn18
  clear hn18
  refine wpList_lz kk28 (.bool n18) ?_ ?_ ?_
  focus (exact (wanted_bool rfl rfl rfl rfl (by rw [Hkk28.out]; cases r13 <;> rfl)))
  focus (intro hk; subst hk; rw [Hn18.out]; (try simp only [lz_true]); go_simp; done)
  simp only [Act.put, List.setIfInBounds_toArray, List.set_cons_zero, List.set_cons_succ]
  obtain ⟨r19, hr19⟩ : ∃ k : Bool, k = (r13 || n18) := ⟨_, rfl⟩
  have Hr19 := hide hr19
  clear hr19
  refine wpList_rd (.bool r19) ?_ ?_ ?_
  focus (rfl)
  focus (refine run_pick_lz _ _ _ rfl r13 rfl _ ?_; rw [Hr19.out]; (try rw [Hkk28.out]); cases r13 <;> rfl; done)
  simp only [Act.put, List.setIfInBounds_toArray, List.set_cons_zero, List.set_cons_succ]
  refine wpList_rd (.bool r19) ?_ ?_ ?_
  focus (rfl)
  focus ((try simp only [lz_true]); go_simp; done)
  simp only [Act.put, List.setIfInBounds_toArray, List.set_cons_zero, List.set_cons_succ]
  obtain ⟨kk40, hkk40⟩ : ∃ k : Bool, k = (!r19) := ⟨_, rfl⟩
  have Hkk40 := hide hkk40
  clear hkk40
  refine wpList_lz kk40 (.pointer (some ⟨g, 10, none⟩)) ?_ ?_ ?_
  focus (exact (wanted_bool rfl rfl rfl rfl (by rw [Hkk40.out]; cases r19 <;> rfl)))
  focus (intro hk; subst hk; (try simp only [lz_true]); go_simp; done)
  simp only [Act.put, List.setIfInBounds_toArray, List.set_cons_zero, List.set_cons_succ]
  refine wpList_lz kk40 (.int .i64 F.inc) ?_ ?_ ?_
  focus (exact (wanted_bool rfl rfl rfl rfl (by rw [Hkk40.out]; cases r19 <;> rfl)))
  focus (intro hk; subst hk; have kc := (K14.out.cell 10).trans q10; (try simp only [lz_true]); go_simp; done)
  simp only [Act.put, List.setIfInBounds_toArray, List.set_cons_zero, List.set_cons_succ]
  refine wpList_lzcall kk40 (inS F.inc) _ _ (wanted_bool rfl rfl rfl rfl (by rw [Hkk40.out]; cases r19 <;> rfl)) (by intro hk; subst hk; (try simp only [lz_true]); go_simp; done) (fun _ => rp_in F.inc _) ?_
  intro w15 hb15
  have K15 := hide (K14.out.keep hb15)
  have B15 := hide (B14.out.trans (hb15.mono B14.out.size))
  clear hb15 K14 B14
  simp only [Act.put, List.setIfInBounds_toArray, List.set_cons_zero, List.set_cons_succ]
  obtain ⟨n24, hn24⟩ : ∃ k : Bool, k = (!(inS F.inc)) := ⟨_, rfl⟩
  have Hn24 := hide hn24
  clear hn24
  refine wpList_lz kk40 (.bool n24) ?_ ?_ ?_
  focus (exact (wanted_bool rfl rfl rfl rfl (by rw [Hkk40.out]; cases r19 <;> rfl)))
  focus (intro hk; subst hk; rw [Hn24.out]; (try simp only [lz_true]); go_simp; done)
  simp only [Act.put, List.setIfInBounds_toArray, List.set_cons_zero, List.set_cons_succ]
  obtain ⟨r25, hr25⟩ : ∃ k : Bool, k = (r19 || n24) := ⟨_, rfl⟩
  have Hr25 := hide hr25
  clear hr25
  refine wpList_rd (.bool r25) ?_ ?_ ?_
  focus (rfl)
  focus (refine run_pick_lz _ _ _ rfl r19 rfl _ ?_; rw [Hr25.out]; (try rw [Hkk40.out]); cases r19 <;> rfl; done)
  simp only [Act.put, List.setIfInBounds_toArray, List.set_cons_zero, List.set_cons_succ]
  refine wpList_rd (.bool r25) ?_ ?_ ?_
  focus (rfl)
  focus ((try simp only [lz_true]); go_simp; done)
  simp only [Act.put, List.setIfInBounds_toArray, List.set_cons_zero, List.set_cons_succ]
  obtain ⟨kk52, hkk52⟩ : ∃ k : Bool, k = (!r25) := ⟨_, rfl⟩
  have Hkk52 := hide hkk52
  clear hkk52
  refine wpList_lz kk52 (.pointer (some ⟨g, 4, none⟩)) ?_ ?_ ?_
  focus (exact (wanted_bool rfl rfl rfl rfl (by rw [Hkk52.out]; cases r25 <;> rfl)))
  focus (intro hk; subst hk; (try simp only [lz_true]); go_simp; done)
  simp only [Act.put, List.setIfInBounds_toArray, List.set_cons_zero, List.set_cons_succ]
  refine wpList_lz kk52 (.int .i64 F.pad) ?_ ?_ ?_
  focus (exact (wanted_bool rfl rfl rfl rfl (by rw [Hkk52.out]; cases r25 <;> rfl)))
  focus (intro hk; subst hk; have kc := (K15.out.cell 4).trans q4; (try simp only [lz_true]); go_simp; done)
  simp only [Act.put, List.setIfInBounds_toArray, List.set_cons_zero, List.set_cons_succ]
  obtain ⟨z29, hz29⟩ : ∃ k : Bool, (decide (F.pad < 0)) = k := ⟨_, rfl⟩
  refine wpList_lz kk52 (.bool z29) ?_ ?_ ?_
  focus (exact (wanted_bool rfl rfl rfl rfl (by rw [Hkk52.out]; cases r25 <;> rfl)))
  focus (intro hk; subst hk; (try simp only [lz_true]); go_simp; first | done | exact hz29 | rw [hz29] | simp [hz29] | (rw [← hz29]; (first | (simp [beqI, bneI, beqN]; done) | skip)); done)
  simp only [Act.put, List.setIfInBounds_toArray, List.set_cons_zero, List.set_cons_succ]
  have Hz29 := hide hz29.symm
  clear hz29
  obtain ⟨r30, hr30⟩ : ∃ k : Bool, k = (r25 || z29) := ⟨_, rfl⟩
  have Hr30 := hide hr30
  clear hr30
  refine wpList_rd (.bool r30) ?_ ?_ ?_
  focus (rfl)
  focus (refine run_pick_lz _ _ _ rfl r25 rfl _ ?_; rw [Hr30.out]; (try rw [Hkk52.out]); cases r25 <;> rfl; done)
  simp only [Act.put, List.setIfInBounds_toArray, List.set_cons_zero, List.set_cons_succ]
  refine wpList_rd (.bool r30) ?_ ?_ ?_
  focus (rfl)
  focus ((try simp only [lz_true]); go_simp; done)
  simp only [Act.put, List.setIfInBounds_toArray, List.set_cons_zero, List.set_cons_succ]
  obtain ⟨kk62, hkk62⟩ : ∃ k : Bool, k = (!r30) := ⟨_, rfl⟩
  have Hkk62 := hide hkk62
  clear hkk62
  refine wpList_lz kk62 (.pointer (some ⟨g, 4, none⟩)) ?_ ?_ ?_
  focus (exact (wanted_bool rfl rfl rfl rfl (by rw [Hkk62.out]; cases r30 <;> rfl)))
  focus (intro hk; subst hk; (try simp only [lz_true]); go_simp; done)
  simp only [Act.put, List.setIfInBounds_toArray, List.set_cons_zero, List.set_cons_succ]
  refine wpList_lz kk62 (.int .i64 F.pad) ?_ ?_ ?_
  focus (exact (wanted_bool rfl rfl rfl rfl (by rw [Hkk62.out]; cases r30 <;> rfl)))
  focus (intro hk; subst hk; have kc := (K15.out.cell 4).trans q4; (try simp only [lz_true]); go_simp; done)
  simp only [Act.put, List.setIfInBounds_toArray, List.set_cons_zero, List.set_cons_succ]
  obtain ⟨z34, hz34⟩ : ∃ k : Bool, (decide (255 < F.pad)) = k := ⟨_, rfl⟩
  refine wpList_lz kk62 (.bool z34) ?_ ?_ ?_
  focus (exact (wanted_bool rfl rfl rfl rfl (by rw [Hkk62.out]; cases r30 <;> rfl)))
  focus (intro hk; subst hk; (try simp only [lz_true]); go_simp; first | done | exact hz34 | rw [hz34] | simp [hz34] | (rw [← hz34]; (first | (simp [beqI, bneI, beqN]; done) | skip)); done)
  simp only [Act.put, List.setIfInBounds_toArray, List.set_cons_zero, List.set_cons_succ]
  have Hz34 := hide hz34.symm
  clear hz34
  obtain ⟨r35, hr35⟩ : ∃ k : Bool, k = (r30 || z34) := ⟨_, rfl⟩
  have Hr35 := hide hr35
  clear hr35
  refine wpList_rd (.bool r35) ?_ ?_ ?_
  focus (rfl)
  focus (refine run_pick_lz _ _ _ rfl r30 rfl _ ?_; rw [Hr35.out]; (try rw [Hkk62.out]); cases r30 <;> rfl; done)
  simp only [Act.put, List.setIfInBounds_toArray, List.set_cons_zero, List.set_cons_succ]
  obtain ⟨rB, hrB⟩ : ∃ b, b = r35 := ⟨_, rfl⟩
  have HRB := hide (show rB = !F.inB by rw [hrB, Hr35.out, Hz34.out, Hr30.out, Hz29.out, Hr25.out, Hn24.out, Hr19.out, Hn18.out, Hr13.out, Hn12.out, Hn7.out]; exact in_not F)
  rw [← hrB]
  clear hrB
  cases hin : F.inB with
  | false =>
    have hrt := HRB.out
    rw [hin] at hrt
    have HE := hide (show F.chk n = 8 by unfold Fr.chk; rw [if_pos hin])
    subst hrt
    clear hin HRB
    go_wp2
    go_ret
    exact ⟨by rw [HE.out]; rfl, B15.out⟩
  | true =>
    have hrt := HRB.out
    rw [hin] at hrt
    have HE := hide (chk_not (n := n) hin)
    have hin0 := hide hin
    subst hrt
    clear hin HRB
    go_wp2_with (refine wpList_load_blk rfl 35 (.tmp 1) rfl g rfl 35 cs _ K15.out Try.underlying35 rfl HZ.out ?_)
    refine (HX.out _).mono ?_
    rintro e w30 ⟨rfl, hb30⟩
    have K30 := hide (K15.out.keep hb30)
    have B30 := hide (B15.out.trans (hb30.mono B15.out.size))
    clear hb30 K15 B15
    cases hx : F.extraB n with
    | true =>
      have HE4 := hide (HE.out.trans (if_pos hx))
      clear hx
      go_wp2
      go_ret
      exact ⟨by rw [HE4.out]; rfl, B30.out⟩
    | false =>
      have HE4 := hide (HE.out.trans (if_neg (by rw [hx]; simp)))
      clear hx
      go_wp2_with (refine wpList_load_blk rfl 35 (.tmp 1) rfl g rfl 35 cs _ K30.out Try.underlying35 rfl HZ.out ?_)
      refine (HPY.out hin0.out _ (HE1.out.keepB (B30.out) HLT.out)).mono ?_
      rintro e w31 ⟨vp, rfl, hown31, hb31⟩
      have B31 := hide (B30.out.trans (hb31.mono B30.out.size))
      obtain ⟨PA, PC, rfl⟩ := own_form hown31
      obtain ⟨sz0, sz1⟩ := HSM.out hin0.out
      have hlen := HPL.out ((inB_iff F).1 hin0.out).2.2.2.2.2.2.2.2.1
      clear hown31 hb31 B30
      generalize (F.payB lp).length = m at hlen ⊢
      by_cases hz : 16384 < F.siz n
      · have HE5 := hide (HE4.out.trans (if_pos hz))
        have hm : (16384 : Int) < (m : Int) := by omega
        clear hlen hz sz0 sz1
        go_wp2
        go_ret
        exact ⟨by rw [HE5.out]; rfl, B31.out⟩
      · have HE5 := hide (HE4.out.trans (if_neg hz))
        have hm : ¬ (16384 : Int) < (m : Int) := by omega
        clear hlen hz sz0 sz1
        go_wp2
        go_ret
        exact ⟨by rw [HE5.out]; rfl, B31.out⟩

set_option maxRecDepth 100000 in
set_option maxHeartbeats 1600000 in
theorem rp_Length (F : Fr) (A : Option Addr) (n c : Nat) (lp : List Pr) (t0 : 0 ≤ F.ty) (f0 : 0 ≤ F.fl) (f1 : F.fl ≤ 255) (hp : AllP lp) (hc0 : 0 ≤ F.code) (hc1 : F.code ≤ 4294967295) (hw0 : 0 ≤ F.wt) (hw1 : F.wt ≤ 255)
    (hn : (n : Int) ≤ 20000) (hs : (F.data.size : Int) ≤ 20000) (w : World) (hpl : PL w A n c lp) :
    Calls Try.prog 19 #[.agg (F.cs A n c)] w fun e w' => e = .returned (.int .i64 (F.len n)) ∧ Below w.heap.size w w' := by
  have HC := hide (fun w hpl => rp_Check F A n c lp t0 f0 f1 hp hc0 hc1 hw0 hw1 hn hs w hpl)
  have HPY := hide (fun hin w hpl => rp_payload F A n c lp t0 f0 f1 hp hin hc0 hc1 hn hs w hpl)
  have HZ := hide (show (Try.prog.info? 35).map (·.size) = some (F.cs A n c).size from rfr_sz)
  have HPL := hide (fun h0 => payB_len F lp h0)
  rw [hpl.len] at HPL
  have HL := hide (show F.len n = if F.chk n = 0 then F.siz n else 0 from rfl)
  generalize F.cs A n c = cs at *
  go_enter Try.func19, Try.ntmps19
  go_upto_region 1 with (fail)
  have B0 := hide (Below.refl w.heap.size w)
  have KN1 := hide (BlkIs.new w 35 cs)
  have HE1 := hide hpl
  have HLT := hide (hpl.lts (Nat.le_refl _))
  obtain ⟨g, hg⟩ : ∃ g, g = w.heap.size := ⟨_, rfl⟩
  have B1 := hide (B0.out.alloc B0.out.size (.cells cs 35))
  rw [← hg] at KN1 ⊢
  generalize w.alloc (.cells cs 35) = w1 at B1 KN1 ⊢
  clear hg B0 hpl
  go_wp2_with (refine wpList_load_blk rfl 35 (.tmp 1) rfl g rfl 35 cs _ KN1.out Try.underlying35 rfl HZ.out ?_)
  refine (HC.out _ (HE1.out.keepB B1.out HLT.out)).mono ?_
  rintro e w2 ⟨rfl, hb2⟩
  have K2 := hide (KN1.out.keep hb2)
  have B2 := hide (B1.out.trans (hb2.mono B1.out.size))
  clear hb2 KN1 B1
  by_cases hc : F.chk n = 0
  · have hin := (chk_zero hc).1
    have HL := hide (HL.out.trans (if_pos hc))
    rw [hc]
    clear hc
    go_wp2_with (refine wpList_load_blk rfl 35 (.tmp 1) rfl g rfl 35 cs _ K2.out Try.underlying35 rfl HZ.out ?_)
    refine (HPY.out hin _ (HE1.out.keepB B2.out HLT.out)).mono ?_
    rintro e w3 ⟨vp, rfl, hown3, hb3⟩
    have B3 := hide (B2.out.trans (hb3.mono B2.out.size))
    obtain ⟨PA, PC, rfl⟩ := own_form hown3
    have HLEN := hide (HPL.out ((inB_iff F).1 hin).2.2.2.2.2.2.2.2.1)
    clear hown3 hb3 B2 hin
    generalize (F.payB lp).length = m at HLEN ⊢
    go_wp2
    go_ret
    exact ⟨by rw [HL.out, ← HLEN.out]; rfl, B3.out⟩
  · have HL := hide (HL.out.trans (if_neg hc))
    have hcc : (F.chk n != 0) = true := by simp [hc]
    go_wp2
    go_ret
    exact ⟨by rw [HL.out]; rfl, B2.out⟩

set_option maxRecDepth 100000 in
set_option maxHeartbeats 1600000 in
theorem rp_Put (F : Fr) (A : Option Addr) (n c : Nat) (lp : List Pr) (t0 : 0 ≤ F.ty) (f0 : 0 ≤ F.fl) (f1 : F.fl ≤ 255) (hp : AllP lp) (hc0 : 0 ≤ F.code) (hc1 : F.code ≤ 4294967295) (hw0 : 0 ≤ F.wt) (hw1 : F.wt ≤ 255)
    (hn : (n : Int) ≤ 20000) (hs : (F.data.size : Int) ≤ 20000) (w : World) (hpl : PL w A n c lp) :
    Calls Try.prog 15 #[.agg (F.cs A n c)] w (GivesPut w.heap.size (F.put lp) (F.chk n) w) := by
  obtain ⟨i0, hi0, hz0, hz1, hz2⟩ := info_parts u8_info
  obtain ⟨q0, q1, q2, q3, q4, q5, q6, q7, q8, q9, q10, q11⟩ := fr_qs F A n c
  have HC := hide (fun w hpl => rp_Check F A n c lp t0 f0 f1 hp hc0 hc1 hw0 hw1 hn hs w hpl)
  have HPY := hide (fun hin w hpl => rp_payload F A n c lp t0 f0 f1 hp hin hc0 hc1 hn hs w hpl)
  have HZ := hide (show (Try.prog.info? 35).map (·.size) = some (F.cs A n c).size from rfr_sz)
  have HPL := hide (fun h0 => payB_len F lp h0)
  have HPU := hide (show F.put lp = if F.chk lp.length = 0 then F.lay lp (hdB (F.siz lp.length) F.ty F.fl F.st) else [] from rfl)
  have HLY := hide (fun h => pay_lay (F := F) (l := lp) h)
  rw [hpl.len] at HPL HPU HLY
  generalize F.cs A n c = cs at *
  go_enter Try.func15, Try.ntmps15
  go_upto_region 1 with (fail)
  have B0 := hide (Below.refl w.heap.size w)
  have KN1 := hide (BlkIs.new w 35 cs)
  have HE1 := hide hpl
  have HLT := hide (hpl.lts (Nat.le_refl _))
  obtain ⟨g, hg⟩ : ∃ g, g = w.heap.size := ⟨_, rfl⟩
  have B1 := hide (B0.out.alloc B0.out.size (.cells cs 35))
  rw [← hg] at KN1 ⊢
  generalize w.alloc (.cells cs 35) = w1 at B1 KN1 ⊢
  clear hg B0 hpl
  go_wp2_with (refine wpList_load_blk rfl 35 (.tmp 1) rfl g rfl 35 cs _ KN1.out Try.underlying35 rfl HZ.out ?_)
  refine (HC.out _ (HE1.out.keepB B1.out HLT.out)).mono ?_
  rintro e w2 ⟨rfl, hb2⟩
  have K2 := hide (KN1.out.keep hb2)
  have B2 := hide (B1.out.trans (hb2.mono B1.out.size))
  clear hb2 KN1 B1
  by_cases hc : F.chk n = 0
  · obtain ⟨hin, hfit, _, hsz⟩ := chk_zero hc
    have HPU := hide (HPU.out.trans (if_pos hc))
    have HLY := hide (HLY.out hfit)
    have hi := (inB_iff F).1 hin
    have HCE := hide hc
    rw [hc]
    clear hc hfit
    go_wp2_with (refine wpList_load_blk rfl 35 (.tmp 1) rfl g rfl 35 cs _ K2.out Try.underlying35 rfl HZ.out ?_)
    refine (HPY.out hin _ (HE1.out.keepB B2.out HLT.out)).mono ?_
    rintro e w3 ⟨vp, rfl, hown3, hb3⟩
    have K3 := hide (K2.out.keep hb3)
    have B3 := hide (B2.out.trans (hb3.mono B2.out.size))
    obtain ⟨PA, PC, rfl⟩ := own_form hown3
    have hlen := HPL.out hi.2.2.2.2.2.2.2.2.1
    obtain ⟨PY, hPY⟩ : ∃ PY, PY = F.payB lp := ⟨_, rfl⟩
    rw [← hPY] at hown3 hlen HLY ⊢
    have HALL := hide (show AllB PY by rw [hPY]; exact payB_all F lp hi hc0 hc1 hw0 hw1)
    have hl0 : 0 ≤ (PY.length : Int) := by omega
    have hl1 : (PY.length : Int) ≤ 16384 := by omega
    have HLEN := hide hlen
    have O3 := hide hown3
    have HPT := hide (fun w => rf_Put_yes (PY.length : Int) F.ty F.fl F.st hl0 (by omega) hi.1 hi.2.1 w)
    clear hown3 hb3 K2 B2 hPY hin hsz hlen hi
    have g0 := (K3.out.cell 0).trans q0
    have g1 := (K3.out.cell 1).trans q1
    have g2 := (K3.out.cell 2).trans q2
    generalize hm : PY.length = m at *
    clear hm
    go_wp2_with fail
    refine (HPT.out _).mono ?_
    rintro e w4 ⟨vh, rfl, hown4, hb4⟩
    have O4 := hide (own_base hown4 B3.out.size)
    have P4 := hide (own_keep O3.out hb4)
    have B4 := hide (B3.out.trans (hb4.mono B3.out.size))
    have R4 := hide (rb_of_own P4.out HALL.out).1
    have hnil := hide (own_nil P4.out)
    clear hown4 hb4 O3 B3 K3 g0 g1 g2
    go_wp2_with (at_builtin; refine wpList_append_rb _ rfl (.tmp 28) (.tmp 29) 44 rfl w.heap.size 5 i0 Try.underlying44 hi0 hz0 hz1 hz2 vh (hdB (m : Int) F.ty F.fl F.st) rfl O4.out PA m PC PY rfl R4.out hnil.out (by rw [hdB_len]; omega) B4.out.size ?_; intro v6 w6 hown6 hg6; have HB6 := hide (own_below O4.out B4.out (Nat.le_refl _) hg6); have O6 := hide hown6; clear hown6 hg6)
    go_ret2
    exact ⟨_, by rw [HCE.out]; rfl, by rw [HPU.out, HLY.out, ← HLEN.out]; exact O6.out, HB6.out⟩
  · have HPU := hide (HPU.out.trans (if_neg hc))
    have hcc : (F.chk n != 0) = true := by simp [hc]
    go_wp2
    go_ret2
    exact ⟨_, rfl, by rw [HPU.out]; exact World.ownsRow_nil _ _ _ _, B2.out⟩
end Go.Proofs.Ytefdhbljcnpggaa
