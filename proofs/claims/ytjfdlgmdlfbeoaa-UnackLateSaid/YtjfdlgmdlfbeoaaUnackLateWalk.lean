/-
  Layer 13: UnackLate: the walk.
-/
import Derived.Test.YtjfdlgmdlfbeoaaUkAwake
import Derived.Test.YtjfdlgmdlfbeoaaRkCheck
import Derived.BigGuardPart
namespace Go.Proofs.Ytjfdlgmdlfbeoaa.unackLate
set_option linter.unusedSimpArgs false
set_option linter.unusedVariables false
open Go.RowKit

theorem tick_at {l : List It} (h : chkU l = 0) {x : It} (hx : x ∈ l) : tickB x.t = true := by
  have h3 := (chkU_ok h).2.2.1
  rw [itsOff, List.any_eq_false] at h3
  have := h3 x hx
  simpa using this
/-- What is late stays so, and is for each shorter time. -/
theorem late_on {l : List It} {t m : Int} (h : chkU l = 0) (t0 : 0 ≤ t) (t1 : t ≤ 4294967295) (m0 : 0 ≤ m) (m1 : m ≤ 4294967295) (hl : lateU l t m = true) :
    lateU l (t + 1) m = true ∧ (0 < m → lateU l t (m - 1) = true) ∧ ackB l = true ∧ 0 < l.length := by
  cases l with
  | nil => cases hl
  | cons x l =>
    have ht := tick_at h (List.mem_cons_self (a := x) (l := l))
    rw [lateU_in ht t0 (by omega) m0 (by omega), decide_eq_true_eq] at hl
    refine ⟨?_, fun hm => ?_, rfl, by simp⟩
    · rw [lateU_in ht (by omega) (by omega) m0 (by omega), decide_eq_true_eq]; omega
    · rw [lateU_in ht t0 (by omega) (by omega) (by omega), decide_eq_true_eq]; omega
/-- What came later is not late ahead of it. -/
theorem late_not {l : List It} {t m : Int} (h : chkU l = 0) (t0 : 0 ≤ t) (t1 : t ≤ 4294967295) (m0 : 0 ≤ m) (m1 : m ≤ 4294967295) (hl : lateU l t m = false) : lateU (ackL l) t m = false := by
  cases l with
  | nil => exact hl
  | cons x l =>
    have ht := tick_at h (List.mem_cons_self (a := x) (l := l))
    rw [lateU_in ht t0 (by omega) m0 (by omega), decide_eq_false_iff_not] at hl
    show lateU l t m = false
    cases l with
    | nil => rfl
    | cons y l =>
      have hy := tick_at h (List.mem_cons_of_mem x (List.mem_cons_self (a := y) (l := l)))
      have ho := ord_at (chkU_ok h).2.2.2 (k := 0) (x := x) (y := y) rfl rfl
      rw [lateU_in hy t0 (by omega) m0 (by omega), decide_eq_false_iff_not]
      omega
theorem ackB_eq (l : List It) : ackB l = decide (0 < (l.length : Int)) := by
  cases l with
  | nil => rfl
  | cons x l => simp [ackB]

set_option maxRecDepth 100000 in
set_option maxHeartbeats 6400000 in
theorem walk (A : Option Addr) (n c : Nat) (l : List It) (t m : Int) (w : World) (hl : IL w A n c l) (hsz : n * 32 ≤ reachBytes) (_wt : (Lit.int .u32 t).wf = true) (_wm : (Lit.int .u32 m).wf = true) :
    Calls Try.prog 6 #[.slice A n c, .int .u32 t, .int .u32 m] w fun e w' => e = .returned (.bool true) ∧ Below w.heap.size w w' := by
  have HAW := hide (fun w => aw_unack w)
  obtain ⟨t0, t1⟩ := bounds_u32 _wt
  obtain ⟨m0, m1⟩ := bounds_u32 _wm
  have hn : (n : Int) ≤ 4398046511104 := by have := reachBytes_lt; omega
  clear _wt _wm hsz
  have hle := hl.len
  subst hle
  have HIL := hide hl
  have HB0 := hide (Below.refl w.heap.size w)
  have HOWN := hide (fun w' (h : IL w' A l.length c l) => (law_own A l.length c l w' h hn).mono fun _ _ h => h.q)
  have HLI := hide (fun w' (h : IL w' A l.length c l) => rk_Light A l.length c l w' h)
  have c1 : IntKind.i64.wrap t = t := IntWalk.i64_in _ (by omega)
  have c2 : IntKind.i64.wrap m = m := IntWalk.i64_in _ (by omega)
  clear hl
  go_enter Try.func6, Try.ntmps6
  go_wp2_with fail
  refine (HOWN.out _ HIL.out).mono ?_
  rintro e w1 ⟨A1, cx, rfl, hx, hb⟩
  have HX := hide hx
  have HI1 := hide (HIL.out.keep hb)
  have HB1 := hide hb
  clear hx hb HIL HB0 HOWN
  go_wp2_with fail
  refine (HLI.out _ HI1.out).mono ?_
  rintro e w2 ⟨rfl, rfl⟩
  cases hli : lightU l with
  | false =>
    clear hli HLI hn
    go_wp2_with fail
    refine (HAW.out _).mono ?_
    rintro e w2 ⟨rfl, hb2⟩
    have HB2 := hide (HB1.out.trans (hb2.mono HB1.out.size))
    clear hb2
    go_wp2
    go_ret
    exact ⟨rfl, HB2.out⟩
  | true =>
    obtain ⟨hn8, hfl⟩ := lightU_bd hli
    have hf : FewP l := fun x hx => by have := hfl x hx; omega
    have HCH := hide (fun w' (h : IL w' A1 l.length cx l) => uk_Check A1 l.length cx l w' h (by omega))
    have HLT := hide (fun w' t m (h : IL w' A1 l.length cx l) => uk_Late A1 l.length cx l t m w' h (by omega))
    have HAK := hide (fun w' (h : IL w' A1 l.length cx l) => uk_Ack A1 l.length cx l w' h (by omega) hf)
    unfold GivesAck at HAK
    have HLR := hide (fun w' Ar cr t m (h : IL w' Ar (ackL l).length cr (ackL l)) => uk_Late Ar (ackL l).length cr (ackL l) t m w' h (by have : (ackL l).length ≤ l.length := by rw [ackL, List.length_drop]; omega
                                                                                                                                         omega))
    have hab := ackB_eq l
    clear hli HLI hfl hf
    go_wp2_with fail
    refine (HCH.out _ HX.out).mono ?_
    rintro e w3 ⟨rfl, hb3⟩
    have HX3 := hide (HX.out.keep hb3)
    have HI3 := hide (HI1.out.keep hb3)
    have HB3 := hide (HB1.out.trans (hb3.mono HB1.out.size))
    clear hb3 HCH HX HI1 HB1
    by_cases hck : chkU l = 0
    · have hh : (chkU l != 0) = false := by simp [hck]
      have HON := hide (fun h => late_on hck t0 t1 m0 m1 h)
      have HNO := hide (fun h => late_not hck t0 t1 m0 m1 h)
      rw [hck]
      clear hck hh
      go_wp2_with fail
      refine (HLT.out _ _ _ HX3.out).mono ?_
      rintro e w4 ⟨rfl, rfl⟩
      go_wp2_with fail
      refine (HAK.out _ HX3.out).mono ?_
      rintro e w5 ⟨Ar, cr, Ap, cp, rfl, hr, hp, hb5⟩
      have HX5 := hide (HX3.out.keep hb5)
      have HR5 := hide hr
      have HB5 := hide (HB3.out.trans (hb5.mono HB3.out.size))
      clear hb5 HAK hr hp HB3 HI3 HX3
      cases hla : lateU l t m with
      | true =>
        obtain ⟨e1, e2, e3, e4⟩ := HON.out hla
        have HE1 := hide e1
        have HE2 := hide e2
        rw [e3] at hab ⊢
        have hpos : (0 : Int) < (l.length : Int) := by omega
        have hpn : 0 < l.length := e4
        clear e1 e2 e3 hab HON HNO hla HLR
        go_wp2_with fail
        refine (HLT.out _ _ _ HX5.out).mono ?_
        rintro e w6 ⟨rfl, rfl⟩
        rw [HE1.out]
        by_cases hm : 0 < m
        · have HE3 := hide (HE2.out hm)
          go_wp2_with fail
          refine (HLT.out _ _ _ HX5.out).mono ?_
          rintro e w6 ⟨rfl, rfl⟩
          rw [HE3.out]
          go_wp2_with fail
          refine (HAW.out _).mono ?_
          rintro e w7 ⟨rfl, hb7⟩
          have HB7 := hide (HB5.out.trans (hb7.mono HB5.out.size))
          clear hb7
          go_wp2
          go_ret
          exact ⟨rfl, HB7.out⟩
        · go_wp2_with fail
          refine (HAW.out _).mono ?_
          rintro e w7 ⟨rfl, hb7⟩
          have HB7 := hide (HB5.out.trans (hb7.mono HB5.out.size))
          clear hb7
          go_wp2
          go_ret
          exact ⟨rfl, HB7.out⟩
      | false =>
        have HE1 := hide (HNO.out hla)
        have hbb : (decide (0 < (l.length : Int)) == decide (0 < (l.length : Int))) = true := beq_self_eq_true _
        rw [hab]
        clear hab HON HNO hla HLT
        go_wp2_with fail
        refine (HLR.out _ _ _ _ _ HR5.out).mono ?_
        rintro e w6 ⟨rfl, rfl⟩
        rw [HE1.out]
        go_wp2_with fail
        refine (HAW.out _).mono ?_
        rintro e w7 ⟨rfl, hb7⟩
        have HB7 := hide (HB5.out.trans (hb7.mono HB5.out.size))
        clear hb7
        go_wp2
        go_ret
        exact ⟨rfl, HB7.out⟩
    · have hh : (chkU l != 0) = true := by simp [hck]
      generalize chkU l = ck at *
      clear hck hab HLT HAK HLR
      go_wp2_with fail
      refine (HAW.out _).mono ?_
      rintro e w4 ⟨rfl, hb4⟩
      have HB4 := hide (HB3.out.trans (hb4.mono HB3.out.size))
      clear hb4
      go_wp2
      go_ret
      exact ⟨rfl, HB4.out⟩
end Go.Proofs.Ytjfdlgmdlfbeoaa.unackLate
