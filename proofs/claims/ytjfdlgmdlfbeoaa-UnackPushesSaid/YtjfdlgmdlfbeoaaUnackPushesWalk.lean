/-
  Layer 13: UnackPushes: the walk.
-/
import Derived.Test.YtjfdlgmdlfbeoaaUkAwake
import Derived.Test.YtjfdlgmdlfbeoaaRkPush
import Derived.BigGuardPart
namespace Go.Proofs.Ytjfdlgmdlfbeoaa.unackPushes
set_option linter.unusedSimpArgs false
set_option linter.unusedVariables false
open Go.RowKit

theorem push_few {l : List It} {ps : List Pr} {now : Int} (h : FewP l) (hp : (ps.length : Int) ≤ 1000000) (hn : (l.length : Int) ≤ 8) : FewP (pushU l ps now).1 ∧ ((pushU l ps now).1.length : Int) ≤ 9 := by
  unfold pushU
  split
  · exact ⟨h, by simp only; omega⟩
  · split
    · exact ⟨h, by simp only; omega⟩
    · split
      · exact ⟨h, by simp only; omega⟩
      · split
        · exact ⟨h, by simp only; omega⟩
        · split
          · exact ⟨h, by simp only; omega⟩
          · refine ⟨fun x hx => ?_, by simp; omega⟩
            rcases List.mem_append.1 hx with hx | hx
            · exact h x hx
            · rw [List.mem_singleton] at hx; subst hx; exact hp
theorem ack_few {l : List It} (h : FewP l) : FewP (ackL l) := fun x hx => h x (List.mem_of_mem_drop hx)
theorem ackP_few {l : List It} (h : FewP l) : ((ackP l).length : Int) ≤ 1000000 := by
  cases l with
  | nil => simp [ackP]
  | cons x l => exact h x List.mem_cons_self
/-- back of a queue. -/
theorem backs {r : List It} (hn : (r.length : Int) ≤ 9) (w : World) (A : Option Addr) (c : Nat) (h : IL w A r.length c r) :
    Calls Try.prog 15 #[.slice A r.length c] w fun e w' => ∃ A1 c1, e = .returned (.slice A1 r.length c1) ∧ IL w' A1 r.length c1 r ∧ Below w.heap.size w w' :=
  (law_back A r.length c r w h (by omega)).mono fun _ _ h => h.q
theorem sames {r : List It} (hn : (r.length : Int) ≤ 9) (hf : FewP r) (w : World) (A : Option Addr) (c : Nat) (A' : Option Addr) (c' : Nat) (h : IL w A r.length c r) (h' : IL w A' r.length c' r) :
    Calls Try.prog 14 #[.slice A r.length c, .slice A' r.length c'] w fun e w' => e = .returned (.bool true) ∧ Below w.heap.size w w' := by
  have := rk_Same A A' r.length r.length c c' r r w h h' (by omega) (by omega) hf hf
  rwa [show decide (r = r) = true by simp] at this

set_option maxRecDepth 100000 in
set_option maxHeartbeats 6400000 in
theorem walk (A : Option Addr) (n c : Nat) (l : List It) (B : Option Addr) (m d : Nat) (ps : List Pr) (now : Int) (w : World) (hl : IL w A n c l) (hp : PL w B m d ps) (_ha : AllP ps) (_hw : (Lit.int .i64 now).wf = true) :
    Calls Try.prog 3 #[.slice A n c, .slice B m d, .int .i64 now] w fun e w' => e = .returned (.bool true) ∧ Below w.heap.size w w' := by
  clear _ha _hw
  have HAW := hide (fun w => aw_unack w)
  have hle := hl.len
  subst hle
  have hlp := hp.len
  subst hlp
  have HLI := hide (rk_Light A l.length c l w hl)
  have HB0 := hide (Below.refl w.heap.size w)
  cases hli : lightU l with
  | false =>
    rw [hli] at HLI
    clear hli hl hp
    go_enter Try.func3, Try.ntmps3
    go_wp2_with fail
    refine HLI.out.mono ?_
    rintro e w1 ⟨rfl, rfl⟩
    go_wp2_with fail
    refine (HAW.out _).mono ?_
    rintro e w2 ⟨rfl, hb2⟩
    have HB2 := hide hb2
    clear hb2
    go_wp2
    go_ret
    exact ⟨rfl, HB2.out⟩
  | true =>
    rw [hli] at HLI
    obtain ⟨hn, hfl⟩ := lightU_bd hli
    by_cases hm : (ps.length : Int) ≤ 20
    · have hm' : ¬ (20 : Int) < (ps.length : Int) := by omega
      have hf : FewP l := fun x hx => by have := hfl x hx; omega
      obtain ⟨hpf, hpn⟩ := push_few (now := now) hf (show (ps.length : Int) ≤ 1000000 by omega) hn
      have HIL := hide hl
      have HPL := hide hp
      have HOWN := hide (fun w' (h : IL w' A l.length c l) => (law_own A l.length c l w' h (by omega)).mono fun _ _ h => h.q)
      have HPU := hide (fun w' A' c' (h : IL w' A' l.length c' l) (hp : PL w' B ps.length d ps) => uk_Push A' l.length c' l B ps.length d ps now w' h hp (by omega) (by omega) hf)
      have HRP := hide (fun w' (h : IL w' A l.length c l) (hp : PL w' B ps.length d ps) => rk_Push A l.length c l B ps.length d ps now w' h hp (by omega) (by omega))
      have HAK := hide (fun w' A' c' (h : IL w' A' l.length c' l) => uk_Ack A' l.length c' l w' h (by omega) hf)
      have HRA := hide (fun w' (h : IL w' A l.length c l) => rk_Ack A l.length c l w' h (by omega))
      unfold GivesAck at HAK HRA
      unfold GivesPush at HPU HRP
      have haf := ack_few hf
      have hapf := ackP_few hf
      have han : ((ackL l).length : Int) ≤ 9 := by have : (ackL l).length ≤ l.length := by rw [ackL, List.length_drop]; omega
                                                   omega
      have HBX := hide (fun w A c h => backs (r := l) (by omega) w A c h)
      have HSX := hide (fun w A c A' c' h h' => sames (r := l) (by omega) hf w A c A' c' h h')
      generalize pushU l ps now = pr at *
      obtain ⟨r, ec⟩ := pr
      simp only at hpf hpn HPU HRP
      have HBA := hide (fun w A c h => backs (r := r) hpn w A c h)
      have HSR := hide (fun w A c A' c' h h' => sames (r := r) hpn hpf w A c A' c' h h')
      have HBC := hide (fun w A c h => backs (r := ackL l) han w A c h)
      have HSA := hide (fun w A c A' c' h h' => sames (r := ackL l) han haf w A c A' c' h h')
      generalize ackL l = al at *
      generalize ackB l = ab at *
      have HSP := hide (fun w A c A' c' (h : PL w A (ackP l).length c (ackP l)) (h' : PL w A' (ackP l).length c' (ackP l)) => rf_SamePairs A A' (ackP l).length (ackP l).length c c' (ackP l) (ackP l) w h h' (by omega) (by omega))
      rw [show sameP (ackP l) (ackP l) = true from sameP_yes rfl] at HSP
      generalize ackP l = ap at *
      have hee : (ec == ec) = true := beq_self_eq_true ec
      have hab : (ab == ab) = true := beq_self_eq_true ab
      clear hli hl hp hfl hf hpf hpn haf hapf han
      go_enter Try.func3, Try.ntmps3
      go_wp2_with fail
      refine HLI.out.mono ?_
      rintro e w1 ⟨rfl, rfl⟩
      go_wp2_with fail
      refine (HOWN.out _ HIL.out).mono ?_
      rintro e wx1 ⟨Ax, cx, rfl, hx, hb⟩
      have HIL_1 := hide (HIL.out.keep hb)
      have HPL_1 := hide (HPL.out.keep hb)
      have HB_1 := hide (HB0.out.trans (hb.mono HB0.out.size))
      have HX_1 := hide hx
      clear hb HB0 HIL HPL hx
      go_wp2_with fail
      refine (HPU.out _ _ _ HX_1.out HPL_1.out).mono ?_
      rintro e wx2 ⟨Aa, ca, rfl, ha, hb⟩
      have HIL_2 := hide (HIL_1.out.keep hb)
      have HPL_2 := hide (HPL_1.out.keep hb)
      have HX_2 := hide (HX_1.out.keep hb)
      have HB_2 := hide (HB_1.out.trans (hb.mono HB_1.out.size))
      have HA_2 := hide ha
      clear hb HB_1 HIL_1 HPL_1 HX_1 ha
      go_wp2_with fail
      refine (HRP.out _ HIL_2.out HPL_2.out).mono ?_
      rintro e wx3 ⟨Ab, cb, rfl, hbq, hb⟩
      clear HPL_2
      have HIL_3 := hide (HIL_2.out.keep hb)
      have HX_3 := hide (HX_2.out.keep hb)
      have HA_3 := hide (HA_2.out.keep hb)
      have HB_3 := hide (HB_2.out.trans (hb.mono HB_2.out.size))
      have HBQ_3 := hide hbq
      clear hb HB_2 HIL_2 HX_2 HA_2 hbq
      go_wp2_with fail
      refine (HAK.out _ _ _ HX_3.out).mono ?_
      rintro e wx4 ⟨Ac, cc, Ap, cp, rfl, hc, hp, hb⟩
      have HIL_4 := hide (HIL_3.out.keep hb)
      have HX_4 := hide (HX_3.out.keep hb)
      have HA_4 := hide (HA_3.out.keep hb)
      have HBQ_4 := hide (HBQ_3.out.keep hb)
      have HB_4 := hide (HB_3.out.trans (hb.mono HB_3.out.size))
      have HC_4 := hide hc
      have HP_4 := hide hp
      clear hb HB_3 HIL_3 HX_3 HA_3 HBQ_3 hc hp
      go_wp2_with fail
      refine (HRA.out _ HIL_4.out).mono ?_
      rintro e wx5 ⟨Ad, cd, Ao, co, rfl, hd, ho, hb⟩
      have HIL_5 := hide (HIL_4.out.keep hb)
      have HX_5 := hide (HX_4.out.keep hb)
      have HA_5 := hide (HA_4.out.keep hb)
      have HBQ_5 := hide (HBQ_4.out.keep hb)
      have HC_5 := hide (HC_4.out.keep hb)
      have HP_5 := hide (HP_4.out.keep hb)
      have HB_5 := hide (HB_4.out.trans (hb.mono HB_4.out.size))
      have HD_5 := hide hd
      have HO_5 := hide ho
      clear hb HB_4 HIL_4 HX_4 HA_4 HBQ_4 HC_4 HP_4 hd ho
      go_wp2_with fail
      refine (HBA.out _ _ _ HA_5.out).mono ?_
      rintro e wx6 ⟨A8, c8, rfl, h8, hb⟩
      clear HA_5
      have HIL_6 := hide (HIL_5.out.keep hb)
      have HX_6 := hide (HX_5.out.keep hb)
      have HBQ_6 := hide (HBQ_5.out.keep hb)
      have HC_6 := hide (HC_5.out.keep hb)
      have HP_6 := hide (HP_5.out.keep hb)
      have HD_6 := hide (HD_5.out.keep hb)
      have HO_6 := hide (HO_5.out.keep hb)
      have HB_6 := hide (HB_5.out.trans (hb.mono HB_5.out.size))
      have H8_6 := hide h8
      clear hb HB_5 HIL_5 HX_5 HBQ_5 HC_5 HP_5 HD_5 HO_5 h8
      go_wp2_with fail
      refine (HSR.out _ _ _ _ _ H8_6.out HBQ_6.out).mono ?_
      rintro e wx7 ⟨rfl, hb⟩
      clear H8_6
      clear HBQ_6
      have HIL_7 := hide (HIL_6.out.keep hb)
      have HX_7 := hide (HX_6.out.keep hb)
      have HC_7 := hide (HC_6.out.keep hb)
      have HP_7 := hide (HP_6.out.keep hb)
      have HD_7 := hide (HD_6.out.keep hb)
      have HO_7 := hide (HO_6.out.keep hb)
      have HB_7 := hide (HB_6.out.trans (hb.mono HB_6.out.size))
      clear hb HB_6 HIL_6 HX_6 HC_6 HP_6 HD_6 HO_6 
      go_wp2_with fail
      refine (HBC.out _ _ _ HC_7.out).mono ?_
      rintro e wx8 ⟨A9, c9, rfl, h9, hb⟩
      clear HC_7
      have HIL_8 := hide (HIL_7.out.keep hb)
      have HX_8 := hide (HX_7.out.keep hb)
      have HP_8 := hide (HP_7.out.keep hb)
      have HD_8 := hide (HD_7.out.keep hb)
      have HO_8 := hide (HO_7.out.keep hb)
      have HB_8 := hide (HB_7.out.trans (hb.mono HB_7.out.size))
      have H9_8 := hide h9
      clear hb HB_7 HIL_7 HX_7 HP_7 HD_7 HO_7 h9
      go_wp2_with fail
      refine (HSA.out _ _ _ _ _ H9_8.out HD_8.out).mono ?_
      rintro e wx9 ⟨rfl, hb⟩
      clear H9_8
      clear HD_8
      have HIL_9 := hide (HIL_8.out.keep hb)
      have HX_9 := hide (HX_8.out.keep hb)
      have HP_9 := hide (HP_8.out.keep hb)
      have HO_9 := hide (HO_8.out.keep hb)
      have HB_9 := hide (HB_8.out.trans (hb.mono HB_8.out.size))
      clear hb HB_8 HIL_8 HX_8 HP_8 HO_8 
      go_wp2_with fail
      refine (HSP.out _ _ _ _ _ HP_9.out HO_9.out).mono ?_
      rintro e wx10 ⟨rfl, hb⟩
      clear HP_9
      clear HO_9
      have HIL_10 := hide (HIL_9.out.keep hb)
      have HX_10 := hide (HX_9.out.keep hb)
      have HB_10 := hide (HB_9.out.trans (hb.mono HB_9.out.size))
      clear hb HB_9 HIL_9 HX_9 
      go_wp2_with fail
      refine (HBX.out _ _ _ HX_10.out).mono ?_
      rintro e wx11 ⟨A7, c7, rfl, h7, hb⟩
      clear HX_10
      have HIL_11 := hide (HIL_10.out.keep hb)
      have HB_11 := hide (HB_10.out.trans (hb.mono HB_10.out.size))
      have H7_11 := hide h7
      clear hb HB_10 HIL_10 h7
      go_wp2_with fail
      refine (HSX.out _ _ _ _ _ H7_11.out HIL_11.out).mono ?_
      rintro e wx12 ⟨rfl, hb⟩
      clear H7_11
      clear HIL_11
      have HB_12 := hide (HB_11.out.trans (hb.mono HB_11.out.size))
      clear hb HB_11  
      go_wp2_with fail
      refine (HAW.out _).mono ?_
      rintro e wx13 ⟨rfl, hb⟩
      have HB_13 := hide (HB_12.out.trans (hb.mono HB_12.out.size))
      clear hb HB_12  
      go_wp2_with fail
      go_ret
      exact ⟨rfl, HB_13.out⟩
    · have hm' : (20 : Int) < (ps.length : Int) := by omega
      clear hli hl hp hfl
      go_enter Try.func3, Try.ntmps3
      go_wp2_with fail
      refine HLI.out.mono ?_
      rintro e w1 ⟨rfl, rfl⟩
      go_wp2_with fail
      refine (HAW.out _).mono ?_
      rintro e w2 ⟨rfl, hb2⟩
      have HB2 := hide hb2
      clear hb2
      go_wp2
      go_ret
      exact ⟨rfl, HB2.out⟩
end Go.Proofs.Ytjfdlgmdlfbeoaa.unackPushes
