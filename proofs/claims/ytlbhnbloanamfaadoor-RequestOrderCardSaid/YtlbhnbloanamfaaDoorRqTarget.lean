/-
  Layer 17: isTarget.
-/
import Derived.Test.YtlbhnbloanamfaaDoorRqRight
import Derived.BigGuardPart
import Derived.Deep.CutRange
namespace Go.Proofs.YtlbhnbloanamfaaDoor
set_option linter.unusedSimpArgs false
set_option linter.unusedVariables false
open Go.RowKit

theorem pref_star {p : ByteArray} (h : prefB bSlash p = true) : p ≠ bStar := by
  rintro rfl
  revert h
  decide
set_option maxRecDepth 100000 in
set_option maxHeartbeats 3200000 in
theorem rq_isTarget (q : Rq) (h1 : (q.m.size : Int) ≤ 100000) (h2 : (q.p.size : Int) ≤ 100000) (h3 : (q.h.size : Int) ≤ 100000) (w : World) :
    Calls Tryd.prog 28 #[.agg #[.string q.m, .string q.s, .string q.p, .string q.h, .int .i64 q.n, .int .i64 q.r]] w fun e w' => e = .returned (.bool (tgtB q)) ∧ Below w.heap.size w w' := by
  have HM := hide (fun w => rq_isMadeOf q.m _ _ may_method (by omega) w)
  have HP := hide (fun w => rq_HasPrefix bSlash q.p (by omega) (by decide) w)
  have HPV := hide (fun w => rq_isValue q.p (by omega) w)
  have HHV := hide (fun w => rq_isValue q.h (by omega) w)
  have e1 : (q.s.toList == [104, 116, 116, 112]) = decide (q.s = bHttp) := lit_eq _ _
  have e2 : (q.s.toList == [104, 116, 116, 112, 115]) = decide (q.s = bHttps) := lit_eq _ _
  have e3 : (q.p.toList == [42]) = decide (q.p = bStar) := lit_eq _ _
  have e4 : (q.m.toList == [79, 80, 84, 73, 79, 78, 83]) = decide (q.m = bOpt) := lit_eq _ _
  obtain ⟨v, hv⟩ : ∃ v, v = tgtB q := ⟨_, rfl⟩
  rw [← hv]
  obtain ⟨b1, hb1⟩ : ∃ b, b = decide (q.s = bHttp) := ⟨_, rfl⟩
  obtain ⟨b2, hb2⟩ : ∃ b, b = decide (q.s = bHttps) := ⟨_, rfl⟩
  obtain ⟨b3, hb3⟩ : ∃ b, b = decide (q.p = bStar) := ⟨_, rfl⟩
  obtain ⟨b4, hb4⟩ : ∃ b, b = decide (q.m = bOpt) := ⟨_, rfl⟩
  obtain ⟨m, hm⟩ : ∃ m, m = metB q.m := ⟨_, rfl⟩
  obtain ⟨pf, hpf⟩ : ∃ m, m = prefB bSlash q.p := ⟨_, rfl⟩
  obtain ⟨pv, hpv⟩ : ∃ m, m = valB q.p := ⟨_, rfl⟩
  obtain ⟨hh, hhh⟩ : ∃ m, m = valB q.h := ⟨_, rfl⟩
  have HST := hide (show pf = true → b3 = false by
    intro h
    rw [hb3, decide_eq_false (pref_star (by rw [← hpf]; exact h))])
  have HV := hide (show v = (m && ((b1 || b2) && (((pf && pv) || (b3 && b4)) && hh))) by
    rw [hv, hm, hb1, hb2, hpf, hpv, hb3, hb4, hhh]; rfl)
  rw [show madeB methI q.m = m from hm.symm] at HM
  rw [← hpf] at HP
  rw [← hpv] at HPV
  rw [← hhh] at HHV
  rw [← hb1] at e1
  rw [← hb2] at e2
  rw [← hb3] at e3
  rw [← hb4] at e4
  clear hv hb1 hb2 hb3 hb4 hm hpf hpv hhh h1 h2 h3
  have HK := hide (BlkIs.new w 26 #[.string q.m, .string q.s, .string q.p, .string q.h, .int .i64 q.n, .int .i64 q.r])
  have HB := hide (bel1 w (.cells #[.string q.m, .string q.s, .string q.p, .string q.h, .int .i64 q.n, .int .i64 q.r] 26))
  obtain ⟨sv, hsv⟩ : ∃ s, s = (b1 || b2) := ⟨_, rfl⟩
  obtain ⟨tv, htv⟩ : ∃ s, s = ((pf && pv) || (b3 && b4)) := ⟨_, rfl⟩
  rw [← hsv, ← htv] at HV
  have HSV := hide hsv
  have HTV := hide htv
  clear hsv htv
  go_enter Tryd.func28, Tryd.ntmps28
  go_upto_region 1 with (fail)
  obtain ⟨W, hW⟩ : ∃ W, W = w.alloc (.cells #[.string q.m, .string q.s, .string q.p, .string q.h, .int .i64 q.n, .int .i64 q.r] 26) := ⟨_, rfl⟩
  obtain ⟨g, hg⟩ : ∃ g, g = w.heap.size := ⟨_, rfl⟩
  rw [← hW] at HK HB ⊢
  rw [← hg] at HK ⊢
  have HG := hide hg
  clear hW hg
  have k0 := HK.out.cell 0
  have k1 := HK.out.cell 1
  have k2 := HK.out.cell 2
  have k3 := HK.out.cell 3
  simp only [List.getElem?_toArray, List.getElem?_cons_zero, List.getElem?_cons_succ] at k0 k1 k2 k3
  go_cut [3] from 5 to 12 (fun s3 wx => s3 = .bool sv ∧ wx = W)
  case first =>
    clear HM HP HPV HHV HV HST HTV HB HK e3 e4
    cases b1
    · go_wp2_with fail
      go_meet
      exact ⟨by rw [HSV.out]; simp [e2], rfl⟩
    · go_wp2_with fail
      go_meet
      exact ⟨by rw [HSV.out]; rfl, rfl⟩
  case rest =>
    obtain ⟨rfl, hw⟩ := hcut
    obtain rfl := hw.symm
    clear e1 e2 HSV
    go_upto_region 2 with (fail)
    go_cut [4] from 13 to 30 (fun s4 wx => s4 = .bool tv ∧ Hid (Below W.heap.size W wx))
    case first =>
      clear HM HHV HV HB
      have HKK := HK
      cases pf
      · cases b3
        · go_wp2_with (go_at_call 48; refine (HP.out _).mono ?_; rintro e w2 ⟨rfl, rfl⟩)
          go_meet
          exact ⟨by rw [HTV.out]; rfl, Below.refl _ _⟩
        · go_wp2_with (go_at_call 48; refine (HP.out _).mono ?_; rintro e w2 ⟨rfl, rfl⟩)
          go_meet
          exact ⟨by rw [HTV.out]; simp [e4], Below.refl _ _⟩
      · obtain rfl := HST.out rfl
        cases pv
        · go_wp2_with (first
            | (go_at_call 48; refine (HP.out _).mono ?_; rintro e w2 ⟨rfl, rfl⟩)
            | (go_at_call 50; refine (HPV.out _).mono ?_; rintro e w2 ⟨rfl, hb⟩; have HB2 := hide hb; have k2' := (HKK.out.keep hb).cell 2; simp only [List.getElem?_toArray, List.getElem?_cons_zero, List.getElem?_cons_succ] at k2'; clear hb))
          go_meet
          exact ⟨by rw [HTV.out]; rfl, HB2.out⟩
        · go_wp2_with (first
            | (go_at_call 48; refine (HP.out _).mono ?_; rintro e w2 ⟨rfl, rfl⟩)
            | (go_at_call 50; refine (HPV.out _).mono ?_; rintro e w2 ⟨rfl, hb⟩; have HB2 := hide hb; clear hb))
          go_meet
          exact ⟨by rw [HTV.out]; rfl, HB2.out⟩
    case rest =>
      obtain ⟨rfl, hb⟩ := hcut
      have HB2 := hide (HB.out.trans (hb.out.mono HB.out.size))
      have HK2 := hide (HK.out.keep hb.out)
      have k0 := HK2.out.cell 0
      simp only [List.getElem?_toArray, List.getElem?_cons_zero, List.getElem?_cons_succ] at k0
      clear hb k1 k2 k3 e3 e4 HST HTV HP HPV
      go_wp2_with fail
      refine (HM.out _).mono ?_
      rintro e w2 ⟨rfl, hb⟩
      have HB3 := hide (HB2.out.trans (hb.mono HB2.out.size))
      have HK3 := hide (HK2.out.keep hb)
      have k3 := HK3.out.cell 3
      simp only [List.getElem?_toArray, List.getElem?_cons_zero, List.getElem?_cons_succ] at k3
      clear hb
      cases m
      · go_wp2_with fail
        go_ret
        exact ⟨by rw [HV.out]; rfl, HB3.out⟩
      · cases sv
        · go_wp2_with fail
          go_ret
          exact ⟨by rw [HV.out]; rfl, HB3.out⟩
        · cases tv
          · go_wp2_with fail
            go_ret
            exact ⟨by rw [HV.out]; rfl, HB3.out⟩
          · go_wp2_with (go_at_call 50; refine (HHV.out _).mono ?_; rintro e w3 ⟨rfl, hb⟩; have HB4 := hide (HB3.out.trans (hb.mono HB3.out.size)); clear hb)
            go_ret
            exact ⟨by rw [HV.out]; cases hh <;> rfl, HB4.out⟩
end Go.Proofs.YtlbhnbloanamfaaDoor
