/-
  Layer 13: UnackOrder: the walk.
-/
import Derived.Test.YtjfdlgmdlfbeoaaUoSent
import Derived.Test.YtjfdlgmdlfbeoaaUkAwake
import Derived.BigGuardPart
namespace Go.Proofs.Ytjfdlgmdlfbeoaa.unackOrder
set_option linter.unusedSimpArgs false
set_option linter.unusedVariables false
open Go.RowKit

/-- What holds of the queue ahead of round i. -/
structure InvQ (Q : List It) (i : Nat) : Prop where
  ok : chkU Q = 0
  le : ∀ x ∈ Q, x.t ≤ (i : Int)
theorem InvQ.nil_ (i : Nat) : InvQ [] i := ⟨by decide, fun x hx => by cases hx⟩
theorem InvQ.next {Q : List It} {i : Nat} (h : InvQ Q i) : InvQ Q (i + 1) := ⟨h.ok, fun x hx => by have := h.le x hx; omega⟩
theorem InvQ.len4 {Q : List It} {i : Nat} (h : InvQ Q i) : (Q.length : Int) ≤ 4 := by have := (chkU_ok h.ok).1; omega
theorem InvQ.few {Q : List It} {i : Nat} (h : InvQ Q i) : FewP Q := fun x hx => by have := chkU_long h.ok hx; omega
theorem InvQ.last {Q : List It} {i : Nat} (h : InvQ Q i) : lastB Q (i : Int) = false := by
  unfold lastB
  cases hq : Q.getLast? with
  | none => rfl
  | some x =>
    have := h.le x (List.mem_of_getLast? hq)
    simp only [decide_eq_false_iff_not]
    omega
theorem tick_i {i : Nat} (hi : i ≤ 60) : tickB (i : Int) = true := tickB_in (by omega) (by omega)
theorem InvQ.full {Q : List It} {i : Nat} {ps : List Pr} (h : InvQ Q i) (hi : i ≤ 60) (hp : ps.length ≤ 8) (h4 : (Q.length : Int) = 4) : pushU Q ps (i : Int) = (Q, 7) :=
  pushU_7 h.ok (longB_no rfl (by omega)) (tick_i hi) h.last h4
theorem InvQ.push {Q : List It} {i : Nat} {ps : List Pr} (h : InvQ Q i) (hi : i ≤ 60) (hp : ps.length ≤ 8) (h4 : ¬ (Q.length : Int) = 4) : pushU Q ps (i : Int) = (Q ++ [⟨ps, i⟩], 0) ∧ InvQ (Q ++ [⟨ps, i⟩]) (i + 1) := by
  have hl := h.len4
  refine ⟨pushU_0 h.ok (longB_no rfl (by omega)) (tick_i hi) h.last h4, chkU_snoc h.ok (by omega) (show longB ps = false from longB_no rfl (by omega)) (tick_i hi) h.last, fun x hx => ?_⟩
  rcases List.mem_append.1 hx with hx | hx
  · have := h.le x hx; omega
  · rw [List.mem_singleton] at hx; subst hx; simp only; omega
theorem InvQ.tail {x : It} {Q : List It} {i : Nat} (h : InvQ (x :: Q) i) : InvQ Q (i + 1) := ⟨chkU_tail h.ok, fun y hy => by have := h.le y (List.mem_cons_of_mem _ hy); omega⟩
theorem sent_form {w w0 : World} {v : Value} {Q : List It} (h : SentIs w w0 v (Q.map (·.ps))) : ∃ A c, v = .slice A Q.length c := by
  obtain ⟨A, c, e⟩ := h.form
  exact ⟨A, c, by rw [e, List.length_map]⟩

set_option maxRecDepth 100000 in
set_option maxHeartbeats 6400000 in
theorem walk (A : Option Addr) (n c : Nat) (L : List (List Pr)) (w : World) (hl : LL w A n c L) :
    Calls Try.prog 5 #[.slice A n c] w fun e w' => e = .returned (.bool true) ∧ Below w.heap.size w w' := by
  have HAW := hide (fun w => aw_unack w)
  have HBR := hide (Below.refl w.heap.size w)
  by_cases hn : (n : Int) ≤ 60
  · have hn' : ¬ (60 : Int) < (n : Int) := by omega
    have HLL := hide hl
    clear hl
    go_enter Try.func5, Try.ntmps5
    go_wp2_with fail
    go_loopw [3, 4, 5] (fun s3 s4 s5 wr => ∃ (i : Nat) (Q : List It) (A3 : Option Addr) (c3 : Nat), i ≤ n ∧ s5 = .int .i64 (i : Int) ∧ s3 = .slice A3 Q.length c3 ∧ IL wr A3 Q.length c3 Q ∧ SentIs wr w s4 (Q.map (·.ps)) ∧ InvQ Q i ∧ Below w.heap.size w wr) (fun _ _ k _ => n - (intOf k).toNat)
    case atStart => exact ⟨0, [], none, 0, by omega, rfl, rfl, IL.none_ _, SentIs.nil_ _ _, .nil_ 0, Below.refl _ _⟩
    case round =>
      obtain ⟨i, Q, A3, c3, hi, rfl, rfl, hq, hs, hinv, hb⟩ := hrel
      have HQ := hide hq
      have HS := hide hs
      have HV := hide hinv
      have HB := hide hb
      by_cases hlt : i < n
      · have hlt' : (i : Int) < (n : Int) := by omega
        have hi60 : i ≤ 60 := by omega
        obtain ⟨ps, A', c', b, off, hL, rfl, hbl0, e0, hp0⟩ := HLL.out.round hlt
        have HP0 := hide hp0
        have HP := hide (hp0.keep hb)
        have c0 := (hb.cell (p := ⟨b, off + i, none⟩) hbl0).trans e0
        have hbl : b < wr.heap.size := by have := hb.size; omega
        clear hL e0 hp0 hq hs hinv hb
        by_cases h8 : ps.length ≤ 8
        · have h8' : ¬ (8 : Int) < (ps.length : Int) := by omega
          by_cases h0 : 0 < ps.length
          · have h0' : (0 : Int) < (ps.length : Int) := by omega
            obtain ⟨A4, c4, e4⟩ := sent_form HS.out
            subst e4
            have HPU := hide (uk_Push A3 Q.length c3 Q A' ps.length c' ps (i : Int) wr HQ.out HP.out (by have := HV.out.len4; omega) (by omega) HV.out.few)
            unfold GivesPush at HPU
            by_cases h4 : (Q.length : Int) = 4
            · have h4' : ¬ (Q.length : Int) < 4 := by omega
              rw [HV.out.full hi60 h8 h4] at HPU
              clear h4 h8 h0
              go_wp2_with fail
              refine HPU.out.mono ?_
              rintro e w2 ⟨A1, c1, rfl, hq1, hb1⟩
              have HQ1 := hide hq1
              have HS1 := hide (HS.out.keep hb1)
              have HB1 := hide (HB.out.trans (hb1.mono HB.out.size))
              clear hq1 hb1 HPU HQ HS HB c0
              have HCK := hide (fun w2 (h : IL w2 A1 Q.length c1 Q) => uk_Check A1 Q.length c1 Q w2 h (by have := HV.out.len4; omega))
              rw [HV.out.ok] at HCK
              have hnn : ((Q.length : Int) != (Q.length : Int)) = false := by simp
              go_wp2_with fail
              refine (HCK.out _ HQ1.out).mono ?_
              rintro e wy ⟨rfl, hby⟩
              have HIy := hide (HQ1.out.keep hby)
              have HSy := hide (HS1.out.keep hby)
              have HBy := hide (HB1.out.trans (hby.mono HB1.out.size))
              clear hby HCK
              go_wp2_with fail
              go_roundw
              case rel => exact ⟨i + 1, Q, A1, c1, by omega, by go_num, rfl, HIy.out, HSy.out, HV.out.next, HBy.out⟩
              case measure => simp [intOf]; omega
            · have h4' : (Q.length : Int) < 4 := by have := HV.out.len4; omega
              obtain ⟨hpe, hv2⟩ := HV.out.push (ps := ps) hi60 h8 h4
              rw [hpe] at HPU
              obtain ⟨Q2, hQ2⟩ : ∃ Q2, Q2 = Q ++ [(⟨ps, (i : Int)⟩ : It)] := ⟨_, rfl⟩
              rw [← hQ2] at HPU hv2
              have HV2 := hide hv2
              have HE2 := hide (show Q.map (·.ps) ++ [ps] = Q2.map (·.ps) by rw [hQ2]; simp)
              have HL3 := hide (show (Q.map (·.ps)).length + 1 ≤ 1000 by rw [List.length_map]; omega)
              clear h4 h8 h0 hpe hv2 hQ2
              go_wp2_with fail
              refine HPU.out.mono ?_
              rintro e w2 ⟨A1, c1, rfl, hq1, hb1⟩
              have c1' := (hb1.cell (p := ⟨b, off + i, none⟩) hbl).trans c0
              have hbl2 : b < w2.heap.size := by have := hb1.size; omega
              have HQ1 := hide (hq1.alloc (.cells #[.slice A' ps.length c'] 23))
              have HS1 := hide ((HS.out.keep hb1).keep (bel1 w2 (.cells #[.slice A' ps.length c'] 23)))
              have HB1 := hide (HB.out.trans (hb1.mono HB.out.size))
              have HB2 := hide (HB1.out.alloc HB1.out.size (.cells #[.slice A' ps.length c'] 23))
              have HBK := hide (BlkIs.new w2 23 #[.slice A' ps.length c'])
              clear hq1 hb1 HPU HQ HS HB HB1 c0 hbl
              go_wp2_with (at_builtin; refine wpList_append_sent _ w rfl (.tmp 60) (.tmp 65) rfl (.slice A4 Q.length c4) _ rfl HS1.out w2.heap.size ⟨A', c', ps⟩ rfl HBK.out HP0.out HL3.out HB2.out.size ?_; intro v9 w9 hs9 hb9 hq9; have HSr := hide (show SentIs w9 w v9 (Q.map (·.ps) ++ [ps]) from hs9); have HQr := hide (hq9 _ _ _ _ HQ1.out); have HBr := hide (HB2.out.trans hb9); clear hs9 hb9 hq9; rw [HE2.out] at HSr; obtain ⟨A9, c9, e9⟩ := sent_form HSr.out; subst e9)
              have HCK := hide (fun w2 (h : IL w2 A1 Q2.length c1 Q2) => uk_Check A1 Q2.length c1 Q2 w2 h (by have := HV2.out.len4; omega))
              rw [HV2.out.ok] at HCK
              have hnn : ((Q2.length : Int) != (Q2.length : Int)) = false := by simp
              go_wp2_with fail
              refine (HCK.out _ HQr.out).mono ?_
              rintro e wy ⟨rfl, hby⟩
              have HIy := hide (HQr.out.keep hby)
              have HSy := hide (HSr.out.keep hby)
              have HBy := hide (HBr.out.trans (hby.mono HBr.out.size))
              clear hby HCK
              go_wp2_with fail
              go_roundw
              case rel => exact ⟨i + 1, Q2, A1, c1, by omega, by go_num, rfl, HIy.out, HSy.out, HV2.out, HBy.out⟩
              case measure => simp [intOf]; omega
          · have h0' : ¬ (0 : Int) < (ps.length : Int) := by omega
            have HAK := hide (uk_Ack A3 Q.length c3 Q wr HQ.out (by have := HV.out.len4; omega) HV.out.few)
            unfold GivesAck at HAK
            cases Q with
            | nil =>
              obtain ⟨A4, c4, e4⟩ := sent_form HS.out
              subst e4
              go_wp2_with fail
              refine HAK.out.mono ?_
              rintro e w2 ⟨A1, c1, A2, c2, rfl, hq1, hp1, hb1⟩
              simp only [ackL, List.drop_nil] at hq1
              have HQ1 := hide hq1
              have HS1 := hide (HS.out.keep hb1)
              have HB1 := hide (HB.out.trans (hb1.mono HB.out.size))
              clear hq1 hb1 HAK HQ HS HB c0 hp1
              have HCK := hide (fun w2 (h : IL w2 A1 ([] : List It).length c1 ([] : List It)) => uk_Check A1 ([] : List It).length c1 ([] : List It) w2 h (by have := HV.out.len4; omega))
              rw [HV.out.ok] at HCK
              have hnn : ((([] : List It).length : Int) != (([] : List It).length : Int)) = false := by simp
              go_wp2_with fail
              refine (HCK.out _ HQ1.out).mono ?_
              rintro e wy ⟨rfl, hby⟩
              have HIy := hide (HQ1.out.keep hby)
              have HSy := hide (HS1.out.keep hby)
              have HBy := hide (HB1.out.trans (hby.mono HB1.out.size))
              clear hby HCK
              go_wp2_with fail
              go_roundw
              case rel => exact ⟨i + 1, ([] : List It), A1, c1, by omega, by go_num, rfl, HIy.out, HSy.out, HV.out.next, HBy.out⟩
              case measure => simp [intOf]; omega
            | cons x Q =>
              obtain ⟨N, hN⟩ : ∃ N, N = (x :: Q).length := ⟨_, rfl⟩
              rw [← hN] at HAK ⊢
              have hN0 : (0 : Int) < (N : Int) := by rw [hN]; simp only [List.length_cons]; omega
              have hN1 : 0 < N := by omega
              obtain ⟨g, o4, cap, A5, c5, e4, hg, cs, hp5⟩ := (show SentIs wr w u4 (x.ps :: Q.map (·.ps)) from HS.out).first
              have e5 : (Q.map (·.ps)).length + 1 = N := by rw [hN]; simp
              rw [e5] at e4
              subst e4
              obtain ⟨v2, hsl, hs2⟩ := (show SentIs wr w (.slice (some ⟨g, o4, none⟩) N cap) (x.ps :: Q.map (·.ps)) from HS.out).rest
              obtain ⟨A6, c6, e6⟩ := sent_form hs2
              subst e6
              have HSL := hide hsl
              have HV2 := hide HV.out.tail
              have hxf := HV.out.few x List.mem_cons_self
              have HSP := hide (fun (w' : World) (B : Option Addr) (d : Nat) (h : PL w' B x.ps.length d x.ps) (h' : PL w' A5 x.ps.length c5 x.ps) => rf_SamePairs B A5 x.ps.length x.ps.length d c5 x.ps x.ps w' h h' (by omega) (by omega))
              rw [sameP_yes rfl] at HSP
              clear hN hsl
              go_wp2_with fail
              refine HAK.out.mono ?_
              rintro e w2 ⟨A1, c1, A2, c2, rfl, hq1, hp1, hb1⟩
              have HQ1 := hide (show IL w2 A1 Q.length c1 Q from hq1)
              have HP2 := hide (show PL w2 A2 x.ps.length c2 x.ps from hp1)
              have HB1 := hide (HB.out.trans (hb1.mono HB.out.size))
              have HP5 := hide (hp5.keep HB1.out)
              have HS1 := hide (hs2.keep hb1)
              have cs2 := (hb1.cell (p := ⟨g, o4, none⟩) hg).trans cs
              have hg2 : g < w2.heap.size := by have := hb1.size; omega
              clear hq1 hp1 hb1 HAK HQ HS HB c0 cs hs2 hp5
              go_wp2_with fail
              refine (HSP.out _ _ _ HP2.out HP5.out).mono ?_
              rintro e w3 ⟨rfl, hb3⟩
              have HQ3 := hide (HQ1.out.keep hb3)
              have HS3 := hide (HS1.out.keep hb3)
              have HB3 := hide (HB1.out.trans (hb3.mono HB1.out.size))
              clear hb3 HQ1 HS1 HB1 HP2 HP5 HSP cs2
              have kk := HSL.out w3
              have HCK := hide (fun w2 (h : IL w2 A1 Q.length c1 Q) => uk_Check A1 Q.length c1 Q w2 h (by have := HV2.out.len4; omega))
              rw [HV2.out.ok] at HCK
              have hnn : ((Q.length : Int) != (Q.length : Int)) = false := by simp
              go_wp2_with fail
              refine (HCK.out _ HQ3.out).mono ?_
              rintro e wy ⟨rfl, hby⟩
              have HIy := hide (HQ3.out.keep hby)
              have HSy := hide (HS3.out.keep hby)
              have HBy := hide (HB3.out.trans (hby.mono HB3.out.size))
              clear hby HCK
              go_wp2_with fail
              go_roundw
              case rel => exact ⟨i + 1, Q, A1, c1, by omega, by go_num, rfl, HIy.out, HSy.out, HV2.out, HBy.out⟩
              case measure => simp [intOf]; omega
        · have h8' : (8 : Int) < (ps.length : Int) := by omega
          go_wp2_with fail
          refine (HAW.out _).mono ?_
          rintro e wz ⟨rfl, hbz⟩
          have HBZ := hide (HB.out.trans (hbz.mono HB.out.size))
          clear hbz
          go_wp2
          go_ret
          exact ⟨rfl, HBZ.out⟩
      · have hge : ¬ (i : Int) < (n : Int) := by omega
        go_wp2_with fail
        refine (HAW.out _).mono ?_
        rintro e wz ⟨rfl, hbz⟩
        have HBZ := hide (HB.out.trans (hbz.mono HB.out.size))
        clear hbz
        go_wp2
        go_ret
        exact ⟨rfl, HBZ.out⟩
  · have hn' : (60 : Int) < (n : Int) := by omega
    clear hl hn
    go_enter Try.func5, Try.ntmps5
    go_wp2_with fail
    refine (HAW.out _).mono ?_
    rintro e wz ⟨rfl, hbz⟩
    have HBZ := hide (HBR.out.trans (hbz.mono HBR.out.size))
    clear hbz
    go_wp2
    go_ret
    exact ⟨rfl, HBZ.out⟩
end Go.Proofs.Ytjfdlgmdlfbeoaa.unackOrder
