/-
  Layer 25: Near: the document's.
-/
import Derived.Test.YtlondjmklnehhaaTgSmall
import Derived.Test.YtlondjmklnehhaaRegW
import Derived.Deep.Cut
namespace Go.Proofs.Ytlondjmklnehhaa
set_option linter.unusedSimpArgs false
set_option linter.unusedVariables false
open Go.RowKit

set_option maxRecDepth 100000 in
set_option maxHeartbeats 3200000 in
theorem rt_Near (a b : Tg) (f g q : Int) (w : World) : Calls Try.prog 27 #[.agg a.cs, .agg b.cs, .agg #[.int .i64 f, .int .i64 g], .int .i64 q] w fun e w' => e = .returned (.bool (nearB a b f g q)) ∧ Below w.heap.size w w' := by
  obtain ⟨z, hz⟩ : ∃ z, z = w.heap.size := ⟨_, rfl⟩
  have HL := hide hz.symm
  obtain ⟨W, hW⟩ : ∃ W, ((w.alloc (.cells a.cs 23)).alloc (.cells b.cs 23)).alloc (.cells #[.int .i64 f, .int .i64 g] 59) = W := ⟨_, rfl⟩
  have HB := hide (show Below w.heap.size w W by rw [← hW]; exact bel3 w _ _ _)
  have HX := hide (show BlkIs W z 23 a.cs by rw [← hW, hz]; exact ((BlkIs.new w _ _).alloc _).alloc _)
  have HY := hide (show BlkIs W (z + 1) 23 b.cs by rw [← hW, hz]; exact (new2 w _ _ _).alloc _)
  have HR := hide (show BlkIs W (z + 1 + 1) 59 #[.int .i64 f, .int .i64 g] by rw [← hW, hz]; exact new3 w _ _ _ _)
  have HW := hide hW
  clear hz hW
  have HA := hide (fun w => rt_Check a w)
  have HD := hide (fun w => rt_Check b w)
  by_cases ha : a.Ok
  · rw [chkT_yes ha] at HA
    by_cases hb : b.Ok
    · rw [chkT_yes hb] at HD
      have af : WkI a.k := ha.2.2.2
      have bf : WkI b.k := hb.2.2.2
      by_cases hf : 0 ≤ f ∧ f ≤ a.k
      · have kf : inT 0 a.k f = true := inT_yes.2 hf
        by_cases hg : 0 ≤ g ∧ g ≤ b.k
        · have kg : inT 0 b.k g = true := inT_yes.2 hg
          by_cases hq : WkI q
          · have kq : inT 0 1099511627776 q = true := inT_yes.2 hq
            have ha : a.Ok ∧ WkI f ∧ f ≤ a.k := ⟨ha, ⟨hf.1, Int.le_trans hf.2 af.2⟩, hf.2⟩
            have hb : b.Ok ∧ WkI g ∧ g ≤ b.k := ⟨hb, ⟨hg.1, Int.le_trans hg.2 bf.2⟩, hg.2⟩
            have HA0 := hide ha
            have HB0 := hide hb
            have HQ0 := hide hq
            clear hf hg af bf
            obtain ⟨⟨⟨p1, p2⟩, ⟨p3, p4⟩, ⟨p5, p6⟩, ⟨p7, p8⟩⟩, ⟨p9, p10⟩, p11⟩ := ha
            obtain ⟨⟨⟨q1, q2⟩, ⟨q3, q4⟩, ⟨q5, q6⟩, ⟨q7, q8⟩⟩, ⟨q9, q10⟩, q11⟩ := hb
            obtain ⟨c1, c2⟩ := hq
            obtain ⟨x0, x1⟩ := prod_in (x := a.k - f) (w := b.w) (by omega) (by omega) (by omega) (by omega)
            obtain ⟨y0, y1⟩ := prod_in (x := b.k - g) (w := a.w) (by omega) (by omega) (by omega) (by omega)
            obtain ⟨m0, m1⟩ := prod_in (x := q) (w := a.w + b.w) (by omega) (by omega) (by omega) (by omega)
            obtain ⟨P, hP⟩ : ∃ P, (a.k - f) * b.w = P := ⟨_, rfl⟩
            obtain ⟨Q, hQ⟩ : ∃ Q, (b.k - g) * a.w = Q := ⟨_, rfl⟩
            obtain ⟨M, hM⟩ : ∃ M, q * (a.w + b.w) = M := ⟨_, rfl⟩
            rw [hP] at x0 x1
            rw [hQ] at y0 y1
            rw [hM] at m0 m1
            have e1 : IntKind.i64.wrap (a.k - f) = a.k - f := IntWalk.i64_in _ (by omega)
            have e2 : IntKind.i64.wrap (b.k - g) = b.k - g := IntWalk.i64_in _ (by omega)
            have e3 : IntKind.i64.wrap (a.w + b.w) = a.w + b.w := IntWalk.i64_in _ (by omega)
            have e4 : IntKind.i64.wrap P = P := IntWalk.i64_in _ (by omega)
            have e5 : IntKind.i64.wrap Q = Q := IntWalk.i64_in _ (by omega)
            have e6 : IntKind.i64.wrap M = M := IntWalk.i64_in _ (by omega)
            have e7 : IntKind.i64.wrap (P - Q) = P - Q := IntWalk.i64_in _ (by omega)
            have e8 : IntKind.i64.wrap (Q - P) = Q - P := IntWalk.i64_in _ (by omega)
            have hap : apartT a b f g = P - Q := by rw [apartT, hP, hQ]
            by_cases h3 : P - Q ≤ M
            · by_cases h4 : Q - P ≤ M
              · rw [nearB_yes (a := a) (b := b) (f := f) (g := g) (q := q) ⟨HA0.out, HB0.out, HQ0.out, by rw [hap, hM]; omega, by rw [hap, hM]; omega⟩]
                have s1 : decide (P - Q ≤ M) = true := decide_eq_true h3
                have s2 : decide (Q - P ≤ M) = true := decide_eq_true h4
                clear h3 h4 HA0 HB0 HQ0
                clear p1 p2 p3 p4 p5 p6 p7 p8 p9 p10 p11 q1 q2 q3 q4 q5 q6 q7 q8 q9 q10 q11 c1 c2 x0 x1 y0 y1 m0 m1 hap
                obtain ⟨a1, a2, a3, a4⟩ := a
                obtain ⟨b1, b2, b3, b4⟩ := b
                simp only [Tg.cs] at *
                go_enter Try.func27, Try.ntmps27
                go_upto_region 1 with (fail)
                rw [HL.out, HW.out]
                clear HW
                obtain ⟨d0, d1, d2, d3⟩ := tcell4 (x := ⟨a1, a2, a3, a4⟩) HX.out
                obtain ⟨u0, u1, u2, u3⟩ := tcell4 (x := ⟨b1, b2, b3, b4⟩) HY.out
                have r0 := (HR.out.cell 0).trans (show _ = some (Value.int .i64 f) from rfl)
                have r1 := (HR.out.cell 1).trans (show _ = some (Value.int .i64 g) from rfl)
                try simp only at d0 d1 d2 d3 u0 u1 u2 u3
                go_wp2_with fail
                refine (HA.out _).mono ?_
                rintro e w1 ⟨rfl, hb⟩
                clear HA
                clear d0 d1 d2 d3 u0 u1 u2 u3 r0 r1
                have HX2 := hide (HX.out.keep hb)
                have HY2 := hide (HY.out.keep hb)
                have HR2 := hide (HR.out.keep hb)
                have HB2 := hide (HB.out.trans (hb.mono HB.out.size))
                clear hb HX HY HR HB
                have HX := hide HX2.out
                have HY := hide HY2.out
                have HR := hide HR2.out
                have HB := hide HB2.out
                clear HX2 HY2 HR2 HB2
                obtain ⟨d0, d1, d2, d3⟩ := tcell4 (x := ⟨a1, a2, a3, a4⟩) HX.out
                obtain ⟨u0, u1, u2, u3⟩ := tcell4 (x := ⟨b1, b2, b3, b4⟩) HY.out
                have r0 := (HR.out.cell 0).trans (show _ = some (Value.int .i64 f) from rfl)
                have r1 := (HR.out.cell 1).trans (show _ = some (Value.int .i64 g) from rfl)
                try simp only at d0 d1 d2 d3 u0 u1 u2 u3
                go_wp2_with fail
                refine (HD.out _).mono ?_
                rintro e w2 ⟨rfl, hb⟩
                clear HD
                clear d0 d1 d2 d3 u0 u1 u2 u3 r0 r1
                have HX2 := hide (HX.out.keep hb)
                have HY2 := hide (HY.out.keep hb)
                have HR2 := hide (HR.out.keep hb)
                have HB2 := hide (HB.out.trans (hb.mono HB.out.size))
                clear hb HX HY HR HB
                have HX := hide HX2.out
                have HY := hide HY2.out
                have HR := hide HR2.out
                have HB := hide HB2.out
                clear HX2 HY2 HR2 HB2
                obtain ⟨d0, d1, d2, d3⟩ := tcell4 (x := ⟨a1, a2, a3, a4⟩) HX.out
                obtain ⟨u0, u1, u2, u3⟩ := tcell4 (x := ⟨b1, b2, b3, b4⟩) HY.out
                have r0 := (HR.out.cell 0).trans (show _ = some (Value.int .i64 f) from rfl)
                have r1 := (HR.out.cell 1).trans (show _ = some (Value.int .i64 g) from rfl)
                try simp only at d0 d1 d2 d3 u0 u1 u2 u3
                go_upto_region 3 with (first | (go_at_call 31; refine (rt_in _ _ _).mono ?_; rintro e w6 ⟨rfl, rfl⟩))
                go_region
                have HB2 := hide HB.out.drew
                clear HX HY HR HB
                have HB := hide HB2.out
                clear HB2
                go_wp2_with fail
                go_ret
                exact ⟨rfl, HB.out⟩
              · rw [nearB_no (a := a) (b := b) (f := f) (g := g) (q := q) (fun h => by have z1 := h.2.2.2.1; have z2 := h.2.2.2.2; rw [hap, hM] at z1 z2; omega)]
                have s1 : decide (P - Q ≤ M) = true := decide_eq_true h3
                have s2 : decide (Q - P ≤ M) = false := decide_eq_false h4
                clear h3 h4 HA0 HB0 HQ0
                clear p1 p2 p3 p4 p5 p6 p7 p8 p9 p10 p11 q1 q2 q3 q4 q5 q6 q7 q8 q9 q10 q11 c1 c2 x0 x1 y0 y1 m0 m1 hap
                obtain ⟨a1, a2, a3, a4⟩ := a
                obtain ⟨b1, b2, b3, b4⟩ := b
                simp only [Tg.cs] at *
                go_enter Try.func27, Try.ntmps27
                go_upto_region 1 with (fail)
                rw [HL.out, HW.out]
                clear HW
                obtain ⟨d0, d1, d2, d3⟩ := tcell4 (x := ⟨a1, a2, a3, a4⟩) HX.out
                obtain ⟨u0, u1, u2, u3⟩ := tcell4 (x := ⟨b1, b2, b3, b4⟩) HY.out
                have r0 := (HR.out.cell 0).trans (show _ = some (Value.int .i64 f) from rfl)
                have r1 := (HR.out.cell 1).trans (show _ = some (Value.int .i64 g) from rfl)
                try simp only at d0 d1 d2 d3 u0 u1 u2 u3
                go_wp2_with fail
                refine (HA.out _).mono ?_
                rintro e w1 ⟨rfl, hb⟩
                clear HA
                clear d0 d1 d2 d3 u0 u1 u2 u3 r0 r1
                have HX2 := hide (HX.out.keep hb)
                have HY2 := hide (HY.out.keep hb)
                have HR2 := hide (HR.out.keep hb)
                have HB2 := hide (HB.out.trans (hb.mono HB.out.size))
                clear hb HX HY HR HB
                have HX := hide HX2.out
                have HY := hide HY2.out
                have HR := hide HR2.out
                have HB := hide HB2.out
                clear HX2 HY2 HR2 HB2
                obtain ⟨d0, d1, d2, d3⟩ := tcell4 (x := ⟨a1, a2, a3, a4⟩) HX.out
                obtain ⟨u0, u1, u2, u3⟩ := tcell4 (x := ⟨b1, b2, b3, b4⟩) HY.out
                have r0 := (HR.out.cell 0).trans (show _ = some (Value.int .i64 f) from rfl)
                have r1 := (HR.out.cell 1).trans (show _ = some (Value.int .i64 g) from rfl)
                try simp only at d0 d1 d2 d3 u0 u1 u2 u3
                go_wp2_with fail
                refine (HD.out _).mono ?_
                rintro e w2 ⟨rfl, hb⟩
                clear HD
                clear d0 d1 d2 d3 u0 u1 u2 u3 r0 r1
                have HX2 := hide (HX.out.keep hb)
                have HY2 := hide (HY.out.keep hb)
                have HR2 := hide (HR.out.keep hb)
                have HB2 := hide (HB.out.trans (hb.mono HB.out.size))
                clear hb HX HY HR HB
                have HX := hide HX2.out
                have HY := hide HY2.out
                have HR := hide HR2.out
                have HB := hide HB2.out
                clear HX2 HY2 HR2 HB2
                obtain ⟨d0, d1, d2, d3⟩ := tcell4 (x := ⟨a1, a2, a3, a4⟩) HX.out
                obtain ⟨u0, u1, u2, u3⟩ := tcell4 (x := ⟨b1, b2, b3, b4⟩) HY.out
                have r0 := (HR.out.cell 0).trans (show _ = some (Value.int .i64 f) from rfl)
                have r1 := (HR.out.cell 1).trans (show _ = some (Value.int .i64 g) from rfl)
                try simp only at d0 d1 d2 d3 u0 u1 u2 u3
                go_upto_region 3 with (first | (go_at_call 31; refine (rt_in _ _ _).mono ?_; rintro e w6 ⟨rfl, rfl⟩))
                go_region
                have HB2 := hide HB.out.drew
                clear HX HY HR HB
                have HB := hide HB2.out
                clear HB2
                go_wp2_with fail
                go_ret
                exact ⟨rfl, HB.out⟩
            · rw [nearB_no (a := a) (b := b) (f := f) (g := g) (q := q) (fun h => by have z1 := h.2.2.2.1; have z2 := h.2.2.2.2; rw [hap, hM] at z1 z2; omega)]
              have s1 : decide (P - Q ≤ M) = false := decide_eq_false h3
              clear h3 HA0 HB0 HQ0
              clear p1 p2 p3 p4 p5 p6 p7 p8 p9 p10 p11 q1 q2 q3 q4 q5 q6 q7 q8 q9 q10 q11 c1 c2 x0 x1 y0 y1 m0 m1 hap
              obtain ⟨a1, a2, a3, a4⟩ := a
              obtain ⟨b1, b2, b3, b4⟩ := b
              simp only [Tg.cs] at *
              go_enter Try.func27, Try.ntmps27
              go_upto_region 1 with (fail)
              rw [HL.out, HW.out]
              clear HW
              obtain ⟨d0, d1, d2, d3⟩ := tcell4 (x := ⟨a1, a2, a3, a4⟩) HX.out
              obtain ⟨u0, u1, u2, u3⟩ := tcell4 (x := ⟨b1, b2, b3, b4⟩) HY.out
              have r0 := (HR.out.cell 0).trans (show _ = some (Value.int .i64 f) from rfl)
              have r1 := (HR.out.cell 1).trans (show _ = some (Value.int .i64 g) from rfl)
              try simp only at d0 d1 d2 d3 u0 u1 u2 u3
              go_wp2_with fail
              refine (HA.out _).mono ?_
              rintro e w1 ⟨rfl, hb⟩
              clear HA
              clear d0 d1 d2 d3 u0 u1 u2 u3 r0 r1
              have HX2 := hide (HX.out.keep hb)
              have HY2 := hide (HY.out.keep hb)
              have HR2 := hide (HR.out.keep hb)
              have HB2 := hide (HB.out.trans (hb.mono HB.out.size))
              clear hb HX HY HR HB
              have HX := hide HX2.out
              have HY := hide HY2.out
              have HR := hide HR2.out
              have HB := hide HB2.out
              clear HX2 HY2 HR2 HB2
              obtain ⟨d0, d1, d2, d3⟩ := tcell4 (x := ⟨a1, a2, a3, a4⟩) HX.out
              obtain ⟨u0, u1, u2, u3⟩ := tcell4 (x := ⟨b1, b2, b3, b4⟩) HY.out
              have r0 := (HR.out.cell 0).trans (show _ = some (Value.int .i64 f) from rfl)
              have r1 := (HR.out.cell 1).trans (show _ = some (Value.int .i64 g) from rfl)
              try simp only at d0 d1 d2 d3 u0 u1 u2 u3
              go_wp2_with fail
              refine (HD.out _).mono ?_
              rintro e w2 ⟨rfl, hb⟩
              clear HD
              clear d0 d1 d2 d3 u0 u1 u2 u3 r0 r1
              have HX2 := hide (HX.out.keep hb)
              have HY2 := hide (HY.out.keep hb)
              have HR2 := hide (HR.out.keep hb)
              have HB2 := hide (HB.out.trans (hb.mono HB.out.size))
              clear hb HX HY HR HB
              have HX := hide HX2.out
              have HY := hide HY2.out
              have HR := hide HR2.out
              have HB := hide HB2.out
              clear HX2 HY2 HR2 HB2
              obtain ⟨d0, d1, d2, d3⟩ := tcell4 (x := ⟨a1, a2, a3, a4⟩) HX.out
              obtain ⟨u0, u1, u2, u3⟩ := tcell4 (x := ⟨b1, b2, b3, b4⟩) HY.out
              have r0 := (HR.out.cell 0).trans (show _ = some (Value.int .i64 f) from rfl)
              have r1 := (HR.out.cell 1).trans (show _ = some (Value.int .i64 g) from rfl)
              try simp only at d0 d1 d2 d3 u0 u1 u2 u3
              go_upto_region 3 with (first | (go_at_call 31; refine (rt_in _ _ _).mono ?_; rintro e w6 ⟨rfl, rfl⟩))
              go_region
              have HB2 := hide HB.out.drew
              clear HX HY HR HB
              have HB := hide HB2.out
              clear HB2
              go_wp2_with fail
              go_ret
              exact ⟨rfl, HB.out⟩
          · rw [nearB_no (fun h => hq h.2.2.1)]
            have kq : inT 0 1099511627776 q = false := inT_no.2 hq
            clear ha hb hf hg hq af bf
            obtain ⟨a1, a2, a3, a4⟩ := a
            obtain ⟨b1, b2, b3, b4⟩ := b
            simp only [Tg.cs] at *
            go_enter Try.func27, Try.ntmps27
            go_upto_region 1 with (fail)
            rw [HL.out, HW.out]
            clear HW
            obtain ⟨d0, d1, d2, d3⟩ := tcell4 (x := ⟨a1, a2, a3, a4⟩) HX.out
            obtain ⟨u0, u1, u2, u3⟩ := tcell4 (x := ⟨b1, b2, b3, b4⟩) HY.out
            have r0 := (HR.out.cell 0).trans (show _ = some (Value.int .i64 f) from rfl)
            have r1 := (HR.out.cell 1).trans (show _ = some (Value.int .i64 g) from rfl)
            try simp only at d0 d1 d2 d3 u0 u1 u2 u3
            go_wp2_with fail
            refine (HA.out _).mono ?_
            rintro e w1 ⟨rfl, hb⟩
            clear HA
            clear d0 d1 d2 d3 u0 u1 u2 u3 r0 r1
            have HX2 := hide (HX.out.keep hb)
            have HY2 := hide (HY.out.keep hb)
            have HR2 := hide (HR.out.keep hb)
            have HB2 := hide (HB.out.trans (hb.mono HB.out.size))
            clear hb HX HY HR HB
            have HX := hide HX2.out
            have HY := hide HY2.out
            have HR := hide HR2.out
            have HB := hide HB2.out
            clear HX2 HY2 HR2 HB2
            obtain ⟨d0, d1, d2, d3⟩ := tcell4 (x := ⟨a1, a2, a3, a4⟩) HX.out
            obtain ⟨u0, u1, u2, u3⟩ := tcell4 (x := ⟨b1, b2, b3, b4⟩) HY.out
            have r0 := (HR.out.cell 0).trans (show _ = some (Value.int .i64 f) from rfl)
            have r1 := (HR.out.cell 1).trans (show _ = some (Value.int .i64 g) from rfl)
            try simp only at d0 d1 d2 d3 u0 u1 u2 u3
            go_wp2_with fail
            refine (HD.out _).mono ?_
            rintro e w2 ⟨rfl, hb⟩
            clear HD
            clear d0 d1 d2 d3 u0 u1 u2 u3 r0 r1
            have HX2 := hide (HX.out.keep hb)
            have HY2 := hide (HY.out.keep hb)
            have HR2 := hide (HR.out.keep hb)
            have HB2 := hide (HB.out.trans (hb.mono HB.out.size))
            clear hb HX HY HR HB
            have HX := hide HX2.out
            have HY := hide HY2.out
            have HR := hide HR2.out
            have HB := hide HB2.out
            clear HX2 HY2 HR2 HB2
            obtain ⟨d0, d1, d2, d3⟩ := tcell4 (x := ⟨a1, a2, a3, a4⟩) HX.out
            obtain ⟨u0, u1, u2, u3⟩ := tcell4 (x := ⟨b1, b2, b3, b4⟩) HY.out
            have r0 := (HR.out.cell 0).trans (show _ = some (Value.int .i64 f) from rfl)
            have r1 := (HR.out.cell 1).trans (show _ = some (Value.int .i64 g) from rfl)
            try simp only at d0 d1 d2 d3 u0 u1 u2 u3
            go_wp2_with (first | (go_at_call 31; refine (rt_in _ _ _).mono ?_; rintro e w6 ⟨rfl, rfl⟩))
            go_ret
            exact ⟨rfl, HB.out⟩
        · rw [nearB_no (fun h => hg ⟨h.2.1.2.1.1, h.2.1.2.2⟩)]
          have kg : inT 0 b.k g = false := inT_no.2 hg
          clear ha hb hf hg af bf
          obtain ⟨a1, a2, a3, a4⟩ := a
          obtain ⟨b1, b2, b3, b4⟩ := b
          simp only [Tg.cs] at *
          go_enter Try.func27, Try.ntmps27
          go_upto_region 1 with (fail)
          rw [HL.out, HW.out]
          clear HW
          obtain ⟨d0, d1, d2, d3⟩ := tcell4 (x := ⟨a1, a2, a3, a4⟩) HX.out
          obtain ⟨u0, u1, u2, u3⟩ := tcell4 (x := ⟨b1, b2, b3, b4⟩) HY.out
          have r0 := (HR.out.cell 0).trans (show _ = some (Value.int .i64 f) from rfl)
          have r1 := (HR.out.cell 1).trans (show _ = some (Value.int .i64 g) from rfl)
          try simp only at d0 d1 d2 d3 u0 u1 u2 u3
          go_wp2_with fail
          refine (HA.out _).mono ?_
          rintro e w1 ⟨rfl, hb⟩
          clear HA
          clear d0 d1 d2 d3 u0 u1 u2 u3 r0 r1
          have HX2 := hide (HX.out.keep hb)
          have HY2 := hide (HY.out.keep hb)
          have HR2 := hide (HR.out.keep hb)
          have HB2 := hide (HB.out.trans (hb.mono HB.out.size))
          clear hb HX HY HR HB
          have HX := hide HX2.out
          have HY := hide HY2.out
          have HR := hide HR2.out
          have HB := hide HB2.out
          clear HX2 HY2 HR2 HB2
          obtain ⟨d0, d1, d2, d3⟩ := tcell4 (x := ⟨a1, a2, a3, a4⟩) HX.out
          obtain ⟨u0, u1, u2, u3⟩ := tcell4 (x := ⟨b1, b2, b3, b4⟩) HY.out
          have r0 := (HR.out.cell 0).trans (show _ = some (Value.int .i64 f) from rfl)
          have r1 := (HR.out.cell 1).trans (show _ = some (Value.int .i64 g) from rfl)
          try simp only at d0 d1 d2 d3 u0 u1 u2 u3
          go_wp2_with fail
          refine (HD.out _).mono ?_
          rintro e w2 ⟨rfl, hb⟩
          clear HD
          clear d0 d1 d2 d3 u0 u1 u2 u3 r0 r1
          have HX2 := hide (HX.out.keep hb)
          have HY2 := hide (HY.out.keep hb)
          have HR2 := hide (HR.out.keep hb)
          have HB2 := hide (HB.out.trans (hb.mono HB.out.size))
          clear hb HX HY HR HB
          have HX := hide HX2.out
          have HY := hide HY2.out
          have HR := hide HR2.out
          have HB := hide HB2.out
          clear HX2 HY2 HR2 HB2
          obtain ⟨d0, d1, d2, d3⟩ := tcell4 (x := ⟨a1, a2, a3, a4⟩) HX.out
          obtain ⟨u0, u1, u2, u3⟩ := tcell4 (x := ⟨b1, b2, b3, b4⟩) HY.out
          have r0 := (HR.out.cell 0).trans (show _ = some (Value.int .i64 f) from rfl)
          have r1 := (HR.out.cell 1).trans (show _ = some (Value.int .i64 g) from rfl)
          try simp only at d0 d1 d2 d3 u0 u1 u2 u3
          go_wp2_with (first | (go_at_call 31; refine (rt_in _ _ _).mono ?_; rintro e w6 ⟨rfl, rfl⟩))
          go_ret
          exact ⟨rfl, HB.out⟩
      · rw [nearB_no (fun h => hf ⟨h.1.2.1.1, h.1.2.2⟩)]
        have kf : inT 0 a.k f = false := inT_no.2 hf
        clear ha hb hf af bf
        obtain ⟨a1, a2, a3, a4⟩ := a
        obtain ⟨b1, b2, b3, b4⟩ := b
        simp only [Tg.cs] at *
        go_enter Try.func27, Try.ntmps27
        go_upto_region 1 with (fail)
        rw [HL.out, HW.out]
        clear HW
        obtain ⟨d0, d1, d2, d3⟩ := tcell4 (x := ⟨a1, a2, a3, a4⟩) HX.out
        obtain ⟨u0, u1, u2, u3⟩ := tcell4 (x := ⟨b1, b2, b3, b4⟩) HY.out
        have r0 := (HR.out.cell 0).trans (show _ = some (Value.int .i64 f) from rfl)
        have r1 := (HR.out.cell 1).trans (show _ = some (Value.int .i64 g) from rfl)
        try simp only at d0 d1 d2 d3 u0 u1 u2 u3
        go_wp2_with fail
        refine (HA.out _).mono ?_
        rintro e w1 ⟨rfl, hb⟩
        clear HA
        clear d0 d1 d2 d3 u0 u1 u2 u3 r0 r1
        have HX2 := hide (HX.out.keep hb)
        have HY2 := hide (HY.out.keep hb)
        have HR2 := hide (HR.out.keep hb)
        have HB2 := hide (HB.out.trans (hb.mono HB.out.size))
        clear hb HX HY HR HB
        have HX := hide HX2.out
        have HY := hide HY2.out
        have HR := hide HR2.out
        have HB := hide HB2.out
        clear HX2 HY2 HR2 HB2
        obtain ⟨d0, d1, d2, d3⟩ := tcell4 (x := ⟨a1, a2, a3, a4⟩) HX.out
        obtain ⟨u0, u1, u2, u3⟩ := tcell4 (x := ⟨b1, b2, b3, b4⟩) HY.out
        have r0 := (HR.out.cell 0).trans (show _ = some (Value.int .i64 f) from rfl)
        have r1 := (HR.out.cell 1).trans (show _ = some (Value.int .i64 g) from rfl)
        try simp only at d0 d1 d2 d3 u0 u1 u2 u3
        go_wp2_with fail
        refine (HD.out _).mono ?_
        rintro e w2 ⟨rfl, hb⟩
        clear HD
        clear d0 d1 d2 d3 u0 u1 u2 u3 r0 r1
        have HX2 := hide (HX.out.keep hb)
        have HY2 := hide (HY.out.keep hb)
        have HR2 := hide (HR.out.keep hb)
        have HB2 := hide (HB.out.trans (hb.mono HB.out.size))
        clear hb HX HY HR HB
        have HX := hide HX2.out
        have HY := hide HY2.out
        have HR := hide HR2.out
        have HB := hide HB2.out
        clear HX2 HY2 HR2 HB2
        obtain ⟨d0, d1, d2, d3⟩ := tcell4 (x := ⟨a1, a2, a3, a4⟩) HX.out
        obtain ⟨u0, u1, u2, u3⟩ := tcell4 (x := ⟨b1, b2, b3, b4⟩) HY.out
        have r0 := (HR.out.cell 0).trans (show _ = some (Value.int .i64 f) from rfl)
        have r1 := (HR.out.cell 1).trans (show _ = some (Value.int .i64 g) from rfl)
        try simp only at d0 d1 d2 d3 u0 u1 u2 u3
        go_wp2_with (first | (go_at_call 31; refine (rt_in _ _ _).mono ?_; rintro e w6 ⟨rfl, rfl⟩))
        go_ret
        exact ⟨rfl, HB.out⟩
    · rw [nearB_no (fun h => hb h.2.1.1)]
      rw [chkT_no hb] at HD
      clear ha hb
      obtain ⟨a1, a2, a3, a4⟩ := a
      obtain ⟨b1, b2, b3, b4⟩ := b
      simp only [Tg.cs] at *
      go_enter Try.func27, Try.ntmps27
      go_upto_region 1 with (fail)
      rw [HL.out, HW.out]
      clear HW
      obtain ⟨d0, d1, d2, d3⟩ := tcell4 (x := ⟨a1, a2, a3, a4⟩) HX.out
      obtain ⟨u0, u1, u2, u3⟩ := tcell4 (x := ⟨b1, b2, b3, b4⟩) HY.out
      have r0 := (HR.out.cell 0).trans (show _ = some (Value.int .i64 f) from rfl)
      have r1 := (HR.out.cell 1).trans (show _ = some (Value.int .i64 g) from rfl)
      try simp only at d0 d1 d2 d3 u0 u1 u2 u3
      go_wp2_with fail
      refine (HA.out _).mono ?_
      rintro e w1 ⟨rfl, hb⟩
      clear HA
      clear d0 d1 d2 d3 u0 u1 u2 u3 r0 r1
      have HX2 := hide (HX.out.keep hb)
      have HY2 := hide (HY.out.keep hb)
      have HR2 := hide (HR.out.keep hb)
      have HB2 := hide (HB.out.trans (hb.mono HB.out.size))
      clear hb HX HY HR HB
      have HX := hide HX2.out
      have HY := hide HY2.out
      have HR := hide HR2.out
      have HB := hide HB2.out
      clear HX2 HY2 HR2 HB2
      obtain ⟨d0, d1, d2, d3⟩ := tcell4 (x := ⟨a1, a2, a3, a4⟩) HX.out
      obtain ⟨u0, u1, u2, u3⟩ := tcell4 (x := ⟨b1, b2, b3, b4⟩) HY.out
      have r0 := (HR.out.cell 0).trans (show _ = some (Value.int .i64 f) from rfl)
      have r1 := (HR.out.cell 1).trans (show _ = some (Value.int .i64 g) from rfl)
      try simp only at d0 d1 d2 d3 u0 u1 u2 u3
      go_wp2_with fail
      refine (HD.out _).mono ?_
      rintro e w2 ⟨rfl, hb⟩
      clear HD
      clear d0 d1 d2 d3 u0 u1 u2 u3 r0 r1
      have HX2 := hide (HX.out.keep hb)
      have HY2 := hide (HY.out.keep hb)
      have HR2 := hide (HR.out.keep hb)
      have HB2 := hide (HB.out.trans (hb.mono HB.out.size))
      clear hb HX HY HR HB
      have HX := hide HX2.out
      have HY := hide HY2.out
      have HR := hide HR2.out
      have HB := hide HB2.out
      clear HX2 HY2 HR2 HB2
      obtain ⟨d0, d1, d2, d3⟩ := tcell4 (x := ⟨a1, a2, a3, a4⟩) HX.out
      obtain ⟨u0, u1, u2, u3⟩ := tcell4 (x := ⟨b1, b2, b3, b4⟩) HY.out
      have r0 := (HR.out.cell 0).trans (show _ = some (Value.int .i64 f) from rfl)
      have r1 := (HR.out.cell 1).trans (show _ = some (Value.int .i64 g) from rfl)
      try simp only at d0 d1 d2 d3 u0 u1 u2 u3
      go_wp2_with fail
      go_ret
      exact ⟨rfl, HB.out⟩
  · rw [nearB_no (fun h => ha h.1.1)]
    rw [chkT_no ha] at HA
    clear ha HD
    obtain ⟨a1, a2, a3, a4⟩ := a
    obtain ⟨b1, b2, b3, b4⟩ := b
    simp only [Tg.cs] at *
    go_enter Try.func27, Try.ntmps27
    go_upto_region 1 with (fail)
    rw [HL.out, HW.out]
    clear HW
    obtain ⟨d0, d1, d2, d3⟩ := tcell4 (x := ⟨a1, a2, a3, a4⟩) HX.out
    obtain ⟨u0, u1, u2, u3⟩ := tcell4 (x := ⟨b1, b2, b3, b4⟩) HY.out
    have r0 := (HR.out.cell 0).trans (show _ = some (Value.int .i64 f) from rfl)
    have r1 := (HR.out.cell 1).trans (show _ = some (Value.int .i64 g) from rfl)
    try simp only at d0 d1 d2 d3 u0 u1 u2 u3
    go_wp2_with fail
    refine (HA.out _).mono ?_
    rintro e w1 ⟨rfl, hb⟩
    clear HA
    clear d0 d1 d2 d3 u0 u1 u2 u3 r0 r1
    have HX2 := hide (HX.out.keep hb)
    have HY2 := hide (HY.out.keep hb)
    have HR2 := hide (HR.out.keep hb)
    have HB2 := hide (HB.out.trans (hb.mono HB.out.size))
    clear hb HX HY HR HB
    have HX := hide HX2.out
    have HY := hide HY2.out
    have HR := hide HR2.out
    have HB := hide HB2.out
    clear HX2 HY2 HR2 HB2
    obtain ⟨d0, d1, d2, d3⟩ := tcell4 (x := ⟨a1, a2, a3, a4⟩) HX.out
    obtain ⟨u0, u1, u2, u3⟩ := tcell4 (x := ⟨b1, b2, b3, b4⟩) HY.out
    have r0 := (HR.out.cell 0).trans (show _ = some (Value.int .i64 f) from rfl)
    have r1 := (HR.out.cell 1).trans (show _ = some (Value.int .i64 g) from rfl)
    try simp only at d0 d1 d2 d3 u0 u1 u2 u3
    go_wp2_with fail
    go_ret
    exact ⟨rfl, HB.out⟩
end Go.Proofs.Ytlondjmklnehhaa
