/-
  BucketWaits: its walk.
-/
import Derived.Test.YtpebbeghjealiaaBucketWaitsMath
import Derived.Test.YtpebbeghjealiaaBuAwake
import Derived.BigGuardPart
namespace Go.Proofs.Ytpebbeghjealiaa.bucketWaits
set_option linter.unusedSimpArgs false
set_option linter.unusedVariables false
open Go.RowKit

set_option maxRecDepth 100000 in
set_option maxHeartbeats 3200000 in
theorem walk_at (u r p l n d : Int) (w : World) (hd0 : 0 ≤ d) (hd1 : d ≤ 65535) :
    Calls Try.prog 5 #[.agg #[.int .i64 u, .int .i64 r, .int .i64 p, .int .i64 l, .int .i64 n], .int .u16 d] w fun e w' => e = .returned (.bool true) ∧ Below w.heap.size w w' := by
  have HAW := hide aw_bucket
  have HC := hide (fun w => bu_Check ⟨u, r, p, l, n⟩ w)
  obtain ⟨g, hg⟩ : ∃ g, g = w.heap.size := ⟨_, rfl⟩
  have HL := hide hg.symm
  obtain ⟨W, hW⟩ : ∃ W, (w.alloc (.cells #[.int .i64 u, .int .i64 r, .int .i64 p, .int .i64 l, .int .i64 n] 27)).alloc (.cells #[.int .i64 u, .int .i64 r, .int .i64 p, .int .i64 l, .int .i64 n] 23) = W := ⟨_, rfl⟩
  have HB := hide (show Below w.heap.size w W by rw [← hW]; exact bel2 w _ _)
  have HR := hide (show BlkIs W g 27 #[.int .i64 u, .int .i64 r, .int .i64 p, .int .i64 l, .int .i64 n] by rw [← hW, hg]; exact (BlkIs.new w _ _).alloc _)
  have HX := hide (show BlkIs W (g + 1) 23 #[.int .i64 u, .int .i64 r, .int .i64 p, .int .i64 l, .int .i64 n] by rw [← hW, hg]; exact new2 w _ _ _)
  have HW := hide hW
  clear hg hW
  cases hok : okB ⟨u, r, p, l, n⟩ with
  | false =>
    rw [chkB_no hok] at HC
    clear hok
    go_enter Try.func5, Try.ntmps5
    go_wp2_with fail
    rw [HL.out]
    rw [HW.out]
    refine (HC.out _).mono ?_
    rintro e wk1 ⟨rfl, hb⟩
    have HX1 := hide (HX.out.keep hb)
    have HR1 := hide (HR.out.keep hb)
    have HB1 := hide (HB.out.trans (hb.mono HB.out.size))
    clear hb HX HR HB
    try clear x0 x1 x2 x3 x4 r1
    obtain ⟨x0, x1, x2, x3, x4⟩ := cells5 (b := ⟨u, r, p, l, n⟩) HX1.out
    have r1 := (HR1.out.cell 1).trans (show _ = some (Value.int .i64 r) from rfl)
    simp only at x0 x1 x2 x3 x4
    have HX := hide HX1.out
    have HR := hide HR1.out
    have HB := hide HB1.out
    clear HX1 HR1 HB1
    go_wp2_with fail
    refine (HAW.out _).mono ?_
    rintro e wk2 ⟨rfl, hb⟩
    have HX2 := hide (HX.out.keep hb)
    have HR2 := hide (HR.out.keep hb)
    have HB2 := hide (HB.out.trans (hb.mono HB.out.size))
    clear hb HX HR HB
    try clear x0 x1 x2 x3 x4 r1
    obtain ⟨x0, x1, x2, x3, x4⟩ := cells5 (b := ⟨u, r, p, l, n⟩) HX2.out
    have r1 := (HR2.out.cell 1).trans (show _ = some (Value.int .i64 r) from rfl)
    simp only at x0 x1 x2 x3 x4
    have HX := hide HX2.out
    have HR := hide HR2.out
    have HB := hide HB2.out
    clear HX2 HR2 HB2
    go_wp2
    go_ret
    exact ⟨rfl, HB.out⟩
  | true =>
    rw [chkB_yes hok] at HC
    by_cases hn : 1073741824 < n
    · clear hok
      go_enter Try.func5, Try.ntmps5
      go_wp2_with fail
      rw [HL.out]
      rw [HW.out]
      refine (HC.out _).mono ?_
      rintro e wk3 ⟨rfl, hb⟩
      have HX3 := hide (HX.out.keep hb)
      have HR3 := hide (HR.out.keep hb)
      have HB3 := hide (HB.out.trans (hb.mono HB.out.size))
      clear hb HX HR HB
      try clear x0 x1 x2 x3 x4 r1
      obtain ⟨x0, x1, x2, x3, x4⟩ := cells5 (b := ⟨u, r, p, l, n⟩) HX3.out
      have r1 := (HR3.out.cell 1).trans (show _ = some (Value.int .i64 r) from rfl)
      simp only at x0 x1 x2 x3 x4
      have HX := hide HX3.out
      have HR := hide HR3.out
      have HB := hide HB3.out
      clear HX3 HR3 HB3
      go_wp2_with fail
      refine (HAW.out _).mono ?_
      rintro e wk4 ⟨rfl, hb⟩
      have HX4 := hide (HX.out.keep hb)
      have HR4 := hide (HR.out.keep hb)
      have HB4 := hide (HB.out.trans (hb.mono HB.out.size))
      clear hb HX HR HB
      try clear x0 x1 x2 x3 x4 r1
      obtain ⟨x0, x1, x2, x3, x4⟩ := cells5 (b := ⟨u, r, p, l, n⟩) HX4.out
      have r1 := (HR4.out.cell 1).trans (show _ = some (Value.int .i64 r) from rfl)
      simp only at x0 x1 x2 x3 x4
      have HX := hide HX4.out
      have HR := hide HR4.out
      have HB := hide HB4.out
      clear HX4 HR4 HB4
      go_wp2
      go_ret
      exact ⟨rfl, HB.out⟩
    · have ho := okB_iff.1 hok
      have hq := waits (b := ⟨u, r, p, l, n⟩) ho (by simp only; omega) hd0 hd1
      obtain ⟨qn, qm, qt, qp⟩ := hq
      have hn0 : 0 ≤ n := ho.2.2.2.2.2.2.1
      have hn1 : n ≤ 1073741824 := by omega
      simp only at qn qm qt qp
      have QW := hide (fun w => bu_Wait ⟨u, r, p, l, n⟩ (n + d) w)
      have QT := hide (fun w => bu_Take ⟨u, r, p, l, n⟩ (n + d + waitB ⟨u, r, p, l, n⟩ (n + d)) w)
      have QA1 := hide (fun w => bu_At ⟨u, r, p, l, n⟩ (n + d + 1000) w)
      have QH1 := hide (fun w => bu_Has (atB ⟨u, r, p, l, n⟩ (n + d + 1000)) w)
      have QA2 := hide (fun w => bu_At ⟨u, r, p, l, n⟩ (n + d + waitB ⟨u, r, p, l, n⟩ (n + d) - 1) w)
      have QH2 := hide (fun w => bu_Has (atB ⟨u, r, p, l, n⟩ (n + d + waitB ⟨u, r, p, l, n⟩ (n + d) - 1)) w)
      generalize waitB ⟨u, r, p, l, n⟩ (n + d) = k at *
      clear hok ho
      have hnn : decide (1073741824 < n) = false := by rw [decide_eq_false_iff_not]; exact hn
      clear hn
      by_cases hk : k < 0
      · obtain ⟨q1, q2, q3⟩ := qn hk
        rw [q2] at QH1
        generalize atB ⟨u, r, p, l, n⟩ (n + d + 1000) = c at *
        subst q1
        subst q3
        clear qn qm qt qp QT QA2 QH2 hk q2
        go_enter Try.func5, Try.ntmps5
        go_wp2_with fail
        rw [HL.out]
        rw [HW.out]
        refine (HC.out _).mono ?_
        rintro e wk5 ⟨rfl, hb⟩
        have HX5 := hide (HX.out.keep hb)
        have HR5 := hide (HR.out.keep hb)
        have HB5 := hide (HB.out.trans (hb.mono HB.out.size))
        clear hb HX HR HB
        try clear x0 x1 x2 x3 x4 r1
        obtain ⟨x0, x1, x2, x3, x4⟩ := cells5 (b := ⟨u, 0, p, l, n⟩) HX5.out
        have r1 := (HR5.out.cell 1).trans (show _ = some (Value.int .i64 0) from rfl)
        simp only at x0 x1 x2 x3 x4
        have HX := hide HX5.out
        have HR := hide HR5.out
        have HB := hide HB5.out
        clear HX5 HR5 HB5
        go_wp2_with fail
        refine (QW.out _).mono ?_
        rintro e wk6 ⟨rfl, hb⟩
        have HX6 := hide (HX.out.keep hb)
        have HR6 := hide (HR.out.keep hb)
        have HB6 := hide (HB.out.trans (hb.mono HB.out.size))
        clear hb HX HR HB
        try clear x0 x1 x2 x3 x4 r1
        obtain ⟨x0, x1, x2, x3, x4⟩ := cells5 (b := ⟨u, 0, p, l, n⟩) HX6.out
        have r1 := (HR6.out.cell 1).trans (show _ = some (Value.int .i64 0) from rfl)
        simp only at x0 x1 x2 x3 x4
        have HX := hide HX6.out
        have HR := hide HR6.out
        have HB := hide HB6.out
        clear HX6 HR6 HB6
        go_wp2_with fail
        refine (QA1.out _).mono ?_
        rintro e wk7 ⟨rfl, hb⟩
        have HX7 := hide (HX.out.keep hb)
        have HR7 := hide (HR.out.keep hb)
        have HB7 := hide (HB.out.trans (hb.mono HB.out.size))
        clear hb HX HR HB
        try clear x0 x1 x2 x3 x4 r1
        obtain ⟨x0, x1, x2, x3, x4⟩ := cells5 (b := ⟨u, 0, p, l, n⟩) HX7.out
        have r1 := (HR7.out.cell 1).trans (show _ = some (Value.int .i64 0) from rfl)
        simp only at x0 x1 x2 x3 x4
        have HX := hide HX7.out
        have HR := hide HR7.out
        have HB := hide HB7.out
        clear HX7 HR7 HB7
        go_wp2_with fail
        refine (QH1.out _).mono ?_
        rintro e wk8 ⟨rfl, hb⟩
        have HX8 := hide (HX.out.keep hb)
        have HR8 := hide (HR.out.keep hb)
        have HB8 := hide (HB.out.trans (hb.mono HB.out.size))
        clear hb HX HR HB
        try clear x0 x1 x2 x3 x4 r1
        obtain ⟨x0, x1, x2, x3, x4⟩ := cells5 (b := ⟨u, 0, p, l, n⟩) HX8.out
        have r1 := (HR8.out.cell 1).trans (show _ = some (Value.int .i64 0) from rfl)
        simp only at x0 x1 x2 x3 x4
        have HX := hide HX8.out
        have HR := hide HR8.out
        have HB := hide HB8.out
        clear HX8 HR8 HB8
        go_wp2_with fail
        refine (HAW.out _).mono ?_
        rintro e wk9 ⟨rfl, hb⟩
        have HX9 := hide (HX.out.keep hb)
        have HR9 := hide (HR.out.keep hb)
        have HB9 := hide (HB.out.trans (hb.mono HB.out.size))
        clear hb HX HR HB
        try clear x0 x1 x2 x3 x4 r1
        obtain ⟨x0, x1, x2, x3, x4⟩ := cells5 (b := ⟨u, 0, p, l, n⟩) HX9.out
        have r1 := (HR9.out.cell 1).trans (show _ = some (Value.int .i64 0) from rfl)
        simp only at x0 x1 x2 x3 x4
        have HX := hide HX9.out
        have HR := hide HR9.out
        have HB := hide HB9.out
        clear HX9 HR9 HB9
        go_wp2
        go_ret
        exact ⟨rfl, HB.out⟩
      · have hk0 : 0 ≤ k := by omega
        have hkk : decide (k < 0) = false := by rw [decide_eq_false_iff_not]; exact hk
        have q1 := qt hk0
        by_cases hp : 0 < k
        · have q2 := qp hp
          rw [q2] at QH2
          generalize atB ⟨u, r, p, l, n⟩ (n + d + k - 1) = c at *
          obtain ⟨⟨⟨tu, tr, tp, tl, tn⟩, ti⟩, ht⟩ : ∃ t, t = takB ⟨u, r, p, l, n⟩ (n + d + k) := ⟨_, rfl⟩
          rw [← ht] at QT q1
          simp only at q1
          subst q1
          clear qn qt qp QA1 QH1 hk q2 ht
          simp only [Bu.cs] at QT
          go_enter Try.func5, Try.ntmps5
          go_wp2_with fail
          rw [HL.out]
          rw [HW.out]
          refine (HC.out _).mono ?_
          rintro e wk10 ⟨rfl, hb⟩
          have HX10 := hide (HX.out.keep hb)
          have HR10 := hide (HR.out.keep hb)
          have HB10 := hide (HB.out.trans (hb.mono HB.out.size))
          clear hb HX HR HB
          try clear x0 x1 x2 x3 x4 r1
          obtain ⟨x0, x1, x2, x3, x4⟩ := cells5 (b := ⟨u, r, p, l, n⟩) HX10.out
          have r1 := (HR10.out.cell 1).trans (show _ = some (Value.int .i64 r) from rfl)
          simp only at x0 x1 x2 x3 x4
          have HX := hide HX10.out
          have HR := hide HR10.out
          have HB := hide HB10.out
          clear HX10 HR10 HB10
          go_wp2_with fail
          refine (QW.out _).mono ?_
          rintro e wk11 ⟨rfl, hb⟩
          have HX11 := hide (HX.out.keep hb)
          have HR11 := hide (HR.out.keep hb)
          have HB11 := hide (HB.out.trans (hb.mono HB.out.size))
          clear hb HX HR HB
          try clear x0 x1 x2 x3 x4 r1
          obtain ⟨x0, x1, x2, x3, x4⟩ := cells5 (b := ⟨u, r, p, l, n⟩) HX11.out
          have r1 := (HR11.out.cell 1).trans (show _ = some (Value.int .i64 r) from rfl)
          simp only at x0 x1 x2 x3 x4
          have HX := hide HX11.out
          have HR := hide HR11.out
          have HB := hide HB11.out
          clear HX11 HR11 HB11
          go_wp2_with fail
          refine (QT.out _).mono ?_
          rintro e wk12 ⟨rfl, hb⟩
          have HX12 := hide (HX.out.keep hb)
          have HR12 := hide (HR.out.keep hb)
          have HB12 := hide (HB.out.trans (hb.mono HB.out.size))
          clear hb HX HR HB
          try clear x0 x1 x2 x3 x4 r1
          obtain ⟨x0, x1, x2, x3, x4⟩ := cells5 (b := ⟨u, r, p, l, n⟩) HX12.out
          have r1 := (HR12.out.cell 1).trans (show _ = some (Value.int .i64 r) from rfl)
          simp only at x0 x1 x2 x3 x4
          have HX := hide HX12.out
          have HR := hide HR12.out
          have HB := hide HB12.out
          clear HX12 HR12 HB12
          have HX13 := hide (HX.out.alloc (.cells #[.int .i64 tu, .int .i64 tr, .int .i64 tp, .int .i64 tl, .int .i64 tn] 23))
          have HR13 := hide (HR.out.alloc (.cells #[.int .i64 tu, .int .i64 tr, .int .i64 tp, .int .i64 tl, .int .i64 tn] 23))
          have HB13 := hide (HB.out.alloc HB.out.size (.cells #[.int .i64 tu, .int .i64 tr, .int .i64 tp, .int .i64 tl, .int .i64 tn] 23))
          clear HX HR HB
          clear x0 x1 x2 x3 x4 r1
          obtain ⟨x0, x1, x2, x3, x4⟩ := cells5 (b := ⟨u, r, p, l, n⟩) HX13.out
          simp only at x0 x1 x2 x3 x4
          have HX := hide HX13.out
          have HR := hide HR13.out
          have HB := hide HB13.out
          clear HX13 HR13 HB13
          go_wp2_with fail
          refine (QA2.out _).mono ?_
          rintro e wk14 ⟨rfl, hb⟩
          have HX14 := hide (HX.out.keep hb)
          have HR14 := hide (HR.out.keep hb)
          have HB14 := hide (HB.out.trans (hb.mono HB.out.size))
          clear hb HX HR HB
          try clear x0 x1 x2 x3 x4
          obtain ⟨x0, x1, x2, x3, x4⟩ := cells5 (b := ⟨u, r, p, l, n⟩) HX14.out
          have r1 := (HR14.out.cell 1).trans (show _ = some (Value.int .i64 r) from rfl)
          simp only at x0 x1 x2 x3 x4
          have HX := hide HX14.out
          have HR := hide HR14.out
          have HB := hide HB14.out
          clear HX14 HR14 HB14
          go_wp2_with fail
          refine (QH2.out _).mono ?_
          rintro e wk15 ⟨rfl, hb⟩
          have HX15 := hide (HX.out.keep hb)
          have HR15 := hide (HR.out.keep hb)
          have HB15 := hide (HB.out.trans (hb.mono HB.out.size))
          clear hb HX HR HB
          try clear x0 x1 x2 x3 x4 r1
          obtain ⟨x0, x1, x2, x3, x4⟩ := cells5 (b := ⟨u, r, p, l, n⟩) HX15.out
          have r1 := (HR15.out.cell 1).trans (show _ = some (Value.int .i64 r) from rfl)
          simp only at x0 x1 x2 x3 x4
          have HX := hide HX15.out
          have HR := hide HR15.out
          have HB := hide HB15.out
          clear HX15 HR15 HB15
          go_wp2_with fail
          refine (HAW.out _).mono ?_
          rintro e wk16 ⟨rfl, hb⟩
          have HX16 := hide (HX.out.keep hb)
          have HR16 := hide (HR.out.keep hb)
          have HB16 := hide (HB.out.trans (hb.mono HB.out.size))
          clear hb HX HR HB
          try clear x0 x1 x2 x3 x4 r1
          obtain ⟨x0, x1, x2, x3, x4⟩ := cells5 (b := ⟨u, r, p, l, n⟩) HX16.out
          have r1 := (HR16.out.cell 1).trans (show _ = some (Value.int .i64 r) from rfl)
          simp only at x0 x1 x2 x3 x4
          have HX := hide HX16.out
          have HR := hide HR16.out
          have HB := hide HB16.out
          clear HX16 HR16 HB16
          go_wp2
          go_ret
          exact ⟨rfl, HB.out⟩
        · obtain rfl : k = 0 := by omega
          obtain ⟨⟨⟨tu, tr, tp, tl, tn⟩, ti⟩, ht⟩ : ∃ t, t = takB ⟨u, r, p, l, n⟩ (n + d + 0) := ⟨_, rfl⟩
          rw [← ht] at QT q1
          simp only at q1
          subst q1
          clear qn qm qt qp QA1 QH1 QA2 QH2 hk hkk hk0 ht hp
          simp only [Bu.cs, Int.add_zero] at QT
          go_enter Try.func5, Try.ntmps5
          go_wp2_with fail
          rw [HL.out]
          rw [HW.out]
          refine (HC.out _).mono ?_
          rintro e wk17 ⟨rfl, hb⟩
          have HX17 := hide (HX.out.keep hb)
          have HR17 := hide (HR.out.keep hb)
          have HB17 := hide (HB.out.trans (hb.mono HB.out.size))
          clear hb HX HR HB
          try clear x0 x1 x2 x3 x4 r1
          obtain ⟨x0, x1, x2, x3, x4⟩ := cells5 (b := ⟨u, r, p, l, n⟩) HX17.out
          have r1 := (HR17.out.cell 1).trans (show _ = some (Value.int .i64 r) from rfl)
          simp only at x0 x1 x2 x3 x4
          have HX := hide HX17.out
          have HR := hide HR17.out
          have HB := hide HB17.out
          clear HX17 HR17 HB17
          go_wp2_with fail
          refine (QW.out _).mono ?_
          rintro e wk18 ⟨rfl, hb⟩
          have HX18 := hide (HX.out.keep hb)
          have HR18 := hide (HR.out.keep hb)
          have HB18 := hide (HB.out.trans (hb.mono HB.out.size))
          clear hb HX HR HB
          try clear x0 x1 x2 x3 x4 r1
          obtain ⟨x0, x1, x2, x3, x4⟩ := cells5 (b := ⟨u, r, p, l, n⟩) HX18.out
          have r1 := (HR18.out.cell 1).trans (show _ = some (Value.int .i64 r) from rfl)
          simp only at x0 x1 x2 x3 x4
          have HX := hide HX18.out
          have HR := hide HR18.out
          have HB := hide HB18.out
          clear HX18 HR18 HB18
          go_wp2_with fail
          refine (QT.out _).mono ?_
          rintro e wk19 ⟨rfl, hb⟩
          have HX19 := hide (HX.out.keep hb)
          have HR19 := hide (HR.out.keep hb)
          have HB19 := hide (HB.out.trans (hb.mono HB.out.size))
          clear hb HX HR HB
          try clear x0 x1 x2 x3 x4 r1
          obtain ⟨x0, x1, x2, x3, x4⟩ := cells5 (b := ⟨u, r, p, l, n⟩) HX19.out
          have r1 := (HR19.out.cell 1).trans (show _ = some (Value.int .i64 r) from rfl)
          simp only at x0 x1 x2 x3 x4
          have HX := hide HX19.out
          have HR := hide HR19.out
          have HB := hide HB19.out
          clear HX19 HR19 HB19
          have HX20 := hide (HX.out.alloc (.cells #[.int .i64 tu, .int .i64 tr, .int .i64 tp, .int .i64 tl, .int .i64 tn] 23))
          have HR20 := hide (HR.out.alloc (.cells #[.int .i64 tu, .int .i64 tr, .int .i64 tp, .int .i64 tl, .int .i64 tn] 23))
          have HB20 := hide (HB.out.alloc HB.out.size (.cells #[.int .i64 tu, .int .i64 tr, .int .i64 tp, .int .i64 tl, .int .i64 tn] 23))
          clear HX HR HB
          clear x0 x1 x2 x3 x4 r1
          obtain ⟨x0, x1, x2, x3, x4⟩ := cells5 (b := ⟨u, r, p, l, n⟩) HX20.out
          simp only at x0 x1 x2 x3 x4
          have HX := hide HX20.out
          have HR := hide HR20.out
          have HB := hide HB20.out
          clear HX20 HR20 HB20
          go_wp2_with fail
          refine (HAW.out _).mono ?_
          rintro e wk21 ⟨rfl, hb⟩
          have HX21 := hide (HX.out.keep hb)
          have HR21 := hide (HR.out.keep hb)
          have HB21 := hide (HB.out.trans (hb.mono HB.out.size))
          clear hb HX HR HB
          try clear x0 x1 x2 x3 x4 r1
          obtain ⟨x0, x1, x2, x3, x4⟩ := cells5 (b := ⟨u, r, p, l, n⟩) HX21.out
          have r1 := (HR21.out.cell 1).trans (show _ = some (Value.int .i64 r) from rfl)
          simp only at x0 x1 x2 x3 x4
          have HX := hide HX21.out
          have HR := hide HR21.out
          have HB := hide HB21.out
          clear HX21 HR21 HB21
          go_wp2
          go_ret
          exact ⟨rfl, HB.out⟩

theorem walk (u r p l n d : Int) (w : World) (_ : (Lit.int .i64 u).wf = true) (_ : (Lit.int .i64 r).wf = true) (_ : (Lit.int .i64 p).wf = true) (_ : (Lit.int .i64 l).wf = true) (_ : (Lit.int .i64 n).wf = true) (wd : (Lit.int .u16 d).wf = true) :
    Calls Try.prog 5 #[.agg #[.int .i64 u, .int .i64 r, .int .i64 p, .int .i64 l, .int .i64 n], .int .u16 d] w fun e w' => e = .returned (.bool true) ∧ Below w.heap.size w w' := by
  have h := bounds_u16 wd
  exact walk_at u r p l n d w h.1 h.2
end Go.Proofs.Ytpebbeghjealiaa.bucketWaits
