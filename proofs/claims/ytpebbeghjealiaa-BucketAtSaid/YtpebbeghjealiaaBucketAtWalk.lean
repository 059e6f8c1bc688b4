/-
  BucketAt: its walk.
-/
import Derived.Test.YtpebbeghjealiaaBuLater
import Derived.Test.YtpebbeghjealiaaBuAwake
import Derived.BigGuardPart
import Derived.Deep.QuietTactic
import Derived.BigQuiet
import Derived.BigRegion
import Derived.Deep.CutRange
import Derived.Deep.DeepCutAuto
namespace Go.Proofs.Ytpebbeghjealiaa.bucketAt
set_option linter.unusedSimpArgs false
set_option linter.unusedVariables false
open Go.RowKit

/-- Two buckets in two new variables. -/
def TwoB (W wx : World) (ac cc : Array Value) (s5 s6 : Value) : Prop :=
  ∃ x y, s5 = .pointer (some ⟨x, 0, none⟩) ∧ s6 = .pointer (some ⟨y, 0, none⟩) ∧ BlkIs wx x 23 ac ∧ BlkIs wx y 23 cc ∧ Below W.heap.size W wx

/-- What the two ticks and the two buckets are. -/
theorem ticks {u r p l n a b m : Int} (h : (Bu.mk u r p l n).Ok) (hn : n ≤ 1073741824) (ha : 0 ≤ a) (ha1 : a ≤ 65535) (hb : 0 ≤ b) (hb1 : b ≤ 65535) (hm : 0 ≤ m) :
    ∃ Al Cl Dl, atB ⟨u, r, p, l, n⟩ (n + a + b) = ⟨u, r, p, Al, n + a + b⟩ ∧ atB ⟨u, r, p, min (u * p) (l + m), n⟩ (n + a + b) = ⟨u, r, p, Cl, n + a + b⟩ ∧ atB ⟨u, r, p, l, n⟩ (n + a) = ⟨u, r, p, Dl, n + a⟩ ∧
      atB ⟨u, r, p, Dl, n + a⟩ (n + a + b) = ⟨u, r, p, Al, n + a + b⟩ ∧ Al ≤ Cl ∧ hasB ⟨u, r, p, Al, n + a + b⟩ ≤ hasB ⟨u, r, p, Cl, n + a + b⟩ ∧ l ≤ Al := by
  obtain ⟨hk, h1, h2, h3, h4⟩ := at_more h hm (d := a + b) (by omega) (by simp only; omega)
  have h5 := at_twice h (d := a) (e := b) ha hb (by simp only; omega)
  have eD := at_later h (d := a) ha (by simp only; omega)
  have eA := at_later h (d := a + b) (by omega) (by simp only; omega)
  have eC := at_later hk (d := a + b) (by omega) (by simp only; omega)
  simp only at hk h1 h2 h3 h4 h5 eD eA eC
  rw [← Int.add_assoc] at h1 h2 h3 h4 h5 eA eC
  rw [eA, eC] at h1 h2
  rw [eA] at h4
  refine ⟨_, _, _, eA, eC, eD, ?_, h1, h2, h4⟩
  rw [← eD, h5, eA]

set_option maxRecDepth 100000 in
set_option maxHeartbeats 6400000 in
theorem walk_at (u r p l n a b m : Int) (w : World) (ha0 : 0 ≤ a) (ha1 : a ≤ 65535) (hb0 : 0 ≤ b) (hb1 : b ≤ 65535) (hm0 : 0 ≤ m) (hm1 : m ≤ 65535) :
    Calls Try.prog 6 #[.agg #[.int .i64 u, .int .i64 r, .int .i64 p, .int .i64 l, .int .i64 n], .agg #[.int .u16 a, .int .u16 b], .int .u16 m] w fun e w' => e = .returned (.bool true) ∧ Below w.heap.size w w' := by
  have HAW := hide aw_bucket
  have HCK := hide (fun w => bu_Check ⟨u, r, p, l, n⟩ w)
  obtain ⟨g, hg⟩ : ∃ g, g = w.heap.size := ⟨_, rfl⟩
  have HL := hide hg.symm
  obtain ⟨W, hW⟩ : ∃ W, ((w.alloc (.cells #[.int .i64 u, .int .i64 r, .int .i64 p, .int .i64 l, .int .i64 n] 27)).alloc (.cells #[.int .u16 a, .int .u16 b] 43)).alloc (.cells #[.int .i64 u, .int .i64 r, .int .i64 p, .int .i64 l, .int .i64 n] 23) = W := ⟨_, rfl⟩
  have HB := hide (show Below w.heap.size w W by rw [← hW]; exact bel3 w _ _ _)
  have HA := hide (show BlkIs W (g + 1) 43 #[.int .u16 a, .int .u16 b] by rw [← hW, hg]; exact (new2 w _ _ _).alloc _)
  have HX := hide (show BlkIs W (g + 2) 23 #[.int .i64 u, .int .i64 r, .int .i64 p, .int .i64 l, .int .i64 n] by rw [← hW, hg]; exact new3 w _ _ _ _)
  have HW := hide hW
  clear hg hW
  cases hok : okB ⟨u, r, p, l, n⟩ with
  | false =>
    rw [chkB_no hok] at HCK
    clear hok
    go_enter Try.func6, Try.ntmps6
    go_wp2_with fail
    rw [HL.out]
    rw [HW.out]
    refine (HCK.out _).mono ?_
    rintro e W1 ⟨rfl, hb⟩
    have HX1 := hide (HX.out.keep hb)
    have HA1 := hide (HA.out.keep hb)
    have HB1 := hide (HB.out.trans (hb.mono HB.out.size))
    clear hb HX HA HB
    obtain ⟨x0, x1, x2, x3, x4⟩ := cells5 (b := ⟨u, r, p, l, n⟩) HX1.out
    simp only at x0 x1 x2 x3 x4
    go_wp2_with fail
    refine (HAW.out _).mono ?_
    rintro e w9 ⟨rfl, hb⟩
    have HB9 := hide (HB1.out.trans (hb.mono HB1.out.size))
    clear hb
    go_wp2
    go_ret
    exact ⟨rfl, HB9.out⟩
  | true =>
    rw [chkB_yes hok] at HCK
    by_cases hn : 1073741824 < n
    · clear hok
      go_enter Try.func6, Try.ntmps6
      go_wp2_with fail
      rw [HL.out]
      rw [HW.out]
      refine (HCK.out _).mono ?_
      rintro e W1 ⟨rfl, hb⟩
      have HX1 := hide (HX.out.keep hb)
      have HA1 := hide (HA.out.keep hb)
      have HB1 := hide (HB.out.trans (hb.mono HB.out.size))
      clear hb HX HA HB
      obtain ⟨x0, x1, x2, x3, x4⟩ := cells5 (b := ⟨u, r, p, l, n⟩) HX1.out
      simp only at x0 x1 x2 x3 x4
      go_wp2_with fail
      refine (HAW.out _).mono ?_
      rintro e w9 ⟨rfl, hb⟩
      have HB9 := hide (HB1.out.trans (hb.mono HB1.out.size))
      clear hb
      go_wp2
      go_ret
      exact ⟨rfl, HB9.out⟩
    · have ho := okB_iff.1 hok
      obtain ⟨Al, Cl, Dl, e1, e2, e3, e4, k1, k2, k3⟩ := ticks (m := m) ho (by omega) ha0 ha1 hb0 hb1 hm0
      have QA := hide (fun w => bu_At ⟨u, r, p, l, n⟩ (n + a + b) w)
      have QC := hide (fun w => bu_At ⟨u, r, p, min (u * p) (l + m), n⟩ (n + a + b) w)
      have QD := hide (fun w => bu_At ⟨u, r, p, l, n⟩ (n + a) w)
      have QE := hide (fun w => bu_At ⟨u, r, p, Dl, n + a⟩ (n + a + b) w)
      have QH1 := hide (fun w => bu_Has ⟨u, r, p, Cl, n + a + b⟩ w)
      have QH2 := hide (fun w => bu_Has ⟨u, r, p, Al, n + a + b⟩ w)
      rw [e1] at QA
      rw [e2] at QC
      rw [e3] at QD
      rw [e4] at QE
      generalize hasB ⟨u, r, p, Cl, n + a + b⟩ = H1 at *
      generalize hasB ⟨u, r, p, Al, n + a + b⟩ = H2 at *
      clear e1 e2 e3 e4
      obtain ⟨a1, a2, a3, a4, a5, a6, a7, a8, a9, a10⟩ := ho
      simp only at a1 a2 a5 a6 a7 a9 a10
      obtain ⟨m0, m1⟩ := mul_in a1 a2 a5 a6
      have hl1 : l ≤ 1000000 := by omega
      obtain ⟨Yl, hY⟩ : ∃ Yl, min (u * p) (l + m) = Yl := ⟨_, rfl⟩
      rw [hY] at QC
      have HYL := hide hY
      simp only [Bu.cs] at QA QC QD QE QH1 QH2
      have hnn : decide (1073741824 < n) = false := by rw [decide_eq_false_iff_not]; exact hn
      have hn1 : n ≤ 1073741824 := by omega
      clear hn hok hY a1 a2 a3 a4 a5 a6 a8 a10
      have K1 := hide k1
      have K2 := hide k2
      have K3 := hide k3
      clear k1 k2 k3
      go_enter Try.func6, Try.ntmps6
      go_wp2_with fail
      rw [HL.out]
      rw [HW.out]
      refine (HCK.out _).mono ?_
      rintro e W1 ⟨rfl, hb⟩
      have HX1 := hide (HX.out.keep hb)
      have HA1 := hide (HA.out.keep hb)
      have HB1 := hide (HB.out.trans (hb.mono HB.out.size))
      clear hb HX HA HB
      obtain ⟨x0, x1, x2, x3, x4⟩ := cells5 (b := ⟨u, r, p, l, n⟩) HX1.out
      simp only at x0 x1 x2 x3 x4
      go_upto_region 4 with (fail)
      have z0 := (HA1.out.cell 0).trans (show _ = some (Value.int .u16 a) from rfl)
      have z1 := (HA1.out.cell 1).trans (show _ = some (Value.int .u16 b) from rfl)
      have hxl := HX1.out.lt
      have hal := HA1.out.lt
      go_quiet (fail)
      have HX2 := hide (HX1.out.drewN nq)
      have HB2 := hide (below_drewN HB1.out nq)
      clear HX1 HA1 HB1 x0 x1 x2 x3 x4 z0 z1 hxl hal
      generalize W1.drewN nq = W2 at *
      obtain ⟨x0, x1, x2, x3, x4⟩ := cells5 (b := ⟨u, r, p, l, n⟩) HX2.out
      simp only at x0 x1 x2 x3 x4
      have hxl := HX2.out.lt
      go_upto_region 7 with (fail)
      clear hxl
      rw [HYL.out]
      obtain ⟨gy, hgy⟩ : ∃ gy, gy = W2.heap.size := ⟨_, rfl⟩
      have HX := hide (HX2.out.alloc (.cells #[.int .i64 u, .int .i64 r, .int .i64 p, .int .i64 Yl, .int .i64 n] 23))
      have HY := hide (show BlkIs (W2.alloc (.cells #[.int .i64 u, .int .i64 r, .int .i64 p, .int .i64 Yl, .int .i64 n] 23)) gy 23 #[.int .i64 u, .int .i64 r, .int .i64 p, .int .i64 Yl, .int .i64 n] by rw [hgy]; exact BlkIs.new W2 _ _)
      have HB := hide (HB2.out.alloc HB2.out.size (.cells #[.int .i64 u, .int .i64 r, .int .i64 p, .int .i64 Yl, .int .i64 n] 23))
      clear HX2 HB2 x0 x1 x2 x3 x4
      rw [← hgy]
      clear hgy
      generalize W2.alloc (.cells #[.int .i64 u, .int .i64 r, .int .i64 p, .int .i64 Yl, .int .i64 n] 23) = W3 at *
      go_cut [11, 12] from 52 to 58 (fun s5 s6 wx => TwoB W3 wx #[.int .i64 u, .int .i64 r, .int .i64 p, .int .i64 Al, .int .i64 (n + a + b)] #[.int .i64 u, .int .i64 r, .int .i64 p, .int .i64 Cl, .int .i64 (n + a + b)] s5 s6)
      case first =>
        refine wp_region_noPanic ?_
        refine wp_region_held_drew (S := fun w' => Below W3.heap.size W3 w') (by kernel_rfl) (Below.refl _ _).drew (fun hS => ?_)
        generalize W3.drew = wd at hS  ⊢
        refine wpAnyH_take (i := 0) (by simp only [List.getElem?_toArray, List.getElem?_cons_zero] <;> exact rfl) (by kernel_rfl) (by kernel_rfl) (by kernel_rfl) (fun _ _ _ h => h) (rgs_yields_blk (by rfl) 23 (.tmp 7) (by rfl) (g + 1 + 1) (by rfl) 23 #[.int .i64 u, .int .i64 r, .int .i64 p, .int .i64 l, .int .i64 n] _ (fun w' hw' => HX.out.keep hw') Try.underlying23 rfl bu_size) hS ?_
        try simp only [Act.put, List.setIfInBounds_toArray, List.set_cons_zero, List.set_cons_succ]
        refine wpAnyH_take (i := 1) (v := ?_) (by simp only [List.getElem?_toArray, List.getElem?_cons_succ, List.getElem?_cons_zero] <;> exact rfl) (by kernel_rfl) (by kernel_rfl) (by kernel_rfl) (fun _ _ _ h => h) (Or.inl ⟨by rfl, ?_⟩) hS ?_
        rotate_left
        focus (intro w' hw'; go_simp; all_goals with_reducible rfl)
        try simp only [Act.put, List.setIfInBounds_toArray, List.set_cons_zero, List.set_cons_succ]
        refine wpAnyH_take (i := 3) (by simp only [List.getElem?_toArray, List.getElem?_cons_succ, List.getElem?_cons_zero] <;> exact rfl) (by kernel_rfl) (by kernel_rfl) (by kernel_rfl) (fun _ _ _ h => h) (rgs_yields_blk (by rfl) 23 (.tmp 10) (by rfl) gy (by rfl) 23 #[.int .i64 u, .int .i64 r, .int .i64 p, .int .i64 Yl, .int .i64 n] _ (fun w' hw' => HY.out.keep hw') Try.underlying23 rfl bu_size) hS ?_
        try simp only [Act.put, List.setIfInBounds_toArray, List.set_cons_zero, List.set_cons_succ]
        refine wpAnyH_take (i := 4) (v := ?_) (by simp only [List.getElem?_toArray, List.getElem?_cons_succ, List.getElem?_cons_zero] <;> exact rfl) (by kernel_rfl) (by kernel_rfl) (by kernel_rfl) (fun _ _ _ h => h) (Or.inl ⟨by rfl, ?_⟩) hS ?_
        rotate_left
        focus (intro w' hw'; go_simp; all_goals with_reducible rfl)
        try simp only [Act.put, List.setIfInBounds_toArray, List.set_cons_zero, List.set_cons_succ]
        refine wpAnyH_ready (rs := [2, 6, 7]) (by kernel_rfl) (by simp) ?_
        refine AllReadyH.cons (o := _) (by simp only [List.getElem?_toArray, List.getElem?_cons_succ, List.getElem?_cons_zero] <;> exact rfl) (fun K hK => ?_) ?_
        focus (
          go_simp
          go_at_call 14
          refine (QA.out _).mono ?_
          rintro e wr1 ⟨rfl, hb⟩
          have hS := hS.trans (hb.mono hS.size)
          clear hb
          go_wp2_with fail
          refine hK.out _ _ hS (fun _ => ?_)
          clear hK K
          try simp only [Act.put, List.setIfInBounds_toArray, List.set_cons_zero, List.set_cons_succ]
          refine wpAnyH_ready (rs := [5, 6, 7]) (by kernel_rfl) (by simp) ?_
          refine AllReadyH.cons (o := _) (by simp only [List.getElem?_toArray, List.getElem?_cons_succ, List.getElem?_cons_zero] <;> exact rfl) (fun K hK => ?_) ?_
          focus (
            go_simp
            go_at_call 14
            refine (QC.out _).mono ?_
            rintro e wr2 ⟨rfl, hb⟩
            have hS := hS.trans (hb.mono hS.size)
            clear hb
            go_wp2_with fail
            refine hK.out _ _ hS (fun _ => ?_)
            clear hK K
            try simp only [Act.put, List.setIfInBounds_toArray, List.set_cons_zero, List.set_cons_succ]
            refine wpAnyH_ready (rs := [6, 7]) (by kernel_rfl) (by simp) ?_
            refine AllReadyH.cons (o := _) (by simp only [List.getElem?_toArray, List.getElem?_cons_succ, List.getElem?_cons_zero] <;> exact rfl) (fun K hK => ?_) ?_
            focus (
              go_simp
              have hz3 := hS.size
              have hS := hS.alloc hS.size (.cells #[.int .i64 0, .int .i64 0, .int .i64 0, .int .i64 0, .int .i64 0] 23)
              refine hK.out _ _ hS (fun _ => ?_)
              have Ex3 := BlkIs.new wr2 23 #[.int .i64 0, .int .i64 0, .int .i64 0, .int .i64 0, .int .i64 0]
              obtain ⟨x, hx⟩ : ∃ g, g = wr2.heap.size := ⟨_, rfl⟩
              have Mx : W3.heap.size ≤ x := by rw [hx]; exact hz3
              rw [← hx] at Ex3 ⊢
              generalize wr2.alloc (.cells #[.int .i64 0, .int .i64 0, .int .i64 0, .int .i64 0, .int .i64 0] 23) = wa3 at hS Ex3 ⊢
              clear hx hz3
              clear hK K
              try simp only [Act.put, List.setIfInBounds_toArray, List.set_cons_zero, List.set_cons_succ]
              refine wpAnyH_ready (rs := [7]) (by kernel_rfl) (by simp) ?_
              refine AllReadyH.cons (o := _) (by simp only [List.getElem?_toArray, List.getElem?_cons_succ, List.getElem?_cons_zero] <;> exact rfl) (fun K hK => ?_) ?_
              focus (
                go_simp
                have hz4 := hS.size
                have hS := hS.alloc hS.size (.cells #[.int .i64 0, .int .i64 0, .int .i64 0, .int .i64 0, .int .i64 0] 23)
                refine hK.out _ _ hS (fun _ => ?_)
                have Ex4 := Ex3.alloc (.cells #[.int .i64 0, .int .i64 0, .int .i64 0, .int .i64 0, .int .i64 0] 23)
                have Ey4 := BlkIs.new wa3 23 #[.int .i64 0, .int .i64 0, .int .i64 0, .int .i64 0, .int .i64 0]
                obtain ⟨y, hy⟩ : ∃ g, g = wa3.heap.size := ⟨_, rfl⟩
                have My : W3.heap.size ≤ y := by rw [hy]; exact hz4
                rw [← hy] at Ey4 ⊢
                have Nxy : x ≠ y := by have := Ex3.lt; omega
                have Nyx : y ≠ x := by have := Ex3.lt; omega
                generalize wa3.alloc (.cells #[.int .i64 0, .int .i64 0, .int .i64 0, .int .i64 0, .int .i64 0] 23) = wa4 at hS Ex4 Ey4 ⊢
                clear hy hz4
                clear hK K
                try simp only [Act.put, List.setIfInBounds_toArray, List.set_cons_zero, List.set_cons_succ]
                refine wpAnyH_ready (rs := [8]) (by kernel_rfl) (by simp) ?_
                refine AllReadyH.cons (o := _) (by simp only [List.getElem?_toArray, List.getElem?_cons_succ, List.getElem?_cons_zero] <;> exact rfl) (fun K hK => ?_) ?_
                focus (
                  refine rgs_store_blk (by rfl) 23 (.tmp 11) (.tmp 54) (by rfl) x #[.int .i64 u, .int .i64 r, .int .i64 p, .int .i64 Al, .int .i64 (n + a + b)] #[.int .i64 0, .int .i64 0, .int .i64 0, .int .i64 0, .int .i64 0] 23 (by rfl) (by rfl) Ex4 bu_size rfl (by simp [Value.oneCell']) ?_
                  have hS := below_setRow hS Mx #[.int .i64 u, .int .i64 r, .int .i64 p, .int .i64 Al, .int .i64 (n + a + b)]
                  have Ex5 := Ex4.row #[.int .i64 u, .int .i64 r, .int .i64 p, .int .i64 Al, .int .i64 (n + a + b)]
                  have Ey5 := Ey4.row_other Nyx #[.int .i64 u, .int .i64 r, .int .i64 p, .int .i64 Al, .int .i64 (n + a + b)]
                  refine hK.out _ _ hS (fun _ => ?_)
                  generalize wa4.setRow x #[.int .i64 u, .int .i64 r, .int .i64 p, .int .i64 Al, .int .i64 (n + a + b)] = ws5 at hS Ex5 Ey5 ⊢
                  clear hK K
                  try simp only [Act.put, List.setIfInBounds_toArray, List.set_cons_zero, List.set_cons_succ]
                  refine wpAnyH_ready (rs := [9]) (by kernel_rfl) (by simp) ?_
                  refine AllReadyH.cons (o := _) (by simp only [List.getElem?_toArray, List.getElem?_cons_succ, List.getElem?_cons_zero] <;> exact rfl) (fun K hK => ?_) ?_
                  focus (
                    refine rgs_store_blk (by rfl) 23 (.tmp 12) (.tmp 57) (by rfl) y #[.int .i64 u, .int .i64 r, .int .i64 p, .int .i64 Cl, .int .i64 (n + a + b)] #[.int .i64 0, .int .i64 0, .int .i64 0, .int .i64 0, .int .i64 0] 23 (by rfl) (by rfl) Ey5 bu_size rfl (by simp [Value.oneCell']) ?_
                    have hS := below_setRow hS My #[.int .i64 u, .int .i64 r, .int .i64 p, .int .i64 Cl, .int .i64 (n + a + b)]
                    have Ex6 := Ex5.row_other Nxy #[.int .i64 u, .int .i64 r, .int .i64 p, .int .i64 Cl, .int .i64 (n + a + b)]
                    have Ey6 := Ey5.row #[.int .i64 u, .int .i64 r, .int .i64 p, .int .i64 Cl, .int .i64 (n + a + b)]
                    refine hK.out _ _ hS (fun _ => ?_)
                    generalize ws5.setRow y #[.int .i64 u, .int .i64 r, .int .i64 p, .int .i64 Cl, .int .i64 (n + a + b)] = ws6 at hS Ex6 Ey6 ⊢
                    clear hK K
                    try simp only [Act.put, List.setIfInBounds_toArray, List.set_cons_zero, List.set_cons_succ]
                    refine wpAnyH_done (by kernel_rfl) ?_ _
                    refine NoPanic.normal ?_
                    go_wp2_with fail
                    go_meet
                    exact ⟨x, y, rfl, rfl, Ex6, Ey6, hS⟩)
                  exact AllReadyH.nil)
                exact AllReadyH.nil)
              exact AllReadyH.nil)
            refine AllReadyH.cons (o := _) (by simp only [List.getElem?_toArray, List.getElem?_cons_succ, List.getElem?_cons_zero] <;> exact rfl) (fun K hK => ?_) ?_
            focus (
              go_simp
              have hz7 := hS.size
              have hS := hS.alloc hS.size (.cells #[.int .i64 0, .int .i64 0, .int .i64 0, .int .i64 0, .int .i64 0] 23)
              refine hK.out _ _ hS (fun _ => ?_)
              have Ey7 := BlkIs.new wr2 23 #[.int .i64 0, .int .i64 0, .int .i64 0, .int .i64 0, .int .i64 0]
              obtain ⟨y, hy⟩ : ∃ g, g = wr2.heap.size := ⟨_, rfl⟩
              have My : W3.heap.size ≤ y := by rw [hy]; exact hz7
              rw [← hy] at Ey7 ⊢
              generalize wr2.alloc (.cells #[.int .i64 0, .int .i64 0, .int .i64 0, .int .i64 0, .int .i64 0] 23) = wa7 at hS Ey7 ⊢
              clear hy hz7
              clear hK K
              try simp only [Act.put, List.setIfInBounds_toArray, List.set_cons_zero, List.set_cons_succ]
              refine wpAnyH_ready (rs := [6]) (by kernel_rfl) (by simp) ?_
              refine AllReadyH.cons (o := _) (by simp only [List.getElem?_toArray, List.getElem?_cons_succ, List.getElem?_cons_zero] <;> exact rfl) (fun K hK => ?_) ?_
              focus (
                go_simp
                have hz8 := hS.size
                have hS := hS.alloc hS.size (.cells #[.int .i64 0, .int .i64 0, .int .i64 0, .int .i64 0, .int .i64 0] 23)
                refine hK.out _ _ hS (fun _ => ?_)
                have Ey8 := Ey7.alloc (.cells #[.int .i64 0, .int .i64 0, .int .i64 0, .int .i64 0, .int .i64 0] 23)
                have Ex8 := BlkIs.new wa7 23 #[.int .i64 0, .int .i64 0, .int .i64 0, .int .i64 0, .int .i64 0]
                obtain ⟨x, hx⟩ : ∃ g, g = wa7.heap.size := ⟨_, rfl⟩
                have Mx : W3.heap.size ≤ x := by rw [hx]; exact hz8
                rw [← hx] at Ex8 ⊢
                have Nyx : y ≠ x := by have := Ey7.lt; omega
                have Nxy : x ≠ y := by have := Ey7.lt; omega
                generalize wa7.alloc (.cells #[.int .i64 0, .int .i64 0, .int .i64 0, .int .i64 0, .int .i64 0] 23) = wa8 at hS Ex8 Ey8 ⊢
                clear hx hz8
                clear hK K
                try simp only [Act.put, List.setIfInBounds_toArray, List.set_cons_zero, List.set_cons_succ]
                refine wpAnyH_ready (rs := [8]) (by kernel_rfl) (by simp) ?_
                refine AllReadyH.cons (o := _) (by simp only [List.getElem?_toArray, List.getElem?_cons_succ, List.getElem?_cons_zero] <;> exact rfl) (fun K hK => ?_) ?_
                focus (
                  refine rgs_store_blk (by rfl) 23 (.tmp 11) (.tmp 54) (by rfl) x #[.int .i64 u, .int .i64 r, .int .i64 p, .int .i64 Al, .int .i64 (n + a + b)] #[.int .i64 0, .int .i64 0, .int .i64 0, .int .i64 0, .int .i64 0] 23 (by rfl) (by rfl) Ex8 bu_size rfl (by simp [Value.oneCell']) ?_
                  have hS := below_setRow hS Mx #[.int .i64 u, .int .i64 r, .int .i64 p, .int .i64 Al, .int .i64 (n + a + b)]
                  have Ex9 := Ex8.row #[.int .i64 u, .int .i64 r, .int .i64 p, .int .i64 Al, .int .i64 (n + a + b)]
                  have Ey9 := Ey8.row_other Nyx #[.int .i64 u, .int .i64 r, .int .i64 p, .int .i64 Al, .int .i64 (n + a + b)]
                  refine hK.out _ _ hS (fun _ => ?_)
                  generalize wa8.setRow x #[.int .i64 u, .int .i64 r, .int .i64 p, .int .i64 Al, .int .i64 (n + a + b)] = ws9 at hS Ex9 Ey9 ⊢
                  clear hK K
                  try simp only [Act.put, List.setIfInBounds_toArray, List.set_cons_zero, List.set_cons_succ]
                  refine wpAnyH_ready (rs := [9]) (by kernel_rfl) (by simp) ?_
                  refine AllReadyH.cons (o := _) (by simp only [List.getElem?_toArray, List.getElem?_cons_succ, List.getElem?_cons_zero] <;> exact rfl) (fun K hK => ?_) ?_
                  focus (
                    refine rgs_store_blk (by rfl) 23 (.tmp 12) (.tmp 57) (by rfl) y #[.int .i64 u, .int .i64 r, .int .i64 p, .int .i64 Cl, .int .i64 (n + a + b)] #[.int .i64 0, .int .i64 0, .int .i64 0, .int .i64 0, .int .i64 0] 23 (by rfl) (by rfl) Ey9 bu_size rfl (by simp [Value.oneCell']) ?_
                    have hS := below_setRow hS My #[.int .i64 u, .int .i64 r, .int .i64 p, .int .i64 Cl, .int .i64 (n + a + b)]
                    have Ex10 := Ex9.row_other Nxy #[.int .i64 u, .int .i64 r, .int .i64 p, .int .i64 Cl, .int .i64 (n + a + b)]
                    have Ey10 := Ey9.row #[.int .i64 u, .int .i64 r, .int .i64 p, .int .i64 Cl, .int .i64 (n + a + b)]
                    refine hK.out _ _ hS (fun _ => ?_)
                    generalize ws9.setRow y #[.int .i64 u, .int .i64 r, .int .i64 p, .int .i64 Cl, .int .i64 (n + a + b)] = ws10 at hS Ex10 Ey10 ⊢
                    clear hK K
                    try simp only [Act.put, List.setIfInBounds_toArray, List.set_cons_zero, List.set_cons_succ]
                    refine wpAnyH_done (by kernel_rfl) ?_ _
                    refine NoPanic.normal ?_
                    go_wp2_with fail
                    go_meet
                    exact ⟨x, y, rfl, rfl, Ex10, Ey10, hS⟩)
                  exact AllReadyH.nil)
                exact AllReadyH.nil)
              exact AllReadyH.nil)
            exact AllReadyH.nil)
          refine AllReadyH.cons (o := _) (by simp only [List.getElem?_toArray, List.getElem?_cons_succ, List.getElem?_cons_zero] <;> exact rfl) (fun K hK => ?_) ?_
          focus (
            go_simp
            have hz11 := hS.size
            have hS := hS.alloc hS.size (.cells #[.int .i64 0, .int .i64 0, .int .i64 0, .int .i64 0, .int .i64 0] 23)
            refine hK.out _ _ hS (fun _ => ?_)
            have Ex11 := BlkIs.new wr1 23 #[.int .i64 0, .int .i64 0, .int .i64 0, .int .i64 0, .int .i64 0]
            obtain ⟨x, hx⟩ : ∃ g, g = wr1.heap.size := ⟨_, rfl⟩
            have Mx : W3.heap.size ≤ x := by rw [hx]; exact hz11
            rw [← hx] at Ex11 ⊢
            generalize wr1.alloc (.cells #[.int .i64 0, .int .i64 0, .int .i64 0, .int .i64 0, .int .i64 0] 23) = wa11 at hS Ex11 ⊢
            clear hx hz11
            clear hK K
            try simp only [Act.put, List.setIfInBounds_toArray, List.set_cons_zero, List.set_cons_succ]
            refine wpAnyH_ready (rs := [5, 7]) (by kernel_rfl) (by simp) ?_
            refine AllReadyH.cons (o := _) (by simp only [List.getElem?_toArray, List.getElem?_cons_succ, List.getElem?_cons_zero] <;> exact rfl) (fun K hK => ?_) ?_
            focus (
              go_simp
              go_at_call 14
              refine (QC.out _).mono ?_
              rintro e wr12 ⟨rfl, hb⟩
              have hS := hS.trans (hb.mono hS.size)
              have Ex12 := Ex11.keep hb
              clear hb
              go_wp2_with fail
              refine hK.out _ _ hS (fun _ => ?_)
              clear hK K
              try simp only [Act.put, List.setIfInBounds_toArray, List.set_cons_zero, List.set_cons_succ]
              refine wpAnyH_ready (rs := [7]) (by kernel_rfl) (by simp) ?_
              refine AllReadyH.cons (o := _) (by simp only [List.getElem?_toArray, List.getElem?_cons_succ, List.getElem?_cons_zero] <;> exact rfl) (fun K hK => ?_) ?_
              focus (
                go_simp
                have hz13 := hS.size
                have hS := hS.alloc hS.size (.cells #[.int .i64 0, .int .i64 0, .int .i64 0, .int .i64 0, .int .i64 0] 23)
                refine hK.out _ _ hS (fun _ => ?_)
                have Ex13 := Ex12.alloc (.cells #[.int .i64 0, .int .i64 0, .int .i64 0, .int .i64 0, .int .i64 0] 23)
                have Ey13 := BlkIs.new wr12 23 #[.int .i64 0, .int .i64 0, .int .i64 0, .int .i64 0, .int .i64 0]
                obtain ⟨y, hy⟩ : ∃ g, g = wr12.heap.size := ⟨_, rfl⟩
                have My : W3.heap.size ≤ y := by rw [hy]; exact hz13
                rw [← hy] at Ey13 ⊢
                have Nxy : x ≠ y := by have := Ex12.lt; omega
                have Nyx : y ≠ x := by have := Ex12.lt; omega
                generalize wr12.alloc (.cells #[.int .i64 0, .int .i64 0, .int .i64 0, .int .i64 0, .int .i64 0] 23) = wa13 at hS Ex13 Ey13 ⊢
                clear hy hz13
                clear hK K
                try simp only [Act.put, List.setIfInBounds_toArray, List.set_cons_zero, List.set_cons_succ]
                refine wpAnyH_ready (rs := [8]) (by kernel_rfl) (by simp) ?_
                refine AllReadyH.cons (o := _) (by simp only [List.getElem?_toArray, List.getElem?_cons_succ, List.getElem?_cons_zero] <;> exact rfl) (fun K hK => ?_) ?_
                focus (
                  refine rgs_store_blk (by rfl) 23 (.tmp 11) (.tmp 54) (by rfl) x #[.int .i64 u, .int .i64 r, .int .i64 p, .int .i64 Al, .int .i64 (n + a + b)] #[.int .i64 0, .int .i64 0, .int .i64 0, .int .i64 0, .int .i64 0] 23 (by rfl) (by rfl) Ex13 bu_size rfl (by simp [Value.oneCell']) ?_
                  have hS := below_setRow hS Mx #[.int .i64 u, .int .i64 r, .int .i64 p, .int .i64 Al, .int .i64 (n + a + b)]
                  have Ex14 := Ex13.row #[.int .i64 u, .int .i64 r, .int .i64 p, .int .i64 Al, .int .i64 (n + a + b)]
                  have Ey14 := Ey13.row_other Nyx #[.int .i64 u, .int .i64 r, .int .i64 p, .int .i64 Al, .int .i64 (n + a + b)]
                  refine hK.out _ _ hS (fun _ => ?_)
                  generalize wa13.setRow x #[.int .i64 u, .int .i64 r, .int .i64 p, .int .i64 Al, .int .i64 (n + a + b)] = ws14 at hS Ex14 Ey14 ⊢
                  clear hK K
                  try simp only [Act.put, List.setIfInBounds_toArray, List.set_cons_zero, List.set_cons_succ]
                  refine wpAnyH_ready (rs := [9]) (by kernel_rfl) (by simp) ?_
                  refine AllReadyH.cons (o := _) (by simp only [List.getElem?_toArray, List.getElem?_cons_succ, List.getElem?_cons_zero] <;> exact rfl) (fun K hK => ?_) ?_
                  focus (
                    refine rgs_store_blk (by rfl) 23 (.tmp 12) (.tmp 57) (by rfl) y #[.int .i64 u, .int .i64 r, .int .i64 p, .int .i64 Cl, .int .i64 (n + a + b)] #[.int .i64 0, .int .i64 0, .int .i64 0, .int .i64 0, .int .i64 0] 23 (by rfl) (by rfl) Ey14 bu_size rfl (by simp [Value.oneCell']) ?_
                    have hS := below_setRow hS My #[.int .i64 u, .int .i64 r, .int .i64 p, .int .i64 Cl, .int .i64 (n + a + b)]
                    have Ex15 := Ex14.row_other Nxy #[.int .i64 u, .int .i64 r, .int .i64 p, .int .i64 Cl, .int .i64 (n + a + b)]
                    have Ey15 := Ey14.row #[.int .i64 u, .int .i64 r, .int .i64 p, .int .i64 Cl, .int .i64 (n + a + b)]
                    refine hK.out _ _ hS (fun _ => ?_)
                    generalize ws14.setRow y #[.int .i64 u, .int .i64 r, .int .i64 p, .int .i64 Cl, .int .i64 (n + a + b)] = ws15 at hS Ex15 Ey15 ⊢
                    clear hK K
                    try simp only [Act.put, List.setIfInBounds_toArray, List.set_cons_zero, List.set_cons_succ]
                    refine wpAnyH_done (by kernel_rfl) ?_ _
                    refine NoPanic.normal ?_
                    go_wp2_with fail
                    go_meet
                    exact ⟨x, y, rfl, rfl, Ex15, Ey15, hS⟩)
                  exact AllReadyH.nil)
                exact AllReadyH.nil)
              exact AllReadyH.nil)
            refine AllReadyH.cons (o := _) (by simp only [List.getElem?_toArray, List.getElem?_cons_succ, List.getElem?_cons_zero] <;> exact rfl) (fun K hK => ?_) ?_
            focus (
              go_simp
              have hz16 := hS.size
              have hS := hS.alloc hS.size (.cells #[.int .i64 0, .int .i64 0, .int .i64 0, .int .i64 0, .int .i64 0] 23)
              refine hK.out _ _ hS (fun _ => ?_)
              have Ex16 := Ex11.alloc (.cells #[.int .i64 0, .int .i64 0, .int .i64 0, .int .i64 0, .int .i64 0] 23)
              have Ey16 := BlkIs.new wa11 23 #[.int .i64 0, .int .i64 0, .int .i64 0, .int .i64 0, .int .i64 0]
              obtain ⟨y, hy⟩ : ∃ g, g = wa11.heap.size := ⟨_, rfl⟩
              have My : W3.heap.size ≤ y := by rw [hy]; exact hz16
              rw [← hy] at Ey16 ⊢
              have Nxy : x ≠ y := by have := Ex11.lt; omega
              have Nyx : y ≠ x := by have := Ex11.lt; omega
              generalize wa11.alloc (.cells #[.int .i64 0, .int .i64 0, .int .i64 0, .int .i64 0, .int .i64 0] 23) = wa16 at hS Ex16 Ey16 ⊢
              clear hy hz16
              clear hK K
              try simp only [Act.put, List.setIfInBounds_toArray, List.set_cons_zero, List.set_cons_succ]
              refine wpAnyH_ready (rs := [5]) (by kernel_rfl) (by simp) ?_
              refine AllReadyH.cons (o := _) (by simp only [List.getElem?_toArray, List.getElem?_cons_succ, List.getElem?_cons_zero] <;> exact rfl) (fun K hK => ?_) ?_
              focus (
                go_simp
                go_at_call 14
                refine (QC.out _).mono ?_
                rintro e wr17 ⟨rfl, hb⟩
                have hS := hS.trans (hb.mono hS.size)
                have Ex17 := Ex16.keep hb
                have Ey17 := Ey16.keep hb
                clear hb
                go_wp2_with fail
                refine hK.out _ _ hS (fun _ => ?_)
                clear hK K
                try simp only [Act.put, List.setIfInBounds_toArray, List.set_cons_zero, List.set_cons_succ]
                refine wpAnyH_ready (rs := [8]) (by kernel_rfl) (by simp) ?_
                refine AllReadyH.cons (o := _) (by simp only [List.getElem?_toArray, List.getElem?_cons_succ, List.getElem?_cons_zero] <;> exact rfl) (fun K hK => ?_) ?_
                focus (
                  refine rgs_store_blk (by rfl) 23 (.tmp 11) (.tmp 54) (by rfl) x #[.int .i64 u, .int .i64 r, .int .i64 p, .int .i64 Al, .int .i64 (n + a + b)] #[.int .i64 0, .int .i64 0, .int .i64 0, .int .i64 0, .int .i64 0] 23 (by rfl) (by rfl) Ex17 bu_size rfl (by simp [Value.oneCell']) ?_
                  have hS := below_setRow hS Mx #[.int .i64 u, .int .i64 r, .int .i64 p, .int .i64 Al, .int .i64 (n + a + b)]
                  have Ex18 := Ex17.row #[.int .i64 u, .int .i64 r, .int .i64 p, .int .i64 Al, .int .i64 (n + a + b)]
                  have Ey18 := Ey17.row_other Nyx #[.int .i64 u, .int .i64 r, .int .i64 p, .int .i64 Al, .int .i64 (n + a + b)]
                  refine hK.out _ _ hS (fun _ => ?_)
                  generalize wr17.setRow x #[.int .i64 u, .int .i64 r, .int .i64 p, .int .i64 Al, .int .i64 (n + a + b)] = ws18 at hS Ex18 Ey18 ⊢
                  clear hK K
                  try simp only [Act.put, List.setIfInBounds_toArray, List.set_cons_zero, List.set_cons_succ]
                  refine wpAnyH_ready (rs := [9]) (by kernel_rfl) (by simp) ?_
                  refine AllReadyH.cons (o := _) (by simp only [List.getElem?_toArray, List.getElem?_cons_succ, List.getElem?_cons_zero] <;> exact rfl) (fun K hK => ?_) ?_
                  focus (
                    refine rgs_store_blk (by rfl) 23 (.tmp 12) (.tmp 57) (by rfl) y #[.int .i64 u, .int .i64 r, .int .i64 p, .int .i64 Cl, .int .i64 (n + a + b)] #[.int .i64 0, .int .i64 0, .int .i64 0, .int .i64 0, .int .i64 0] 23 (by rfl) (by rfl) Ey18 bu_size rfl (by simp [Value.oneCell']) ?_
                    have hS := below_setRow hS My #[.int .i64 u, .int .i64 r, .int .i64 p, .int .i64 Cl, .int .i64 (n + a + b)]
                    have Ex19 := Ex18.row_other Nxy #[.int .i64 u, .int .i64 r, .int .i64 p, .int .i64 Cl, .int .i64 (n + a + b)]
                    have Ey19 := Ey18.row #[.int .i64 u, .int .i64 r, .int .i64 p, .int .i64 Cl, .int .i64 (n + a + b)]
                    refine hK.out _ _ hS (fun _ => ?_)
                    generalize ws18.setRow y #[.int .i64 u, .int .i64 r, .int .i64 p, .int .i64 Cl, .int .i64 (n + a + b)] = ws19 at hS Ex19 Ey19 ⊢
                    clear hK K
                    try simp only [Act.put, List.setIfInBounds_toArray, List.set_cons_zero, List.set_cons_succ]
                    refine wpAnyH_done (by kernel_rfl) ?_ _
                    refine NoPanic.normal ?_
                    go_wp2_with fail
                    go_meet
                    exact ⟨x, y, rfl, rfl, Ex19, Ey19, hS⟩)
                  exact AllReadyH.nil)
                exact AllReadyH.nil)
              exact AllReadyH.nil)
            exact AllReadyH.nil)
          refine AllReadyH.cons (o := _) (by simp only [List.getElem?_toArray, List.getElem?_cons_succ, List.getElem?_cons_zero] <;> exact rfl) (fun K hK => ?_) ?_
          focus (
            go_simp
            have hz20 := hS.size
            have hS := hS.alloc hS.size (.cells #[.int .i64 0, .int .i64 0, .int .i64 0, .int .i64 0, .int .i64 0] 23)
            refine hK.out _ _ hS (fun _ => ?_)
            have Ey20 := BlkIs.new wr1 23 #[.int .i64 0, .int .i64 0, .int .i64 0, .int .i64 0, .int .i64 0]
            obtain ⟨y, hy⟩ : ∃ g, g = wr1.heap.size := ⟨_, rfl⟩
            have My : W3.heap.size ≤ y := by rw [hy]; exact hz20
            rw [← hy] at Ey20 ⊢
            generalize wr1.alloc (.cells #[.int .i64 0, .int .i64 0, .int .i64 0, .int .i64 0, .int .i64 0] 23) = wa20 at hS Ey20 ⊢
            clear hy hz20
            clear hK K
            try simp only [Act.put, List.setIfInBounds_toArray, List.set_cons_zero, List.set_cons_succ]
            refine wpAnyH_ready (rs := [5, 6]) (by kernel_rfl) (by simp) ?_
            refine AllReadyH.cons (o := _) (by simp only [List.getElem?_toArray, List.getElem?_cons_succ, List.getElem?_cons_zero] <;> exact rfl) (fun K hK => ?_) ?_
            focus (
              go_simp
              go_at_call 14
              refine (QC.out _).mono ?_
              rintro e wr21 ⟨rfl, hb⟩
              have hS := hS.trans (hb.mono hS.size)
              have Ey21 := Ey20.keep hb
              clear hb
              go_wp2_with fail
              refine hK.out _ _ hS (fun _ => ?_)
              clear hK K
              try simp only [Act.put, List.setIfInBounds_toArray, List.set_cons_zero, List.set_cons_succ]
              refine wpAnyH_ready (rs := [6]) (by kernel_rfl) (by simp) ?_
              refine AllReadyH.cons (o := _) (by simp only [List.getElem?_toArray, List.getElem?_cons_succ, List.getElem?_cons_zero] <;> exact rfl) (fun K hK => ?_) ?_
              focus (
                go_simp
                have hz22 := hS.size
                have hS := hS.alloc hS.size (.cells #[.int .i64 0, .int .i64 0, .int .i64 0, .int .i64 0, .int .i64 0] 23)
                refine hK.out _ _ hS (fun _ => ?_)
                have Ey22 := Ey21.alloc (.cells #[.int .i64 0, .int .i64 0, .int .i64 0, .int .i64 0, .int .i64 0] 23)
                have Ex22 := BlkIs.new wr21 23 #[.int .i64 0, .int .i64 0, .int .i64 0, .int .i64 0, .int .i64 0]
                obtain ⟨x, hx⟩ : ∃ g, g = wr21.heap.size := ⟨_, rfl⟩
                have Mx : W3.heap.size ≤ x := by rw [hx]; exact hz22
                rw [← hx] at Ex22 ⊢
                have Nyx : y ≠ x := by have := Ey21.lt; omega
                have Nxy : x ≠ y := by have := Ey21.lt; omega
                generalize wr21.alloc (.cells #[.int .i64 0, .int .i64 0, .int .i64 0, .int .i64 0, .int .i64 0] 23) = wa22 at hS Ex22 Ey22 ⊢
                clear hx hz22
                clear hK K
                try simp only [Act.put, List.setIfInBounds_toArray, List.set_cons_zero, List.set_cons_succ]
                refine wpAnyH_ready (rs := [8]) (by kernel_rfl) (by simp) ?_
                refine AllReadyH.cons (o := _) (by simp only [List.getElem?_toArray, List.getElem?_cons_succ, List.getElem?_cons_zero] <;> exact rfl) (fun K hK => ?_) ?_
                focus (
                  refine rgs_store_blk (by rfl) 23 (.tmp 11) (.tmp 54) (by rfl) x #[.int .i64 u, .int .i64 r, .int .i64 p, .int .i64 Al, .int .i64 (n + a + b)] #[.int .i64 0, .int .i64 0, .int .i64 0, .int .i64 0, .int .i64 0] 23 (by rfl) (by rfl) Ex22 bu_size rfl (by simp [Value.oneCell']) ?_
                  have hS := below_setRow hS Mx #[.int .i64 u, .int .i64 r, .int .i64 p, .int .i64 Al, .int .i64 (n + a + b)]
                  have Ex23 := Ex22.row #[.int .i64 u, .int .i64 r, .int .i64 p, .int .i64 Al, .int .i64 (n + a + b)]
                  have Ey23 := Ey22.row_other Nyx #[.int .i64 u, .int .i64 r, .int .i64 p, .int .i64 Al, .int .i64 (n + a + b)]
                  refine hK.out _ _ hS (fun _ => ?_)
                  generalize wa22.setRow x #[.int .i64 u, .int .i64 r, .int .i64 p, .int .i64 Al, .int .i64 (n + a + b)] = ws23 at hS Ex23 Ey23 ⊢
                  clear hK K
                  try simp only [Act.put, List.setIfInBounds_toArray, List.set_cons_zero, List.set_cons_succ]
                  refine wpAnyH_ready (rs := [9]) (by kernel_rfl) (by simp) ?_
                  refine AllReadyH.cons (o := _) (by simp only [List.getElem?_toArray, List.getElem?_cons_succ, List.getElem?_cons_zero] <;> exact rfl) (fun K hK => ?_) ?_
                  focus (
                    refine rgs_store_blk (by rfl) 23 (.tmp 12) (.tmp 57) (by rfl) y #[.int .i64 u, .int .i64 r, .int .i64 p, .int .i64 Cl, .int .i64 (n + a + b)] #[.int .i64 0, .int .i64 0, .int .i64 0, .int .i64 0, .int .i64 0] 23 (by rfl) (by rfl) Ey23 bu_size rfl (by simp [Value.oneCell']) ?_
                    have hS := below_setRow hS My #[.int .i64 u, .int .i64 r, .int .i64 p, .int .i64 Cl, .int .i64 (n + a + b)]
                    have Ex24 := Ex23.row_other Nxy #[.int .i64 u, .int .i64 r, .int .i64 p, .int .i64 Cl, .int .i64 (n + a + b)]
                    have Ey24 := Ey23.row #[.int .i64 u, .int .i64 r, .int .i64 p, .int .i64 Cl, .int .i64 (n + a + b)]
                    refine hK.out _ _ hS (fun _ => ?_)
                    generalize ws23.setRow y #[.int .i64 u, .int .i64 r, .int .i64 p, .int .i64 Cl, .int .i64 (n + a + b)] = ws24 at hS Ex24 Ey24 ⊢
                    clear hK K
                    try simp only [Act.put, List.setIfInBounds_toArray, List.set_cons_zero, List.set_cons_succ]
                    refine wpAnyH_done (by kernel_rfl) ?_ _
                    refine NoPanic.normal ?_
                    go_wp2_with fail
                    go_meet
                    exact ⟨x, y, rfl, rfl, Ex24, Ey24, hS⟩)
                  exact AllReadyH.nil)
                exact AllReadyH.nil)
              exact AllReadyH.nil)
            refine AllReadyH.cons (o := _) (by simp only [List.getElem?_toArray, List.getElem?_cons_succ, List.getElem?_cons_zero] <;> exact rfl) (fun K hK => ?_) ?_
            focus (
              go_simp
              have hz25 := hS.size
              have hS := hS.alloc hS.size (.cells #[.int .i64 0, .int .i64 0, .int .i64 0, .int .i64 0, .int .i64 0] 23)
              refine hK.out _ _ hS (fun _ => ?_)
              have Ey25 := Ey20.alloc (.cells #[.int .i64 0, .int .i64 0, .int .i64 0, .int .i64 0, .int .i64 0] 23)
              have Ex25 := BlkIs.new wa20 23 #[.int .i64 0, .int .i64 0, .int .i64 0, .int .i64 0, .int .i64 0]
              obtain ⟨x, hx⟩ : ∃ g, g = wa20.heap.size := ⟨_, rfl⟩
              have Mx : W3.heap.size ≤ x := by rw [hx]; exact hz25
              rw [← hx] at Ex25 ⊢
              have Nyx : y ≠ x := by have := Ey20.lt; omega
              have Nxy : x ≠ y := by have := Ey20.lt; omega
              generalize wa20.alloc (.cells #[.int .i64 0, .int .i64 0, .int .i64 0, .int .i64 0, .int .i64 0] 23) = wa25 at hS Ex25 Ey25 ⊢
              clear hx hz25
              clear hK K
              try simp only [Act.put, List.setIfInBounds_toArray, List.set_cons_zero, List.set_cons_succ]
              refine wpAnyH_ready (rs := [5]) (by kernel_rfl) (by simp) ?_
              refine AllReadyH.cons (o := _) (by simp only [List.getElem?_toArray, List.getElem?_cons_succ, List.getElem?_cons_zero] <;> exact rfl) (fun K hK => ?_) ?_
              focus (
                go_simp
                go_at_call 14
                refine (QC.out _).mono ?_
                rintro e wr26 ⟨rfl, hb⟩
                have hS := hS.trans (hb.mono hS.size)
                have Ex26 := Ex25.keep hb
                have Ey26 := Ey25.keep hb
                clear hb
                go_wp2_with fail
                refine hK.out _ _ hS (fun _ => ?_)
                clear hK K
                try simp only [Act.put, List.setIfInBounds_toArray, List.set_cons_zero, List.set_cons_succ]
                refine wpAnyH_ready (rs := [8]) (by kernel_rfl) (by simp) ?_
                refine AllReadyH.cons (o := _) (by simp only [List.getElem?_toArray, List.getElem?_cons_succ, List.getElem?_cons_zero] <;> exact rfl) (fun K hK => ?_) ?_
                focus (
                  refine rgs_store_blk (by rfl) 23 (.tmp 11) (.tmp 54) (by rfl) x #[.int .i64 u, .int .i64 r, .int .i64 p, .int .i64 Al, .int .i64 (n + a + b)] #[.int .i64 0, .int .i64 0, .int .i64 0, .int .i64 0, .int .i64 0] 23 (by rfl) (by rfl) Ex26 bu_size rfl (by simp [Value.oneCell']) ?_
                  have hS := below_setRow hS Mx #[.int .i64 u, .int .i64 r, .int .i64 p, .int .i64 Al, .int .i64 (n + a + b)]
                  have Ex27 := Ex26.row #[.int .i64 u, .int .i64 r, .int .i64 p, .int .i64 Al, .int .i64 (n + a + b)]
                  have Ey27 := Ey26.row_other Nyx #[.int .i64 u, .int .i64 r, .int .i64 p, .int .i64 Al, .int .i64 (n + a + b)]
                  refine hK.out _ _ hS (fun _ => ?_)
                  generalize wr26.setRow x #[.int .i64 u, .int .i64 r, .int .i64 p, .int .i64 Al, .int .i64 (n + a + b)] = ws27 at hS Ex27 Ey27 ⊢
                  clear hK K
                  try simp only [Act.put, List.setIfInBounds_toArray, List.set_cons_zero, List.set_cons_succ]
                  refine wpAnyH_ready (rs := [9]) (by kernel_rfl) (by simp) ?_
                  refine AllReadyH.cons (o := _) (by simp only [List.getElem?_toArray, List.getElem?_cons_succ, List.getElem?_cons_zero] <;> exact rfl) (fun K hK => ?_) ?_
                  focus (
                    refine rgs_store_blk (by rfl) 23 (.tmp 12) (.tmp 57) (by rfl) y #[.int .i64 u, .int .i64 r, .int .i64 p, .int .i64 Cl, .int .i64 (n + a + b)] #[.int .i64 0, .int .i64 0, .int .i64 0, .int .i64 0, .int .i64 0] 23 (by rfl) (by rfl) Ey27 bu_size rfl (by simp [Value.oneCell']) ?_
                    have hS := below_setRow hS My #[.int .i64 u, .int .i64 r, .int .i64 p, .int .i64 Cl, .int .i64 (n + a + b)]
                    have Ex28 := Ex27.row_other Nxy #[.int .i64 u, .int .i64 r, .int .i64 p, .int .i64 Cl, .int .i64 (n + a + b)]
                    have Ey28 := Ey27.row #[.int .i64 u, .int .i64 r, .int .i64 p, .int .i64 Cl, .int .i64 (n + a + b)]
                    refine hK.out _ _ hS (fun _ => ?_)
                    generalize ws27.setRow y #[.int .i64 u, .int .i64 r, .int .i64 p, .int .i64 Cl, .int .i64 (n + a + b)] = ws28 at hS Ex28 Ey28 ⊢
                    clear hK K
                    try simp only [Act.put, List.setIfInBounds_toArray, List.set_cons_zero, List.set_cons_succ]
                    refine wpAnyH_done (by kernel_rfl) ?_ _
                    refine NoPanic.normal ?_
                    go_wp2_with fail
                    go_meet
                    exact ⟨x, y, rfl, rfl, Ex28, Ey28, hS⟩)
                  exact AllReadyH.nil)
                exact AllReadyH.nil)
              exact AllReadyH.nil)
            exact AllReadyH.nil)
          exact AllReadyH.nil)
        refine AllReadyH.cons (o := _) (by simp only [List.getElem?_toArray, List.getElem?_cons_succ, List.getElem?_cons_zero] <;> exact rfl) (fun K hK => ?_) ?_
        focus (
          go_simp
          have hz29 := hS.size
          have hS := hS.alloc hS.size (.cells #[.int .i64 0, .int .i64 0, .int .i64 0, .int .i64 0, .int .i64 0] 23)
          refine hK.out _ _ hS (fun _ => ?_)
          have Ex29 := BlkIs.new wd 23 #[.int .i64 0, .int .i64 0, .int .i64 0, .int .i64 0, .int .i64 0]
          obtain ⟨x, hx⟩ : ∃ g, g = wd.heap.size := ⟨_, rfl⟩
          have Mx : W3.heap.size ≤ x := by rw [hx]; exact hz29
          rw [← hx] at Ex29 ⊢
          generalize wd.alloc (.cells #[.int .i64 0, .int .i64 0, .int .i64 0, .int .i64 0, .int .i64 0] 23) = wa29 at hS Ex29 ⊢
          clear hx hz29
          clear hK K
          try simp only [Act.put, List.setIfInBounds_toArray, List.set_cons_zero, List.set_cons_succ]
          refine wpAnyH_ready (rs := [2, 7]) (by kernel_rfl) (by simp) ?_
          refine AllReadyH.cons (o := _) (by simp only [List.getElem?_toArray, List.getElem?_cons_succ, List.getElem?_cons_zero] <;> exact rfl) (fun K hK => ?_) ?_
          focus (
            go_simp
            go_at_call 14
            refine (QA.out _).mono ?_
            rintro e wr30 ⟨rfl, hb⟩
            have hS := hS.trans (hb.mono hS.size)
            have Ex30 := Ex29.keep hb
            clear hb
            go_wp2_with fail
            refine hK.out _ _ hS (fun _ => ?_)
            clear hK K
            try simp only [Act.put, List.setIfInBounds_toArray, List.set_cons_zero, List.set_cons_succ]
            refine wpAnyH_ready (rs := [5, 7]) (by kernel_rfl) (by simp) ?_
            refine AllReadyH.cons (o := _) (by simp only [List.getElem?_toArray, List.getElem?_cons_succ, List.getElem?_cons_zero] <;> exact rfl) (fun K hK => ?_) ?_
            focus (
              go_simp
              go_at_call 14
              refine (QC.out _).mono ?_
              rintro e wr31 ⟨rfl, hb⟩
              have hS := hS.trans (hb.mono hS.size)
              have Ex31 := Ex30.keep hb
              clear hb
              go_wp2_with fail
              refine hK.out _ _ hS (fun _ => ?_)
              clear hK K
              try simp only [Act.put, List.setIfInBounds_toArray, List.set_cons_zero, List.set_cons_succ]
              refine wpAnyH_ready (rs := [7]) (by kernel_rfl) (by simp) ?_
              refine AllReadyH.cons (o := _) (by simp only [List.getElem?_toArray, List.getElem?_cons_succ, List.getElem?_cons_zero] <;> exact rfl) (fun K hK => ?_) ?_
              focus (
                go_simp
                have hz32 := hS.size
                have hS := hS.alloc hS.size (.cells #[.int .i64 0, .int .i64 0, .int .i64 0, .int .i64 0, .int .i64 0] 23)
                refine hK.out _ _ hS (fun _ => ?_)
                have Ex32 := Ex31.alloc (.cells #[.int .i64 0, .int .i64 0, .int .i64 0, .int .i64 0, .int .i64 0] 23)
                have Ey32 := BlkIs.new wr31 23 #[.int .i64 0, .int .i64 0, .int .i64 0, .int .i64 0, .int .i64 0]
                obtain ⟨y, hy⟩ : ∃ g, g = wr31.heap.size := ⟨_, rfl⟩
                have My : W3.heap.size ≤ y := by rw [hy]; exact hz32
                rw [← hy] at Ey32 ⊢
                have Nxy : x ≠ y := by have := Ex31.lt; omega
                have Nyx : y ≠ x := by have := Ex31.lt; omega
                generalize wr31.alloc (.cells #[.int .i64 0, .int .i64 0, .int .i64 0, .int .i64 0, .int .i64 0] 23) = wa32 at hS Ex32 Ey32 ⊢
                clear hy hz32
                clear hK K
                try simp only [Act.put, List.setIfInBounds_toArray, List.set_cons_zero, List.set_cons_succ]
                refine wpAnyH_ready (rs := [8]) (by kernel_rfl) (by simp) ?_
                refine AllReadyH.cons (o := _) (by simp only [List.getElem?_toArray, List.getElem?_cons_succ, List.getElem?_cons_zero] <;> exact rfl) (fun K hK => ?_) ?_
                focus (
                  refine rgs_store_blk (by rfl) 23 (.tmp 11) (.tmp 54) (by rfl) x #[.int .i64 u, .int .i64 r, .int .i64 p, .int .i64 Al, .int .i64 (n + a + b)] #[.int .i64 0, .int .i64 0, .int .i64 0, .int .i64 0, .int .i64 0] 23 (by rfl) (by rfl) Ex32 bu_size rfl (by simp [Value.oneCell']) ?_
                  have hS := below_setRow hS Mx #[.int .i64 u, .int .i64 r, .int .i64 p, .int .i64 Al, .int .i64 (n + a + b)]
                  have Ex33 := Ex32.row #[.int .i64 u, .int .i64 r, .int .i64 p, .int .i64 Al, .int .i64 (n + a + b)]
                  have Ey33 := Ey32.row_other Nyx #[.int .i64 u, .int .i64 r, .int .i64 p, .int .i64 Al, .int .i64 (n + a + b)]
                  refine hK.out _ _ hS (fun _ => ?_)
                  generalize wa32.setRow x #[.int .i64 u, .int .i64 r, .int .i64 p, .int .i64 Al, .int .i64 (n + a + b)] = ws33 at hS Ex33 Ey33 ⊢
                  clear hK K
                  try simp only [Act.put, List.setIfInBounds_toArray, List.set_cons_zero, List.set_cons_succ]
                  refine wpAnyH_ready (rs := [9]) (by kernel_rfl) (by simp) ?_
                  refine AllReadyH.cons (o := _) (by simp only [List.getElem?_toArray, List.getElem?_cons_succ, List.getElem?_cons_zero] <;> exact rfl) (fun K hK => ?_) ?_
                  focus (
                    refine rgs_store_blk (by rfl) 23 (.tmp 12) (.tmp 57) (by rfl) y #[.int .i64 u, .int .i64 r, .int .i64 p, .int .i64 Cl, .int .i64 (n + a + b)] #[.int .i64 0, .int .i64 0, .int .i64 0, .int .i64 0, .int .i64 0] 23 (by rfl) (by rfl) Ey33 bu_size rfl (by simp [Value.oneCell']) ?_
                    have hS := below_setRow hS My #[.int .i64 u, .int .i64 r, .int .i64 p, .int .i64 Cl, .int .i64 (n + a + b)]
                    have Ex34 := Ex33.row_other Nxy #[.int .i64 u, .int .i64 r, .int .i64 p, .int .i64 Cl, .int .i64 (n + a + b)]
                    have Ey34 := Ey33.row #[.int .i64 u, .int .i64 r, .int .i64 p, .int .i64 Cl, .int .i64 (n + a + b)]
                    refine hK.out _ _ hS (fun _ => ?_)
                    generalize ws33.setRow y #[.int .i64 u, .int .i64 r, .int .i64 p, .int .i64 Cl, .int .i64 (n + a + b)] = ws34 at hS Ex34 Ey34 ⊢
                    clear hK K
                    try simp only [Act.put, List.setIfInBounds_toArray, List.set_cons_zero, List.set_cons_succ]
                    refine wpAnyH_done (by kernel_rfl) ?_ _
                    refine NoPanic.normal ?_
                    go_wp2_with fail
                    go_meet
                    exact ⟨x, y, rfl, rfl, Ex34, Ey34, hS⟩)
                  exact AllReadyH.nil)
                exact AllReadyH.nil)
              exact AllReadyH.nil)
            refine AllReadyH.cons (o := _) (by simp only [List.getElem?_toArray, List.getElem?_cons_succ, List.getElem?_cons_zero] <;> exact rfl) (fun K hK => ?_) ?_
            focus (
              go_simp
              have hz35 := hS.size
              have hS := hS.alloc hS.size (.cells #[.int .i64 0, .int .i64 0, .int .i64 0, .int .i64 0, .int .i64 0] 23)
              refine hK.out _ _ hS (fun _ => ?_)
              have Ex35 := Ex30.alloc (.cells #[.int .i64 0, .int .i64 0, .int .i64 0, .int .i64 0, .int .i64 0] 23)
              have Ey35 := BlkIs.new wr30 23 #[.int .i64 0, .int .i64 0, .int .i64 0, .int .i64 0, .int .i64 0]
              obtain ⟨y, hy⟩ : ∃ g, g = wr30.heap.size := ⟨_, rfl⟩
              have My : W3.heap.size ≤ y := by rw [hy]; exact hz35
              rw [← hy] at Ey35 ⊢
              have Nxy : x ≠ y := by have := Ex30.lt; omega
              have Nyx : y ≠ x := by have := Ex30.lt; omega
              generalize wr30.alloc (.cells #[.int .i64 0, .int .i64 0, .int .i64 0, .int .i64 0, .int .i64 0] 23) = wa35 at hS Ex35 Ey35 ⊢
              clear hy hz35
              clear hK K
              try simp only [Act.put, List.setIfInBounds_toArray, List.set_cons_zero, List.set_cons_succ]
              refine wpAnyH_ready (rs := [5]) (by kernel_rfl) (by simp) ?_
              refine AllReadyH.cons (o := _) (by simp only [List.getElem?_toArray, List.getElem?_cons_succ, List.getElem?_cons_zero] <;> exact rfl) (fun K hK => ?_) ?_
              focus (
                go_simp
                go_at_call 14
                refine (QC.out _).mono ?_
                rintro e wr36 ⟨rfl, hb⟩
                have hS := hS.trans (hb.mono hS.size)
                have Ex36 := Ex35.keep hb
                have Ey36 := Ey35.keep hb
                clear hb
                go_wp2_with fail
                refine hK.out _ _ hS (fun _ => ?_)
                clear hK K
                try simp only [Act.put, List.setIfInBounds_toArray, List.set_cons_zero, List.set_cons_succ]
                refine wpAnyH_ready (rs := [8]) (by kernel_rfl) (by simp) ?_
                refine AllReadyH.cons (o := _) (by simp only [List.getElem?_toArray, List.getElem?_cons_succ, List.getElem?_cons_zero] <;> exact rfl) (fun K hK => ?_) ?_
                focus (
                  refine rgs_store_blk (by rfl) 23 (.tmp 11) (.tmp 54) (by rfl) x #[.int .i64 u, .int .i64 r, .int .i64 p, .int .i64 Al, .int .i64 (n + a + b)] #[.int .i64 0, .int .i64 0, .int .i64 0, .int .i64 0, .int .i64 0] 23 (by rfl) (by rfl) Ex36 bu_size rfl (by simp [Value.oneCell']) ?_
                  have hS := below_setRow hS Mx #[.int .i64 u, .int .i64 r, .int .i64 p, .int .i64 Al, .int .i64 (n + a + b)]
                  have Ex37 := Ex36.row #[.int .i64 u, .int .i64 r, .int .i64 p, .int .i64 Al, .int .i64 (n + a + b)]
                  have Ey37 := Ey36.row_other Nyx #[.int .i64 u, .int .i64 r, .int .i64 p, .int .i64 Al, .int .i64 (n + a + b)]
                  refine hK.out _ _ hS (fun _ => ?_)
                  generalize wr36.setRow x #[.int .i64 u, .int .i64 r, .int .i64 p, .int .i64 Al, .int .i64 (n + a + b)] = ws37 at hS Ex37 Ey37 ⊢
                  clear hK K
                  try simp only [Act.put, List.setIfInBounds_toArray, List.set_cons_zero, List.set_cons_succ]
                  refine wpAnyH_ready (rs := [9]) (by kernel_rfl) (by simp) ?_
                  refine AllReadyH.cons (o := _) (by simp only [List.getElem?_toArray, List.getElem?_cons_succ, List.getElem?_cons_zero] <;> exact rfl) (fun K hK => ?_) ?_
                  focus (
                    refine rgs_store_blk (by rfl) 23 (.tmp 12) (.tmp 57) (by rfl) y #[.int .i64 u, .int .i64 r, .int .i64 p, .int .i64 Cl, .int .i64 (n + a + b)] #[.int .i64 0, .int .i64 0, .int .i64 0, .int .i64 0, .int .i64 0] 23 (by rfl) (by rfl) Ey37 bu_size rfl (by simp [Value.oneCell']) ?_
                    have hS := below_setRow hS My #[.int .i64 u, .int .i64 r, .int .i64 p, .int .i64 Cl, .int .i64 (n + a + b)]
                    have Ex38 := Ex37.row_other Nxy #[.int .i64 u, .int .i64 r, .int .i64 p, .int .i64 Cl, .int .i64 (n + a + b)]
                    have Ey38 := Ey37.row #[.int .i64 u, .int .i64 r, .int .i64 p, .int .i64 Cl, .int .i64 (n + a + b)]
                    refine hK.out _ _ hS (fun _ => ?_)
                    generalize ws37.setRow y #[.int .i64 u, .int .i64 r, .int .i64 p, .int .i64 Cl, .int .i64 (n + a + b)] = ws38 at hS Ex38 Ey38 ⊢
                    clear hK K
                    try simp only [Act.put, List.setIfInBounds_toArray, List.set_cons_zero, List.set_cons_succ]
                    refine wpAnyH_done (by kernel_rfl) ?_ _
                    refine NoPanic.normal ?_
                    go_wp2_with fail
                    go_meet
                    exact ⟨x, y, rfl, rfl, Ex38, Ey38, hS⟩)
                  exact AllReadyH.nil)
                exact AllReadyH.nil)
              exact AllReadyH.nil)
            exact AllReadyH.nil)
          refine AllReadyH.cons (o := _) (by simp only [List.getElem?_toArray, List.getElem?_cons_succ, List.getElem?_cons_zero] <;> exact rfl) (fun K hK => ?_) ?_
          focus (
            go_simp
            have hz39 := hS.size
            have hS := hS.alloc hS.size (.cells #[.int .i64 0, .int .i64 0, .int .i64 0, .int .i64 0, .int .i64 0] 23)
            refine hK.out _ _ hS (fun _ => ?_)
            have Ex39 := Ex29.alloc (.cells #[.int .i64 0, .int .i64 0, .int .i64 0, .int .i64 0, .int .i64 0] 23)
            have Ey39 := BlkIs.new wa29 23 #[.int .i64 0, .int .i64 0, .int .i64 0, .int .i64 0, .int .i64 0]
            obtain ⟨y, hy⟩ : ∃ g, g = wa29.heap.size := ⟨_, rfl⟩
            have My : W3.heap.size ≤ y := by rw [hy]; exact hz39
            rw [← hy] at Ey39 ⊢
            have Nxy : x ≠ y := by have := Ex29.lt; omega
            have Nyx : y ≠ x := by have := Ex29.lt; omega
            generalize wa29.alloc (.cells #[.int .i64 0, .int .i64 0, .int .i64 0, .int .i64 0, .int .i64 0] 23) = wa39 at hS Ex39 Ey39 ⊢
            clear hy hz39
            clear hK K
            try simp only [Act.put, List.setIfInBounds_toArray, List.set_cons_zero, List.set_cons_succ]
            refine wpAnyH_ready (rs := [2]) (by kernel_rfl) (by simp) ?_
            refine AllReadyH.cons (o := _) (by simp only [List.getElem?_toArray, List.getElem?_cons_succ, List.getElem?_cons_zero] <;> exact rfl) (fun K hK => ?_) ?_
            focus (
              go_simp
              go_at_call 14
              refine (QA.out _).mono ?_
              rintro e wr40 ⟨rfl, hb⟩
              have hS := hS.trans (hb.mono hS.size)
              have Ex40 := Ex39.keep hb
              have Ey40 := Ey39.keep hb
              clear hb
              go_wp2_with fail
              refine hK.out _ _ hS (fun _ => ?_)
              clear hK K
              try simp only [Act.put, List.setIfInBounds_toArray, List.set_cons_zero, List.set_cons_succ]
              refine wpAnyH_ready (rs := [5]) (by kernel_rfl) (by simp) ?_
              refine AllReadyH.cons (o := _) (by simp only [List.getElem?_toArray, List.getElem?_cons_succ, List.getElem?_cons_zero] <;> exact rfl) (fun K hK => ?_) ?_
              focus (
                go_simp
                go_at_call 14
                refine (QC.out _).mono ?_
                rintro e wr41 ⟨rfl, hb⟩
                have hS := hS.trans (hb.mono hS.size)
                have Ex41 := Ex40.keep hb
                have Ey41 := Ey40.keep hb
                clear hb
                go_wp2_with fail
                refine hK.out _ _ hS (fun _ => ?_)
                clear hK K
                try simp only [Act.put, List.setIfInBounds_toArray, List.set_cons_zero, List.set_cons_succ]
                refine wpAnyH_ready (rs := [8]) (by kernel_rfl) (by simp) ?_
                refine AllReadyH.cons (o := _) (by simp only [List.getElem?_toArray, List.getElem?_cons_succ, List.getElem?_cons_zero] <;> exact rfl) (fun K hK => ?_) ?_
                focus (
                  refine rgs_store_blk (by rfl) 23 (.tmp 11) (.tmp 54) (by rfl) x #[.int .i64 u, .int .i64 r, .int .i64 p, .int .i64 Al, .int .i64 (n + a + b)] #[.int .i64 0, .int .i64 0, .int .i64 0, .int .i64 0, .int .i64 0] 23 (by rfl) (by rfl) Ex41 bu_size rfl (by simp [Value.oneCell']) ?_
                  have hS := below_setRow hS Mx #[.int .i64 u, .int .i64 r, .int .i64 p, .int .i64 Al, .int .i64 (n + a + b)]
                  have Ex42 := Ex41.row #[.int .i64 u, .int .i64 r, .int .i64 p, .int .i64 Al, .int .i64 (n + a + b)]
                  have Ey42 := Ey41.row_other Nyx #[.int .i64 u, .int .i64 r, .int .i64 p, .int .i64 Al, .int .i64 (n + a + b)]
                  refine hK.out _ _ hS (fun _ => ?_)
                  generalize wr41.setRow x #[.int .i64 u, .int .i64 r, .int .i64 p, .int .i64 Al, .int .i64 (n + a + b)] = ws42 at hS Ex42 Ey42 ⊢
                  clear hK K
                  try simp only [Act.put, List.setIfInBounds_toArray, List.set_cons_zero, List.set_cons_succ]
                  refine wpAnyH_ready (rs := [9]) (by kernel_rfl) (by simp) ?_
                  refine AllReadyH.cons (o := _) (by simp only [List.getElem?_toArray, List.getElem?_cons_succ, List.getElem?_cons_zero] <;> exact rfl) (fun K hK => ?_) ?_
                  focus (
                    refine rgs_store_blk (by rfl) 23 (.tmp 12) (.tmp 57) (by rfl) y #[.int .i64 u, .int .i64 r, .int .i64 p, .int .i64 Cl, .int .i64 (n + a + b)] #[.int .i64 0, .int .i64 0, .int .i64 0, .int .i64 0, .int .i64 0] 23 (by rfl) (by rfl) Ey42 bu_size rfl (by simp [Value.oneCell']) ?_
                    have hS := below_setRow hS My #[.int .i64 u, .int .i64 r, .int .i64 p, .int .i64 Cl, .int .i64 (n + a + b)]
                    have Ex43 := Ex42.row_other Nxy #[.int .i64 u, .int .i64 r, .int .i64 p, .int .i64 Cl, .int .i64 (n + a + b)]
                    have Ey43 := Ey42.row #[.int .i64 u, .int .i64 r, .int .i64 p, .int .i64 Cl, .int .i64 (n + a + b)]
                    refine hK.out _ _ hS (fun _ => ?_)
                    generalize ws42.setRow y #[.int .i64 u, .int .i64 r, .int .i64 p, .int .i64 Cl, .int .i64 (n + a + b)] = ws43 at hS Ex43 Ey43 ⊢
                    clear hK K
                    try simp only [Act.put, List.setIfInBounds_toArray, List.set_cons_zero, List.set_cons_succ]
                    refine wpAnyH_done (by kernel_rfl) ?_ _
                    refine NoPanic.normal ?_
                    go_wp2_with fail
                    go_meet
                    exact ⟨x, y, rfl, rfl, Ex43, Ey43, hS⟩)
                  exact AllReadyH.nil)
                exact AllReadyH.nil)
              exact AllReadyH.nil)
            exact AllReadyH.nil)
          exact AllReadyH.nil)
        refine AllReadyH.cons (o := _) (by simp only [List.getElem?_toArray, List.getElem?_cons_succ, List.getElem?_cons_zero] <;> exact rfl) (fun K hK => ?_) ?_
        focus (
          go_simp
          have hz44 := hS.size
          have hS := hS.alloc hS.size (.cells #[.int .i64 0, .int .i64 0, .int .i64 0, .int .i64 0, .int .i64 0] 23)
          refine hK.out _ _ hS (fun _ => ?_)
          have Ey44 := BlkIs.new wd 23 #[.int .i64 0, .int .i64 0, .int .i64 0, .int .i64 0, .int .i64 0]
          obtain ⟨y, hy⟩ : ∃ g, g = wd.heap.size := ⟨_, rfl⟩
          have My : W3.heap.size ≤ y := by rw [hy]; exact hz44
          rw [← hy] at Ey44 ⊢
          generalize wd.alloc (.cells #[.int .i64 0, .int .i64 0, .int .i64 0, .int .i64 0, .int .i64 0] 23) = wa44 at hS Ey44 ⊢
          clear hy hz44
          clear hK K
          try simp only [Act.put, List.setIfInBounds_toArray, List.set_cons_zero, List.set_cons_succ]
          refine wpAnyH_ready (rs := [2, 6]) (by kernel_rfl) (by simp) ?_
          refine AllReadyH.cons (o := _) (by simp only [List.getElem?_toArray, List.getElem?_cons_succ, List.getElem?_cons_zero] <;> exact rfl) (fun K hK => ?_) ?_
          focus (
            go_simp
            go_at_call 14
            refine (QA.out _).mono ?_
            rintro e wr45 ⟨rfl, hb⟩
            have hS := hS.trans (hb.mono hS.size)
            have Ey45 := Ey44.keep hb
            clear hb
            go_wp2_with fail
            refine hK.out _ _ hS (fun _ => ?_)
            clear hK K
            try simp only [Act.put, List.setIfInBounds_toArray, List.set_cons_zero, List.set_cons_succ]
            refine wpAnyH_ready (rs := [5, 6]) (by kernel_rfl) (by simp) ?_
            refine AllReadyH.cons (o := _) (by simp only [List.getElem?_toArray, List.getElem?_cons_succ, List.getElem?_cons_zero] <;> exact rfl) (fun K hK => ?_) ?_
            focus (
              go_simp
              go_at_call 14
              refine (QC.out _).mono ?_
              rintro e wr46 ⟨rfl, hb⟩
              have hS := hS.trans (hb.mono hS.size)
              have Ey46 := Ey45.keep hb
              clear hb
              go_wp2_with fail
              refine hK.out _ _ hS (fun _ => ?_)
              clear hK K
              try simp only [Act.put, List.setIfInBounds_toArray, List.set_cons_zero, List.set_cons_succ]
              refine wpAnyH_ready (rs := [6]) (by kernel_rfl) (by simp) ?_
              refine AllReadyH.cons (o := _) (by simp only [List.getElem?_toArray, List.getElem?_cons_succ, List.getElem?_cons_zero] <;> exact rfl) (fun K hK => ?_) ?_
              focus (
                go_simp
                have hz47 := hS.size
                have hS := hS.alloc hS.size (.cells #[.int .i64 0, .int .i64 0, .int .i64 0, .int .i64 0, .int .i64 0] 23)
                refine hK.out _ _ hS (fun _ => ?_)
                have Ey47 := Ey46.alloc (.cells #[.int .i64 0, .int .i64 0, .int .i64 0, .int .i64 0, .int .i64 0] 23)
                have Ex47 := BlkIs.new wr46 23 #[.int .i64 0, .int .i64 0, .int .i64 0, .int .i64 0, .int .i64 0]
                obtain ⟨x, hx⟩ : ∃ g, g = wr46.heap.size := ⟨_, rfl⟩
                have Mx : W3.heap.size ≤ x := by rw [hx]; exact hz47
                rw [← hx] at Ex47 ⊢
                have Nyx : y ≠ x := by have := Ey46.lt; omega
                have Nxy : x ≠ y := by have := Ey46.lt; omega
                generalize wr46.alloc (.cells #[.int .i64 0, .int .i64 0, .int .i64 0, .int .i64 0, .int .i64 0] 23) = wa47 at hS Ex47 Ey47 ⊢
                clear hx hz47
                clear hK K
                try simp only [Act.put, List.setIfInBounds_toArray, List.set_cons_zero, List.set_cons_succ]
                refine wpAnyH_ready (rs := [8]) (by kernel_rfl) (by simp) ?_
                refine AllReadyH.cons (o := _) (by simp only [List.getElem?_toArray, List.getElem?_cons_succ, List.getElem?_cons_zero] <;> exact rfl) (fun K hK => ?_) ?_
                focus (
                  refine rgs_store_blk (by rfl) 23 (.tmp 11) (.tmp 54) (by rfl) x #[.int .i64 u, .int .i64 r, .int .i64 p, .int .i64 Al, .int .i64 (n + a + b)] #[.int .i64 0, .int .i64 0, .int .i64 0, .int .i64 0, .int .i64 0] 23 (by rfl) (by rfl) Ex47 bu_size rfl (by simp [Value.oneCell']) ?_
                  have hS := below_setRow hS Mx #[.int .i64 u, .int .i64 r, .int .i64 p, .int .i64 Al, .int .i64 (n + a + b)]
                  have Ex48 := Ex47.row #[.int .i64 u, .int .i64 r, .int .i64 p, .int .i64 Al, .int .i64 (n + a + b)]
                  have Ey48 := Ey47.row_other Nyx #[.int .i64 u, .int .i64 r, .int .i64 p, .int .i64 Al, .int .i64 (n + a + b)]
                  refine hK.out _ _ hS (fun _ => ?_)
                  generalize wa47.setRow x #[.int .i64 u, .int .i64 r, .int .i64 p, .int .i64 Al, .int .i64 (n + a + b)] = ws48 at hS Ex48 Ey48 ⊢
                  clear hK K
                  try simp only [Act.put, List.setIfInBounds_toArray, List.set_cons_zero, List.set_cons_succ]
                  refine wpAnyH_ready (rs := [9]) (by kernel_rfl) (by simp) ?_
                  refine AllReadyH.cons (o := _) (by simp only [List.getElem?_toArray, List.getElem?_cons_succ, List.getElem?_cons_zero] <;> exact rfl) (fun K hK => ?_) ?_
                  focus (
                    refine rgs_store_blk (by rfl) 23 (.tmp 12) (.tmp 57) (by rfl) y #[.int .i64 u, .int .i64 r, .int .i64 p, .int .i64 Cl, .int .i64 (n + a + b)] #[.int .i64 0, .int .i64 0, .int .i64 0, .int .i64 0, .int .i64 0] 23 (by rfl) (by rfl) Ey48 bu_size rfl (by simp [Value.oneCell']) ?_
                    have hS := below_setRow hS My #[.int .i64 u, .int .i64 r, .int .i64 p, .int .i64 Cl, .int .i64 (n + a + b)]
                    have Ex49 := Ex48.row_other Nxy #[.int .i64 u, .int .i64 r, .int .i64 p, .int .i64 Cl, .int .i64 (n + a + b)]
                    have Ey49 := Ey48.row #[.int .i64 u, .int .i64 r, .int .i64 p, .int .i64 Cl, .int .i64 (n + a + b)]
                    refine hK.out _ _ hS (fun _ => ?_)
                    generalize ws48.setRow y #[.int .i64 u, .int .i64 r, .int .i64 p, .int .i64 Cl, .int .i64 (n + a + b)] = ws49 at hS Ex49 Ey49 ⊢
                    clear hK K
                    try simp only [Act.put, List.setIfInBounds_toArray, List.set_cons_zero, List.set_cons_succ]
                    refine wpAnyH_done (by kernel_rfl) ?_ _
                    refine NoPanic.normal ?_
                    go_wp2_with fail
                    go_meet
                    exact ⟨x, y, rfl, rfl, Ex49, Ey49, hS⟩)
                  exact AllReadyH.nil)
                exact AllReadyH.nil)
              exact AllReadyH.nil)
            refine AllReadyH.cons (o := _) (by simp only [List.getElem?_toArray, List.getElem?_cons_succ, List.getElem?_cons_zero] <;> exact rfl) (fun K hK => ?_) ?_
            focus (
              go_simp
              have hz50 := hS.size
              have hS := hS.alloc hS.size (.cells #[.int .i64 0, .int .i64 0, .int .i64 0, .int .i64 0, .int .i64 0] 23)
              refine hK.out _ _ hS (fun _ => ?_)
              have Ey50 := Ey45.alloc (.cells #[.int .i64 0, .int .i64 0, .int .i64 0, .int .i64 0, .int .i64 0] 23)
              have Ex50 := BlkIs.new wr45 23 #[.int .i64 0, .int .i64 0, .int .i64 0, .int .i64 0, .int .i64 0]
              obtain ⟨x, hx⟩ : ∃ g, g = wr45.heap.size := ⟨_, rfl⟩
              have Mx : W3.heap.size ≤ x := by rw [hx]; exact hz50
              rw [← hx] at Ex50 ⊢
              have Nyx : y ≠ x := by have := Ey45.lt; omega
              have Nxy : x ≠ y := by have := Ey45.lt; omega
              generalize wr45.alloc (.cells #[.int .i64 0, .int .i64 0, .int .i64 0, .int .i64 0, .int .i64 0] 23) = wa50 at hS Ex50 Ey50 ⊢
              clear hx hz50
              clear hK K
              try simp only [Act.put, List.setIfInBounds_toArray, List.set_cons_zero, List.set_cons_succ]
              refine wpAnyH_ready (rs := [5]) (by kernel_rfl) (by simp) ?_
              refine AllReadyH.cons (o := _) (by simp only [List.getElem?_toArray, List.getElem?_cons_succ, List.getElem?_cons_zero] <;> exact rfl) (fun K hK => ?_) ?_
              focus (
                go_simp
                go_at_call 14
                refine (QC.out _).mono ?_
                rintro e wr51 ⟨rfl, hb⟩
                have hS := hS.trans (hb.mono hS.size)
                have Ex51 := Ex50.keep hb
                have Ey51 := Ey50.keep hb
                clear hb
                go_wp2_with fail
                refine hK.out _ _ hS (fun _ => ?_)
                clear hK K
                try simp only [Act.put, List.setIfInBounds_toArray, List.set_cons_zero, List.set_cons_succ]
                refine wpAnyH_ready (rs := [8]) (by kernel_rfl) (by simp) ?_
                refine AllReadyH.cons (o := _) (by simp only [List.getElem?_toArray, List.getElem?_cons_succ, List.getElem?_cons_zero] <;> exact rfl) (fun K hK => ?_) ?_
                focus (
                  refine rgs_store_blk (by rfl) 23 (.tmp 11) (.tmp 54) (by rfl) x #[.int .i64 u, .int .i64 r, .int .i64 p, .int .i64 Al, .int .i64 (n + a + b)] #[.int .i64 0, .int .i64 0, .int .i64 0, .int .i64 0, .int .i64 0] 23 (by rfl) (by rfl) Ex51 bu_size rfl (by simp [Value.oneCell']) ?_
                  have hS := below_setRow hS Mx #[.int .i64 u, .int .i64 r, .int .i64 p, .int .i64 Al, .int .i64 (n + a + b)]
                  have Ex52 := Ex51.row #[.int .i64 u, .int .i64 r, .int .i64 p, .int .i64 Al, .int .i64 (n + a + b)]
                  have Ey52 := Ey51.row_other Nyx #[.int .i64 u, .int .i64 r, .int .i64 p, .int .i64 Al, .int .i64 (n + a + b)]
                  refine hK.out _ _ hS (fun _ => ?_)
                  generalize wr51.setRow x #[.int .i64 u, .int .i64 r, .int .i64 p, .int .i64 Al, .int .i64 (n + a + b)] = ws52 at hS Ex52 Ey52 ⊢
                  clear hK K
                  try simp only [Act.put, List.setIfInBounds_toArray, List.set_cons_zero, List.set_cons_succ]
                  refine wpAnyH_ready (rs := [9]) (by kernel_rfl) (by simp) ?_
                  refine AllReadyH.cons (o := _) (by simp only [List.getElem?_toArray, List.getElem?_cons_succ, List.getElem?_cons_zero] <;> exact rfl) (fun K hK => ?_) ?_
                  focus (
                    refine rgs_store_blk (by rfl) 23 (.tmp 12) (.tmp 57) (by rfl) y #[.int .i64 u, .int .i64 r, .int .i64 p, .int .i64 Cl, .int .i64 (n + a + b)] #[.int .i64 0, .int .i64 0, .int .i64 0, .int .i64 0, .int .i64 0] 23 (by rfl) (by rfl) Ey52 bu_size rfl (by simp [Value.oneCell']) ?_
                    have hS := below_setRow hS My #[.int .i64 u, .int .i64 r, .int .i64 p, .int .i64 Cl, .int .i64 (n + a + b)]
                    have Ex53 := Ex52.row_other Nxy #[.int .i64 u, .int .i64 r, .int .i64 p, .int .i64 Cl, .int .i64 (n + a + b)]
                    have Ey53 := Ey52.row #[.int .i64 u, .int .i64 r, .int .i64 p, .int .i64 Cl, .int .i64 (n + a + b)]
                    refine hK.out _ _ hS (fun _ => ?_)
                    generalize ws52.setRow y #[.int .i64 u, .int .i64 r, .int .i64 p, .int .i64 Cl, .int .i64 (n + a + b)] = ws53 at hS Ex53 Ey53 ⊢
                    clear hK K
                    try simp only [Act.put, List.setIfInBounds_toArray, List.set_cons_zero, List.set_cons_succ]
                    refine wpAnyH_done (by kernel_rfl) ?_ _
                    refine NoPanic.normal ?_
                    go_wp2_with fail
                    go_meet
                    exact ⟨x, y, rfl, rfl, Ex53, Ey53, hS⟩)
                  exact AllReadyH.nil)
                exact AllReadyH.nil)
              exact AllReadyH.nil)
            exact AllReadyH.nil)
          refine AllReadyH.cons (o := _) (by simp only [List.getElem?_toArray, List.getElem?_cons_succ, List.getElem?_cons_zero] <;> exact rfl) (fun K hK => ?_) ?_
          focus (
            go_simp
            have hz54 := hS.size
            have hS := hS.alloc hS.size (.cells #[.int .i64 0, .int .i64 0, .int .i64 0, .int .i64 0, .int .i64 0] 23)
            refine hK.out _ _ hS (fun _ => ?_)
            have Ey54 := Ey44.alloc (.cells #[.int .i64 0, .int .i64 0, .int .i64 0, .int .i64 0, .int .i64 0] 23)
            have Ex54 := BlkIs.new wa44 23 #[.int .i64 0, .int .i64 0, .int .i64 0, .int .i64 0, .int .i64 0]
            obtain ⟨x, hx⟩ : ∃ g, g = wa44.heap.size := ⟨_, rfl⟩
            have Mx : W3.heap.size ≤ x := by rw [hx]; exact hz54
            rw [← hx] at Ex54 ⊢
            have Nyx : y ≠ x := by have := Ey44.lt; omega
            have Nxy : x ≠ y := by have := Ey44.lt; omega
            generalize wa44.alloc (.cells #[.int .i64 0, .int .i64 0, .int .i64 0, .int .i64 0, .int .i64 0] 23) = wa54 at hS Ex54 Ey54 ⊢
            clear hx hz54
            clear hK K
            try simp only [Act.put, List.setIfInBounds_toArray, List.set_cons_zero, List.set_cons_succ]
            refine wpAnyH_ready (rs := [2]) (by kernel_rfl) (by simp) ?_
            refine AllReadyH.cons (o := _) (by simp only [List.getElem?_toArray, List.getElem?_cons_succ, List.getElem?_cons_zero] <;> exact rfl) (fun K hK => ?_) ?_
            focus (
              go_simp
              go_at_call 14
              refine (QA.out _).mono ?_
              rintro e wr55 ⟨rfl, hb⟩
              have hS := hS.trans (hb.mono hS.size)
              have Ex55 := Ex54.keep hb
              have Ey55 := Ey54.keep hb
              clear hb
              go_wp2_with fail
              refine hK.out _ _ hS (fun _ => ?_)
              clear hK K
              try simp only [Act.put, List.setIfInBounds_toArray, List.set_cons_zero, List.set_cons_succ]
              refine wpAnyH_ready (rs := [5]) (by kernel_rfl) (by simp) ?_
              refine AllReadyH.cons (o := _) (by simp only [List.getElem?_toArray, List.getElem?_cons_succ, List.getElem?_cons_zero] <;> exact rfl) (fun K hK => ?_) ?_
              focus (
                go_simp
                go_at_call 14
                refine (QC.out _).mono ?_
                rintro e wr56 ⟨rfl, hb⟩
                have hS := hS.trans (hb.mono hS.size)
                have Ex56 := Ex55.keep hb
                have Ey56 := Ey55.keep hb
                clear hb
                go_wp2_with fail
                refine hK.out _ _ hS (fun _ => ?_)
                clear hK K
                try simp only [Act.put, List.setIfInBounds_toArray, List.set_cons_zero, List.set_cons_succ]
                refine wpAnyH_ready (rs := [8]) (by kernel_rfl) (by simp) ?_
                refine AllReadyH.cons (o := _) (by simp only [List.getElem?_toArray, List.getElem?_cons_succ, List.getElem?_cons_zero] <;> exact rfl) (fun K hK => ?_) ?_
                focus (
                  refine rgs_store_blk (by rfl) 23 (.tmp 11) (.tmp 54) (by rfl) x #[.int .i64 u, .int .i64 r, .int .i64 p, .int .i64 Al, .int .i64 (n + a + b)] #[.int .i64 0, .int .i64 0, .int .i64 0, .int .i64 0, .int .i64 0] 23 (by rfl) (by rfl) Ex56 bu_size rfl (by simp [Value.oneCell']) ?_
                  have hS := below_setRow hS Mx #[.int .i64 u, .int .i64 r, .int .i64 p, .int .i64 Al, .int .i64 (n + a + b)]
                  have Ex57 := Ex56.row #[.int .i64 u, .int .i64 r, .int .i64 p, .int .i64 Al, .int .i64 (n + a + b)]
                  have Ey57 := Ey56.row_other Nyx #[.int .i64 u, .int .i64 r, .int .i64 p, .int .i64 Al, .int .i64 (n + a + b)]
                  refine hK.out _ _ hS (fun _ => ?_)
                  generalize wr56.setRow x #[.int .i64 u, .int .i64 r, .int .i64 p, .int .i64 Al, .int .i64 (n + a + b)] = ws57 at hS Ex57 Ey57 ⊢
                  clear hK K
                  try simp only [Act.put, List.setIfInBounds_toArray, List.set_cons_zero, List.set_cons_succ]
                  refine wpAnyH_ready (rs := [9]) (by kernel_rfl) (by simp) ?_
                  refine AllReadyH.cons (o := _) (by simp only [List.getElem?_toArray, List.getElem?_cons_succ, List.getElem?_cons_zero] <;> exact rfl) (fun K hK => ?_) ?_
                  focus (
                    refine rgs_store_blk (by rfl) 23 (.tmp 12) (.tmp 57) (by rfl) y #[.int .i64 u, .int .i64 r, .int .i64 p, .int .i64 Cl, .int .i64 (n + a + b)] #[.int .i64 0, .int .i64 0, .int .i64 0, .int .i64 0, .int .i64 0] 23 (by rfl) (by rfl) Ey57 bu_size rfl (by simp [Value.oneCell']) ?_
                    have hS := below_setRow hS My #[.int .i64 u, .int .i64 r, .int .i64 p, .int .i64 Cl, .int .i64 (n + a + b)]
                    have Ex58 := Ex57.row_other Nxy #[.int .i64 u, .int .i64 r, .int .i64 p, .int .i64 Cl, .int .i64 (n + a + b)]
                    have Ey58 := Ey57.row #[.int .i64 u, .int .i64 r, .int .i64 p, .int .i64 Cl, .int .i64 (n + a + b)]
                    refine hK.out _ _ hS (fun _ => ?_)
                    generalize ws57.setRow y #[.int .i64 u, .int .i64 r, .int .i64 p, .int .i64 Cl, .int .i64 (n + a + b)] = ws58 at hS Ex58 Ey58 ⊢
                    clear hK K
                    try simp only [Act.put, List.setIfInBounds_toArray, List.set_cons_zero, List.set_cons_succ]
                    refine wpAnyH_done (by kernel_rfl) ?_ _
                    refine NoPanic.normal ?_
                    go_wp2_with fail
                    go_meet
                    exact ⟨x, y, rfl, rfl, Ex58, Ey58, hS⟩)
                  exact AllReadyH.nil)
                exact AllReadyH.nil)
              exact AllReadyH.nil)
            exact AllReadyH.nil)
          exact AllReadyH.nil)
        exact AllReadyH.nil
      case rest =>
        obtain ⟨ga, gc, rfl, rfl, ka, kc, hb⟩ := hcut
        have HA := hide ka
        have HC := hide kc
        have HX4 := hide (HX.out.keep hb)
        have HB4 := hide (HB.out.trans (hb.mono HB.out.size))
        clear ka kc hb HX HB HY
        have HX := hide HX4.out
        have HB := hide HB4.out
        clear HX4 HB4
        have k1 := K1.out
        have k2 := K2.out
        have k3 := K3.out
        go_upto_region 8 with (fail)
        refine wp_region_noPanic ?_
        refine wp_region_held_drew (S := fun w' => Below wc.heap.size wc w') (by kernel_rfl) (Below.refl _ _).drew (fun hS => ?_)
        generalize wc.drew = wd at hS ⊢
        refine wpAnyH_take (i := 0) (by simp only [List.getElem?_toArray, List.getElem?_cons_zero] <;> exact rfl) (by kernel_rfl) (by kernel_rfl) (by kernel_rfl) (fun _ _ _ h => h) (rgs_yields_blk (by rfl) 23 (.tmp 7) (by rfl) (g + 1 + 1) (by rfl) 23 #[.int .i64 u, .int .i64 r, .int .i64 p, .int .i64 l, .int .i64 n] _ (fun w' hw' => HX.out.keep hw') Try.underlying23 rfl bu_size) hS ?_
        try simp only [Act.put, List.setIfInBounds_toArray, List.set_cons_zero, List.set_cons_succ]
        refine wpAnyH_take (i := 1) (v := ?_) (by simp only [List.getElem?_toArray, List.getElem?_cons_succ, List.getElem?_cons_zero] <;> exact rfl) (by kernel_rfl) (by kernel_rfl) (by kernel_rfl) (fun _ _ _ h => h) (Or.inl ⟨by rfl, ?_⟩) hS ?_
        rotate_left
        focus (intro w' hw'; go_simp; all_goals with_reducible rfl)
        try simp only [Act.put, List.setIfInBounds_toArray, List.set_cons_zero, List.set_cons_succ]
        refine wpAnyH_take (i := 3) (v := ?_) (by simp only [List.getElem?_toArray, List.getElem?_cons_succ, List.getElem?_cons_zero] <;> exact rfl) (by kernel_rfl) (by kernel_rfl) (by kernel_rfl) (fun _ _ _ h => h) (Or.inl ⟨by rfl, ?_⟩) hS ?_
        rotate_left
        focus (intro w' hw'; go_simp; all_goals with_reducible rfl)
        try simp only [Act.put, List.setIfInBounds_toArray, List.set_cons_zero, List.set_cons_succ]
        refine wpAnyH_take (i := 5) (by simp only [List.getElem?_toArray, List.getElem?_cons_succ, List.getElem?_cons_zero] <;> exact rfl) (by kernel_rfl) (by kernel_rfl) (by kernel_rfl) (fun _ _ _ h => h) (rgs_yields_blk (by rfl) 23 (.tmp 11) (by rfl) ga (by rfl) 23 #[.int .i64 u, .int .i64 r, .int .i64 p, .int .i64 Al, .int .i64 (n + a + b)] _ (fun w' hw' => HA.out.keep hw') Try.underlying23 rfl bu_size) hS ?_
        try simp only [Act.put, List.setIfInBounds_toArray, List.set_cons_zero, List.set_cons_succ]
        refine wpAnyH_ready (rs := [2]) (by kernel_rfl) (by simp) ?_
        refine AllReadyH.cons (o := _) (by simp only [List.getElem?_toArray, List.getElem?_cons_succ, List.getElem?_cons_zero] <;> exact rfl) (fun K hK => ?_) ?_
        focus (
          go_simp
          go_at_call 14
          refine (QD.out _).mono ?_
          rintro e wc1 ⟨rfl, hb⟩
          have hS := hS.trans (hb.mono hS.size)
          clear hb
          go_wp2_with fail
          refine hK.out _ _ hS (fun _ => ?_)
          clear hK K
          try simp only [Act.put, List.setIfInBounds_toArray, List.set_cons_zero, List.set_cons_succ]
          refine wpAnyH_ready (rs := [4]) (by kernel_rfl) (by simp) ?_
          refine AllReadyH.cons (o := _) (by simp only [List.getElem?_toArray, List.getElem?_cons_succ, List.getElem?_cons_zero] <;> exact rfl) (fun K hK => ?_) ?_
          focus (
            go_simp
            go_at_call 14
            refine (QE.out _).mono ?_
            rintro e wc2 ⟨rfl, hb⟩
            have hS := hS.trans (hb.mono hS.size)
            clear hb
            go_wp2_with fail
            refine hK.out _ _ hS (fun _ => ?_)
            clear hK K
            try simp only [Act.put, List.setIfInBounds_toArray, List.set_cons_zero, List.set_cons_succ]
            refine wpAnyH_take (i := 6) (v := ?_) (by simp only [List.getElem?_toArray, List.getElem?_cons_succ, List.getElem?_cons_zero] <;> exact rfl) (by kernel_rfl) (by kernel_rfl) (by kernel_rfl) (fun _ _ _ h => h) (Or.inl ⟨by rfl, ?_⟩) hS ?_
            rotate_left
            focus (intro w' hw'; go_simp; all_goals with_reducible rfl)
            try simp only [Act.put, List.setIfInBounds_toArray, List.set_cons_zero, List.set_cons_succ]
            refine wpAnyH_take (i := 7) (v := ?_) (by simp only [List.getElem?_toArray, List.getElem?_cons_succ, List.getElem?_cons_zero] <;> exact rfl) (by kernel_rfl) (by kernel_rfl) (by kernel_rfl) (fun _ _ _ h => h) (Or.inl ⟨by rfl, ?_⟩) hS ?_
            rotate_left
            focus (intro w' hw'; go_simp; all_goals with_reducible rfl)
            try simp only [Act.put, List.setIfInBounds_toArray, List.set_cons_zero, List.set_cons_succ]
            refine wpAnyH_take (i := 8) (v := ?_) (by simp only [List.getElem?_toArray, List.getElem?_cons_succ, List.getElem?_cons_zero] <;> exact rfl) (by kernel_rfl) (by kernel_rfl) (by kernel_rfl) (fun _ _ _ h => h) (Or.inl ⟨by rfl, ?_⟩) hS ?_
            rotate_left
            focus (intro w' hw'; go_simp; all_goals with_reducible rfl)
            try simp only [Act.put, List.setIfInBounds_toArray, List.set_cons_zero, List.set_cons_succ]
            refine wpAnyH_take (i := 9) (v := ?_) (by simp only [List.getElem?_toArray, List.getElem?_cons_succ, List.getElem?_cons_zero] <;> exact rfl) (by kernel_rfl) (by kernel_rfl) (by kernel_rfl) (fun _ _ _ h => h) (Or.inl ⟨by rfl, ?_⟩) hS ?_
            rotate_left
            focus (intro w' hw'; have kk := ((HC.out.keep hw').cell 3).trans (show _ = some (Value.int .i64 Cl) from rfl); go_simp; all_goals with_reducible rfl)
            try simp only [Act.put, List.setIfInBounds_toArray, List.set_cons_zero, List.set_cons_succ]
            refine wpAnyH_take (i := 10) (v := ?_) (by simp only [List.getElem?_toArray, List.getElem?_cons_succ, List.getElem?_cons_zero] <;> exact rfl) (by kernel_rfl) (by kernel_rfl) (by kernel_rfl) (fun _ _ _ h => h) (Or.inl ⟨by rfl, ?_⟩) hS ?_
            rotate_left
            focus (intro w' hw'; go_simp; all_goals with_reducible rfl)
            try simp only [Act.put, List.setIfInBounds_toArray, List.set_cons_zero, List.set_cons_succ]
            refine wpAnyH_take (i := 11) (v := ?_) (by simp only [List.getElem?_toArray, List.getElem?_cons_succ, List.getElem?_cons_zero] <;> exact rfl) (by kernel_rfl) (by kernel_rfl) (by kernel_rfl) (fun _ _ _ h => h) (Or.inl ⟨by rfl, ?_⟩) hS ?_
            rotate_left
            focus (intro w' hw'; have kk := ((HA.out.keep hw').cell 3).trans (show _ = some (Value.int .i64 Al) from rfl); go_simp; all_goals with_reducible rfl)
            try simp only [Act.put, List.setIfInBounds_toArray, List.set_cons_zero, List.set_cons_succ]
            refine wpAnyH_take (i := 12) (v := ?_) (by simp only [List.getElem?_toArray, List.getElem?_cons_succ, List.getElem?_cons_zero] <;> exact rfl) (by kernel_rfl) (by kernel_rfl) (by kernel_rfl) (fun _ _ _ h => h) (Or.inl ⟨by rfl, ?_⟩) hS ?_
            rotate_left
            focus (intro w' hw'; go_simp; all_goals with_reducible rfl)
            try simp only [Act.put, List.setIfInBounds_toArray, List.set_cons_zero, List.set_cons_succ]
            refine wpAnyH_take (i := 13) (v := ?_) (by simp only [List.getElem?_toArray, List.getElem?_cons_succ, List.getElem?_cons_zero] <;> exact rfl) (by kernel_rfl) (by kernel_rfl) (by kernel_rfl) (fun _ _ _ h => h) (Or.inl ⟨by rfl, ?_⟩) hS ?_
            rotate_left
            focus (intro w' hw'; go_simp; all_goals with_reducible rfl)
            try simp only [Act.put, List.setIfInBounds_toArray, List.set_cons_zero, List.set_cons_succ]
            refine wpAnyH_take (i := 14) (v := ?_) (by simp only [List.getElem?_toArray, List.getElem?_cons_succ, List.getElem?_cons_zero] <;> exact rfl) (by kernel_rfl) (by kernel_rfl) (by kernel_rfl) (fun _ _ _ h => h) (Or.inl ⟨by rfl, ?_⟩) hS ?_
            rotate_left
            focus (intro w' hw'; go_simp; all_goals with_reducible rfl)
            try simp only [Act.put, List.setIfInBounds_toArray, List.set_cons_zero, List.set_cons_succ]
            refine wpAnyH_take (i := 15) (by simp only [List.getElem?_toArray, List.getElem?_cons_succ, List.getElem?_cons_zero] <;> exact rfl) (by kernel_rfl) (by kernel_rfl) (by kernel_rfl) (fun _ _ _ h => h) (rgs_yields_blk (by rfl) 23 (.tmp 12) (by rfl) gc (by rfl) 23 #[.int .i64 u, .int .i64 r, .int .i64 p, .int .i64 Cl, .int .i64 (n + a + b)] _ (fun w' hw' => HC.out.keep hw') Try.underlying23 rfl bu_size) hS ?_
            try simp only [Act.put, List.setIfInBounds_toArray, List.set_cons_zero, List.set_cons_succ]
            refine wpAnyH_take (i := 17) (by simp only [List.getElem?_toArray, List.getElem?_cons_succ, List.getElem?_cons_zero] <;> exact rfl) (by kernel_rfl) (by kernel_rfl) (by kernel_rfl) (fun _ _ _ h => h) (rgs_yields_blk (by rfl) 23 (.tmp 11) (by rfl) ga (by rfl) 23 #[.int .i64 u, .int .i64 r, .int .i64 p, .int .i64 Al, .int .i64 (n + a + b)] _ (fun w' hw' => HA.out.keep hw') Try.underlying23 rfl bu_size) hS ?_
            try simp only [Act.put, List.setIfInBounds_toArray, List.set_cons_zero, List.set_cons_succ]
            refine wpAnyH_ready (rs := [16]) (by kernel_rfl) (by simp) ?_
            refine AllReadyH.cons (o := _) (by simp only [List.getElem?_toArray, List.getElem?_cons_succ, List.getElem?_cons_zero] <;> exact rfl) (fun K hK => ?_) ?_
            focus (
              go_simp
              go_at_call 13
              refine (QH1.out _).mono ?_
              rintro e wc3 ⟨rfl, hb⟩
              have hS := hS.trans (hb.mono hS.size)
              clear hb
              go_wp2_with fail
              refine hK.out _ _ hS (fun _ => ?_)
              clear hK K
              try simp only [Act.put, List.setIfInBounds_toArray, List.set_cons_zero, List.set_cons_succ]
              refine wpAnyH_ready (rs := [18]) (by kernel_rfl) (by simp) ?_
              refine AllReadyH.cons (o := _) (by simp only [List.getElem?_toArray, List.getElem?_cons_succ, List.getElem?_cons_zero] <;> exact rfl) (fun K hK => ?_) ?_
              focus (
                go_simp
                go_at_call 13
                refine (QH2.out _).mono ?_
                rintro e wc4 ⟨rfl, hb⟩
                have hS := hS.trans (hb.mono hS.size)
                clear hb
                go_wp2_with fail
                refine hK.out _ _ hS (fun _ => ?_)
                clear hK K
                try simp only [Act.put, List.setIfInBounds_toArray, List.set_cons_zero, List.set_cons_succ]
                refine wpAnyH_take (i := 19) (v := ?_) (by simp only [List.getElem?_toArray, List.getElem?_cons_succ, List.getElem?_cons_zero] <;> exact rfl) (by kernel_rfl) (by kernel_rfl) (by kernel_rfl) (fun _ _ _ h => h) (Or.inl ⟨by rfl, ?_⟩) hS ?_
                rotate_left
                focus (intro w' hw'; go_simp; all_goals with_reducible rfl)
                try simp only [Act.put, List.setIfInBounds_toArray, List.set_cons_zero, List.set_cons_succ]
                refine wpAnyH_take (i := 20) (v := ?_) (by simp only [List.getElem?_toArray, List.getElem?_cons_succ, List.getElem?_cons_zero] <;> exact rfl) (by kernel_rfl) (by kernel_rfl) (by kernel_rfl) (fun _ _ _ h => h) (Or.inl ⟨by rfl, ?_⟩) hS ?_
                rotate_left
                focus (intro w' hw'; go_simp; all_goals with_reducible rfl)
                try simp only [Act.put, List.setIfInBounds_toArray, List.set_cons_zero, List.set_cons_succ]
                refine wpAnyH_take (i := 21) (v := ?_) (by simp only [List.getElem?_toArray, List.getElem?_cons_succ, List.getElem?_cons_zero] <;> exact rfl) (by kernel_rfl) (by kernel_rfl) (by kernel_rfl) (fun _ _ _ h => h) (Or.inl ⟨by rfl, ?_⟩) hS ?_
                rotate_left
                focus (intro w' hw'; go_simp; all_goals with_reducible rfl)
                try simp only [Act.put, List.setIfInBounds_toArray, List.set_cons_zero, List.set_cons_succ]
                refine wpAnyH_take (i := 22) (v := ?_) (by simp only [List.getElem?_toArray, List.getElem?_cons_succ, List.getElem?_cons_zero] <;> exact rfl) (by kernel_rfl) (by kernel_rfl) (by kernel_rfl) (fun _ _ _ h => h) (Or.inl ⟨by rfl, ?_⟩) hS ?_
                rotate_left
                focus (intro w' hw'; go_simp; all_goals with_reducible rfl)
                try simp only [Act.put, List.setIfInBounds_toArray, List.set_cons_zero, List.set_cons_succ]
                refine wpAnyH_take (i := 23) (v := ?_) (by simp only [List.getElem?_toArray, List.getElem?_cons_succ, List.getElem?_cons_zero] <;> exact rfl) (by kernel_rfl) (by kernel_rfl) (by kernel_rfl) (fun _ _ _ h => h) (Or.inl ⟨by rfl, ?_⟩) hS ?_
                rotate_left
                focus (intro w' hw'; have kk := ((HA.out.keep hw').cell 4).trans (show _ = some (Value.int .i64 (n + a + b)) from rfl); go_simp; all_goals with_reducible rfl)
                try simp only [Act.put, List.setIfInBounds_toArray, List.set_cons_zero, List.set_cons_succ]
                refine wpAnyH_take (i := 24) (v := ?_) (by simp only [List.getElem?_toArray, List.getElem?_cons_succ, List.getElem?_cons_zero] <;> exact rfl) (by kernel_rfl) (by kernel_rfl) (by kernel_rfl) (fun _ _ _ h => h) (Or.inl ⟨by rfl, ?_⟩) hS ?_
                rotate_left
                focus (intro w' hw'; go_simp; all_goals with_reducible rfl)
                try simp only [Act.put, List.setIfInBounds_toArray, List.set_cons_zero, List.set_cons_succ]
                refine wpAnyH_take (i := 25) (v := ?_) (by simp only [List.getElem?_toArray, List.getElem?_cons_succ, List.getElem?_cons_zero] <;> exact rfl) (by kernel_rfl) (by kernel_rfl) (by kernel_rfl) (fun _ _ _ h => h) (Or.inl ⟨by rfl, ?_⟩) hS ?_
                rotate_left
                focus (intro w' hw'; go_simp; all_goals with_reducible rfl)
                try simp only [Act.put, List.setIfInBounds_toArray, List.set_cons_zero, List.set_cons_succ]
                refine wpAnyH_take (i := 26) (v := ?_) (by simp only [List.getElem?_toArray, List.getElem?_cons_succ, List.getElem?_cons_zero] <;> exact rfl) (by kernel_rfl) (by kernel_rfl) (by kernel_rfl) (fun _ _ _ h => h) (Or.inl ⟨by rfl, ?_⟩) hS ?_
                rotate_left
                focus (intro w' hw'; go_simp; all_goals with_reducible rfl)
                try simp only [Act.put, List.setIfInBounds_toArray, List.set_cons_zero, List.set_cons_succ]
                refine wpAnyH_take (i := 27) (v := ?_) (by simp only [List.getElem?_toArray, List.getElem?_cons_succ, List.getElem?_cons_zero] <;> exact rfl) (by kernel_rfl) (by kernel_rfl) (by kernel_rfl) (fun _ _ _ h => h) (Or.inl ⟨by rfl, ?_⟩) hS ?_
                rotate_left
                focus (intro w' hw'; go_simp; all_goals with_reducible rfl)
                try simp only [Act.put, List.setIfInBounds_toArray, List.set_cons_zero, List.set_cons_succ]
                refine wpAnyH_take (i := 28) (v := ?_) (by simp only [List.getElem?_toArray, List.getElem?_cons_succ, List.getElem?_cons_zero] <;> exact rfl) (by kernel_rfl) (by kernel_rfl) (by kernel_rfl) (fun _ _ _ h => h) (Or.inl ⟨by rfl, ?_⟩) hS ?_
                rotate_left
                focus (intro w' hw'; go_simp; all_goals with_reducible rfl)
                try simp only [Act.put, List.setIfInBounds_toArray, List.set_cons_zero, List.set_cons_succ]
                refine wpAnyH_take (i := 29) (v := ?_) (by simp only [List.getElem?_toArray, List.getElem?_cons_succ, List.getElem?_cons_zero] <;> exact rfl) (by kernel_rfl) (by kernel_rfl) (by kernel_rfl) (fun _ _ _ h => h) (Or.inl ⟨by rfl, ?_⟩) hS ?_
                rotate_left
                focus (intro w' hw'; have kk := ((HA.out.keep hw').cell 3).trans (show _ = some (Value.int .i64 Al) from rfl); go_simp; all_goals with_reducible rfl)
                try simp only [Act.put, List.setIfInBounds_toArray, List.set_cons_zero, List.set_cons_succ]
                refine wpAnyH_take (i := 30) (v := ?_) (by simp only [List.getElem?_toArray, List.getElem?_cons_succ, List.getElem?_cons_zero] <;> exact rfl) (by kernel_rfl) (by kernel_rfl) (by kernel_rfl) (fun _ _ _ h => h) (Or.inl ⟨by rfl, ?_⟩) hS ?_
                rotate_left
                focus (intro w' hw'; go_simp; all_goals with_reducible rfl)
                try simp only [Act.put, List.setIfInBounds_toArray, List.set_cons_zero, List.set_cons_succ]
                refine wpAnyH_take (i := 31) (v := ?_) (by simp only [List.getElem?_toArray, List.getElem?_cons_succ, List.getElem?_cons_zero] <;> exact rfl) (by kernel_rfl) (by kernel_rfl) (by kernel_rfl) (fun _ _ _ h => h) (Or.inl ⟨by rfl, ?_⟩) hS ?_
                rotate_left
                focus (intro w' hw'; have kk := ((HX.out.keep hw').cell 3).trans (show _ = some (Value.int .i64 l) from rfl); go_simp; all_goals with_reducible rfl)
                try simp only [Act.put, List.setIfInBounds_toArray, List.set_cons_zero, List.set_cons_succ]
                refine wpAnyH_take (i := 32) (v := ?_) (by simp only [List.getElem?_toArray, List.getElem?_cons_succ, List.getElem?_cons_zero] <;> exact rfl) (by kernel_rfl) (by kernel_rfl) (by kernel_rfl) (fun _ _ _ h => h) (Or.inl ⟨by rfl, ?_⟩) hS ?_
                rotate_left
                focus (intro w' hw'; go_simp; all_goals with_reducible rfl)
                try simp only [Act.put, List.setIfInBounds_toArray, List.set_cons_zero, List.set_cons_succ]
                refine wpAnyH_take (i := 33) (v := ?_) (by simp only [List.getElem?_toArray, List.getElem?_cons_succ, List.getElem?_cons_zero] <;> exact rfl) (by kernel_rfl) (by kernel_rfl) (by kernel_rfl) (fun _ _ _ h => h) (Or.inl ⟨by rfl, ?_⟩) hS ?_
                rotate_left
                focus (intro w' hw'; go_simp; all_goals with_reducible rfl)
                try simp only [Act.put, List.setIfInBounds_toArray, List.set_cons_zero, List.set_cons_succ]
                refine wpAnyH_take (i := 34) (v := ?_) (by simp only [List.getElem?_toArray, List.getElem?_cons_succ, List.getElem?_cons_zero] <;> exact rfl) (by kernel_rfl) (by kernel_rfl) (by kernel_rfl) (fun _ _ _ h => h) (Or.inl ⟨by rfl, ?_⟩) hS ?_
                rotate_left
                focus (intro w' hw'; go_simp; all_goals with_reducible rfl)
                try simp only [Act.put, List.setIfInBounds_toArray, List.set_cons_zero, List.set_cons_succ]
                refine wpAnyH_ready (rs := [35]) (by kernel_rfl) (by simp) ?_
                refine AllReadyH.cons (o := _) (by simp only [List.getElem?_toArray, List.getElem?_cons_succ, List.getElem?_cons_zero] <;> exact rfl) (fun K hK => ?_) ?_
                focus (
                  go_simp
                  go_at_call 9
                  refine (HAW.out _).mono ?_
                  rintro e wc5 ⟨rfl, hb⟩
                  have hS := hS.trans (hb.mono hS.size)
                  clear hb
                  go_wp2_with fail
                  refine hK.out _ _ hS (fun _ => ?_)
                  clear hK K
                  try simp only [Act.put, List.setIfInBounds_toArray, List.set_cons_zero, List.set_cons_succ]
                  refine wpAnyH_take (i := 36) (v := ?_) (by simp only [List.getElem?_toArray, List.getElem?_cons_succ, List.getElem?_cons_zero] <;> exact rfl) (by kernel_rfl) (by kernel_rfl) (by kernel_rfl) (fun _ _ _ h => h) (Or.inl ⟨by rfl, ?_⟩) hS ?_
                  rotate_left
                  focus (intro w' hw'; go_simp; all_goals with_reducible rfl)
                  try simp only [Act.put, List.setIfInBounds_toArray, List.set_cons_zero, List.set_cons_succ]
                  refine wpAnyH_take (i := 37) (v := ?_) (by simp only [List.getElem?_toArray, List.getElem?_cons_succ, List.getElem?_cons_zero] <;> exact rfl) (by kernel_rfl) (by kernel_rfl) (by kernel_rfl) (fun _ _ _ h => h) (Or.inl ⟨by rfl, ?_⟩) hS ?_
                  rotate_left
                  focus (intro w' hw'; go_simp; all_goals with_reducible rfl)
                  try simp only [Act.put, List.setIfInBounds_toArray, List.set_cons_zero, List.set_cons_succ]
                  refine wpAnyH_done (by kernel_rfl) ?_ _
                  refine NoPanic.normal ?_
                  go_wp2
                  go_ret
                  exact ⟨rfl, HB.out.trans (hS.mono HB.out.size)⟩)
                exact AllReadyH.nil)
              exact AllReadyH.nil)
            exact AllReadyH.nil)
          exact AllReadyH.nil)
        exact AllReadyH.nil

theorem walk (u r p l n : Int) (ab : List Int) (hl : ab.length = 2) (wab : ∀ x ∈ ab, (Lit.int .u16 x).wf = true) (m : Int) (w : World) (_ : (Lit.int .i64 u).wf = true) (_ : (Lit.int .i64 r).wf = true) (_ : (Lit.int .i64 p).wf = true) (_ : (Lit.int .i64 l).wf = true) (_ : (Lit.int .i64 n).wf = true) (wm : (Lit.int .u16 m).wf = true) :
    Calls Try.prog 6 #[.agg #[.int .i64 u, .int .i64 r, .int .i64 p, .int .i64 l, .int .i64 n], .agg (ab.map (Value.int .u16)).toArray, .int .u16 m] w fun e w' => e = .returned (.bool true) ∧ Below w.heap.size w w' := by
  have hm := bounds_u16 wm
  match ab, hl with
  | [a, b], _ =>
    have h0 := bounds_u16 (wab a (by simp))
    have h1 := bounds_u16 (wab b (by simp))
    exact walk_at u r p l n a b m w h0.1 h0.2 h1.1 h1.2 hm.1 hm.2
end Go.Proofs.Ytpebbeghjealiaa.bucketAt
