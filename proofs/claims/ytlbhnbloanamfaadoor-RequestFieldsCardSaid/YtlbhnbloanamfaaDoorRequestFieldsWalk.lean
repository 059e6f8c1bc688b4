/-
  RequestFields: its walk (written by gen17lf.py).
-/
import Derived.Test.YtlbhnbloanamfaaDoorRqAwake
import Derived.Test.YtlbhnbloanamfaaDoorRqOpen
import Derived.Test.YtlbhnbloanamfaaDoorRqFields
import Derived.Test.YtlbhnbloanamfaaDoorRgFields
import Derived.Test.YtlbhnbloanamfaaDoorFdSame
import Derived.Test.YtlbhnbloanamfaaDoorRegW
import Derived.Test.YtlbhnbloanamfaaDoorRegs
import Derived.BigGuardPart
namespace Go.Proofs.YtlbhnbloanamfaaDoor.requestFields
set_option linter.unusedSimpArgs false
set_option linter.unusedVariables false
open Go.RowKit

theorem fr_size : (Tryd.prog.info? 29).map (·.size) = some 6 := by kernel_rfl
theorem lf_len (q : Rq) : (((fieldsL q).length : Nat) : Int) ≤ 1099511627776 := by
  unfold fieldsL
  have h : ∀ (c : Prop) [Decidable c] (f : Fd), (if c then ([] : List Fd) else [f]).length ≤ 1 := fun c _ f => by split <;> simp
  simp only [List.length_append, List.length_cons, List.length_nil]
  have h1 := h (q.h = bNil) ⟨nA, q.h, false⟩
  have h2 := h (q.n < 0) ⟨nLen, itoaB q.n, false⟩
  have h3 := h (q.r = 3) ⟨nPrio, uEq ++ itoaB q.r, false⟩
  omega

set_option maxRecDepth 100000 in
set_option maxHeartbeats 3200000 in
/-- All behind the box, where the first test is refused or not. -/
theorem walk (q : Rq) (w : World) (ht : TabOk w) (hn : -9223372036854775808 ≤ q.n ∧ q.n ≤ 9223372036854775807) (hr : -9223372036854775808 ≤ q.r ∧ q.r ≤ 9223372036854775807) :
    Calls Tryd.prog 5 #[.agg q.cs] w fun e w' => e = .returned (.bool true) ∧ Below w.heap.size w w' := by
  have HAW := hide (fun w h => aw_awake w h)
  obtain ⟨g, hg⟩ : ∃ g, g = w.heap.size := ⟨_, rfl⟩
  obtain ⟨w0, hw0⟩ : ∃ w0, w0 = w.alloc (.cells q.cs 29) := ⟨_, rfl⟩
  have HB := hide (show Below w.heap.size w w0 by rw [hw0]; exact bel1 w _)
  have HQ := hide (show BlkIs w0 g 29 q.cs by rw [hw0, hg]; exact BlkIs.new w _ _)
  have HT := hide (ht.keep HB.out)
  have HW0 := hide hw0
  have HG := hide hg
  clear hw0 hg ht
  have x0 := HQ.out.cell 0
  have x1 := HQ.out.cell 1
  have x2 := HQ.out.cell 2
  have x3 := HQ.out.cell 3
  have x4 := HQ.out.cell 4
  have x5 := HQ.out.cell 5
  simp only [Rq.cs, List.getElem?_toArray, List.getElem?_cons_zero, List.getElem?_cons_succ] at x0 x1 x2 x3 x4 x5
  by_cases h1 : (1099511627776 : Int) < q.n
  · go_enter Tryd.func5, Tryd.ntmps5
    clear hn hr
    go_upto_region 1 with (fail)
    rw [← HW0.out, ← HG.out]
    go_wp2_with fail
    refine (HAW.out _ HT.out).mono ?_
    rintro e w4 ⟨rfl, hb4⟩
    have HB4 := hide (HB.out.trans (hb4.mono HB.out.size))
    clear hb4
    go_wp2
    go_ret
    exact ⟨rfl, HB4.out⟩
  · by_cases h2 : q.r < 0
    · go_enter Tryd.func5, Tryd.ntmps5
      clear hn hr
      go_upto_region 1 with (fail)
      rw [← HW0.out, ← HG.out]
      go_wp2_with fail
      refine (HAW.out _ HT.out).mono ?_
      rintro e w4 ⟨rfl, hb4⟩
      have HB4 := hide (HB.out.trans (hb4.mono HB.out.size))
      clear hb4
      go_wp2
      go_ret
      exact ⟨rfl, HB4.out⟩
    · by_cases h3 : (9 : Int) < q.r
      · go_enter Tryd.func5, Tryd.ntmps5
        clear hn hr
        go_upto_region 1 with (fail)
        rw [← HW0.out, ← HG.out]
        go_wp2_with fail
        refine (HAW.out _ HT.out).mono ?_
        rintro e w4 ⟨rfl, hb4⟩
        have HB4 := hide (HB.out.trans (hb4.mono HB.out.size))
        clear hb4
        go_wp2
        go_ret
        exact ⟨rfl, HB4.out⟩
      · have HN := hide hn
        have HR := hide hr
        have HM := hide (show q.n ≤ 1099511627776 ∧ 0 ≤ q.r ∧ q.r ≤ 9 by omega)
        have HLE := hide (lf_len q)
        clear hn hr
        go_enter Tryd.func5, Tryd.ntmps5
        go_upto_region 1 with (fail)
        rw [← HW0.out, ← HG.out]
        go_upto_if 33 with (fail)
        generalize (decide ((800 : Int) < wrap64 (wrap64 (wrap64 ((q.m.size : Int) + (q.s.size : Int)) + (q.p.size : Int)) + (q.h.size : Int)))) = b
        clear x0 x1 x2 x3 x4 x5
        cases b with
        | true =>
          go_wp2_with fail
          refine (HAW.out _ HT.out).mono ?_
          rintro e w4 ⟨rfl, hb4⟩
          have HB4 := hide (HB.out.trans (hb4.mono HB.out.size))
          clear hb4
          go_wp2
          go_ret
          exact ⟨rfl, HB4.out⟩
        | false =>
          go_upto_region 3 with (fail)
          refine wp_region_noPanic ?_
          refine wp_region_held_drew (S := fun w' => Below w0.heap.size w0 w') (by kernel_rfl) (Below.refl _ _).drew (fun hS => ?_)
          generalize w0.drew = wd at hS ⊢
          refine wpAnyH_take (i := 0) (by simp only [List.getElem?_toArray, List.getElem?_cons_zero] <;> exact rfl) (by kernel_rfl) (by kernel_rfl) (by kernel_rfl) (fun _ _ _ h => h) (rgs_yields_blk (by rfl) 29 (.tmp 1) (by rfl) g (by rfl) 29 q.cs _ (fun w' hw' => HQ.out.keep hw') Tryd.underlying29 rfl fr_size) hS ?_
          try simp only [Act.put, List.setIfInBounds_toArray, List.set_cons_zero, List.set_cons_succ]
          refine wpAnyH_take (i := 2) (by simp only [List.getElem?_toArray, List.getElem?_cons_succ, List.getElem?_cons_zero] <;> exact rfl) (by kernel_rfl) (by kernel_rfl) (by kernel_rfl) (fun _ _ _ h => h) (rgs_yields_blk (by rfl) 29 (.tmp 1) (by rfl) g (by rfl) 29 q.cs _ (fun w' hw' => HQ.out.keep hw') Tryd.underlying29 rfl fr_size) hS ?_
          try simp only [Act.put, List.setIfInBounds_toArray, List.set_cons_zero, List.set_cons_succ]
          refine wpAnyH_ready (rs := [1]) (by kernel_rfl) (by simp) ?_
          refine AllReadyH.cons (o := _) (by simp only [List.getElem?_toArray, List.getElem?_cons_succ, List.getElem?_cons_zero] <;> exact rfl) (fun K hK => ?_) ?_
          focus (
            go_simp
            go_at_call 21
            refine (rq_Fields q _ (HT.out.keep hS) HN.out.1 HN.out.2 HR.out.1 HR.out.2).mono ?_
            rintro e wc1 ⟨r, rfl, hown, hb⟩
            have hS := hS.trans (hb.mono hS.size)
            obtain ⟨A1, c1, rfl, hl1⟩ := own_fields hown
            have HA := hide hl1
            clear hown hl1
            clear hb
            go_wp2_with fail
            refine hK.out _ _ hS (fun _ => ?_)
            clear hK K
            try simp only [Act.put, List.setIfInBounds_toArray, List.set_cons_zero, List.set_cons_succ]
            refine wpAnyH_ready (rs := [3]) (by kernel_rfl) (by simp) ?_
            refine AllReadyH.cons (o := _) (by simp only [List.getElem?_toArray, List.getElem?_cons_succ, List.getElem?_cons_zero] <;> exact rfl) (fun K hK => ?_) ?_
            focus (
              go_simp
              go_at_call 22
              refine (rg_Fields q _ HM.out.1 HM.out.2.1 HM.out.2.2).mono ?_
              rintro e wc2 ⟨r, rfl, hown, hb⟩
              have hS := hS.trans (hb.mono hS.size)
              obtain ⟨A2, c2, rfl, hl2⟩ := own_fields hown
              have HC := hide hl2
              have HA1 := hide (HA.out.keep hb)
              clear hown hl2 HA
              clear hb
              go_wp2_with fail
              refine hK.out _ _ hS (fun _ => ?_)
              clear hK K
              try simp only [Act.put, List.setIfInBounds_toArray, List.set_cons_zero, List.set_cons_succ]
              refine wpAnyH_ready (rs := [4]) (by kernel_rfl) (by simp) ?_
              refine AllReadyH.cons (o := _) (by simp only [List.getElem?_toArray, List.getElem?_cons_succ, List.getElem?_cons_zero] <;> exact rfl) (fun K hK => ?_) ?_
              focus (
                go_simp
                go_at_call 20
                refine (rf_SameFields _ _ _ _ _ _ _ _ _ HA1.out HC.out HLE.out HLE.out).mono ?_
                rintro e wc3 ⟨rfl, hb⟩
                have hS := hS.trans (hb.mono hS.size)
                rw [decide_eq_true rfl]
                clear hb
                go_wp2_with fail
                refine hK.out _ _ hS (fun _ => ?_)
                clear hK K
                try simp only [Act.put, List.setIfInBounds_toArray, List.set_cons_zero, List.set_cons_succ]
                refine wpAnyH_take (i := 5) (v := ?_) (by simp only [List.getElem?_toArray, List.getElem?_cons_succ, List.getElem?_cons_zero] <;> exact rfl) (by kernel_rfl) (by kernel_rfl) (by kernel_rfl) (fun _ _ _ h => h) (Or.inl ⟨by rfl, ?_⟩) hS ?_
                rotate_left
                focus (intro w' hw'; go_simp; all_goals with_reducible rfl)
                try simp only [Act.put, List.setIfInBounds_toArray, List.set_cons_zero, List.set_cons_succ]
                refine wpAnyH_ready (rs := [6]) (by kernel_rfl) (by simp) ?_
                refine AllReadyH.cons (o := _) (by simp only [List.getElem?_toArray, List.getElem?_cons_succ, List.getElem?_cons_zero] <;> exact rfl) (fun K hK => ?_) ?_
                focus (
                  go_simp
                  go_at_call 9
                  refine (aw_awake _ (HT.out.keep hS)).mono ?_
                  rintro e wc4 ⟨rfl, hb⟩
                  have hS := hS.trans (hb.mono hS.size)
                  clear hb
                  go_wp2_with fail
                  refine hK.out _ _ hS (fun _ => ?_)
                  clear hK K
                  try simp only [Act.put, List.setIfInBounds_toArray, List.set_cons_zero, List.set_cons_succ]
                  refine wpAnyH_take (i := 7) (v := ?_) (by simp only [List.getElem?_toArray, List.getElem?_cons_succ, List.getElem?_cons_zero] <;> exact rfl) (by kernel_rfl) (by kernel_rfl) (by kernel_rfl) (fun _ _ _ h => h) (Or.inl ⟨by rfl, ?_⟩) hS ?_
                  rotate_left
                  focus (intro w' hw'; go_simp; all_goals with_reducible rfl)
                  try simp only [Act.put, List.setIfInBounds_toArray, List.set_cons_zero, List.set_cons_succ]
                  refine wpAnyH_take (i := 8) (v := ?_) (by simp only [List.getElem?_toArray, List.getElem?_cons_succ, List.getElem?_cons_zero] <;> exact rfl) (by kernel_rfl) (by kernel_rfl) (by kernel_rfl) (fun _ _ _ h => h) (Or.inl ⟨by rfl, ?_⟩) hS ?_
                  rotate_left
                  focus (intro w' hw'; go_simp; all_goals with_reducible rfl)
                  try simp only [Act.put, List.setIfInBounds_toArray, List.set_cons_zero, List.set_cons_succ]
                  refine wpAnyH_done (by kernel_rfl) ?_ _
                  refine NoPanic.normal ?_
                  go_wp2
                  go_ret
                  exact ⟨rfl, HB.out.trans (hS.mono HB.out.size)⟩)
                exact AllReadyH.nil)
              exact AllReadyH.nil)
            exact AllReadyH.nil)
          exact AllReadyH.nil
end Go.Proofs.YtlbhnbloanamfaaDoor.requestFields
