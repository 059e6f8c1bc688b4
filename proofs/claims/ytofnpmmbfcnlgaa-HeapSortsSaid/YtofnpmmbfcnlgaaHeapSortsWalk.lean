/-
  HeapSorts: its walk (written by gen24sorts.py).
-/
import Derived.Test.YtofnpmmbfcnlgaaHpN
import Derived.BigGuardPart
namespace Go.Proofs.Ytofnpmmbfcnlgaa.heapSorts
set_option linter.unusedSimpArgs false
set_option linter.unusedVariables false
open Go.RowKit

set_option maxRecDepth 100000 in
set_option maxHeartbeats 6400000 in
theorem walk_at (A : Option Addr) (n c : Nat) (l : List It) (a b : It) (w : World) (hl : IL w A n c l) :
    Calls Try.prog 3 #[.slice A n c, .agg #[.int .i64 a.k, .int .i64 a.d], .agg #[.int .i64 b.k, .int .i64 b.d]] w fun e w' => e = .returned (.bool true) ∧ Below w.heap.size w w' := by
  have HBW := hide (bel2 w (.cells #[.int .i64 a.k, .int .i64 a.d] 24) (.cells #[.int .i64 b.k, .int .i64 b.d] 24))
  have HMX := hide hl.max
  have HLE := hide hl.le
  by_cases hn : (n : Int) ≤ 60
  · have KA := hide (new2' w #[.int .i64 a.k, .int .i64 a.d] 24 #[.int .i64 b.k, .int .i64 b.d] 24)
    have KB := hide (new2 w (.cells #[.int .i64 a.k, .int .i64 a.d] 24) 24 #[.int .i64 b.k, .int .i64 b.d])
    have HL := hide (hl.keep HBW.out)
    have HN := hide (show (n : Int) ≤ 200 by omega)
    clear hl
    go_enter Try.func3, Try.ntmps3
    go_upto_region 3 with (fail)
    obtain ⟨ga, hga⟩ : ∃ g, w.heap.size = g := ⟨_, rfl⟩
    rw [hga] at KA KB ⊢
    clear hga
    generalize ((w.alloc (.cells #[.int .i64 a.k, .int .i64 a.d] 24)).alloc (.cells #[.int .i64 b.k, .int .i64 b.d] 24)) = w1 at KA KB HL HBW ⊢
    go_wp2_with fail
    refine (n_own _ _ _ _ _ HL.out HN.out).mono ?_
    rintro e w2 ⟨A1, c1, rfl, ho, hb⟩
    have HO := hide ho
    have HB2 := hide hb
    clear ho hb
    go_wp2_with fail
    refine (n_Of _ _ _ _ _ (own_ils HO.out) HN.out).mono ?_
    rintro e wk ⟨Ah, ch, rfl, ho, hb⟩
    have HHk := hide (own_ils ho)
    have HB3 := hide (HB2.out.trans (hb.mono HB2.out.size))
    have HLk := hide (HL.out.keep HB3.out)
    have KAk := hide (KA.out.keep HB3.out)
    have KBk := hide (KB.out.keep HB3.out)
    have HBk := hide (HBW.out.trans (HB3.out.mono HBW.out.size))
    clear ho hb KA KB HL HB2 HB3 HO HBW
    go_wp2_with fail
    refine wp_region_noPanic ?_
    refine wp_region_held_drew (S := fun w' => Below wk.heap.size wk w') (by kernel_rfl) (Below.refl _ _).drew (fun hS => ?_)
    generalize wk.drew = wd at hS ⊢
    refine wpAnyH_take (i := 0) (v := ?_) (by simp only [List.getElem?_toArray, List.getElem?_cons_succ, List.getElem?_cons_zero] <;> exact rfl) (by kernel_rfl) (by kernel_rfl) (by kernel_rfl) (fun _ _ _ h => h) (Or.inl ⟨by rfl, ?_⟩) hS ?_
    rotate_left
    focus (intro w' hw'; go_simp; all_goals with_reducible rfl)
    try simp only [Act.put, List.setIfInBounds_toArray, List.set_cons_zero, List.set_cons_succ]
    refine wpAnyH_take (i := 4) (v := ?_) (by simp only [List.getElem?_toArray, List.getElem?_cons_succ, List.getElem?_cons_zero] <;> exact rfl) (by kernel_rfl) (by kernel_rfl) (by kernel_rfl) (fun _ _ _ h => h) (Or.inl ⟨by rfl, ?_⟩) hS ?_
    rotate_left
    focus (intro w' hw'; go_simp; all_goals with_reducible rfl)
    try simp only [Act.put, List.setIfInBounds_toArray, List.set_cons_zero, List.set_cons_succ]
    refine wpAnyH_ready (rs := [1]) (by kernel_rfl) (by simp) ?_
    refine AllReadyH.cons (o := _) (by simp only [List.getElem?_toArray, List.getElem?_cons_succ, List.getElem?_cons_zero] <;> exact rfl) (fun K hK => ?_) ?_
    focus (
      go_simp
      go_at_call 8
      refine (n_own _ _ _ _ _ (HLk.out.keep hS) HN.out).mono ?_
      rintro e wc1 ⟨A1, c1, rfl, ho, hb⟩
      have hS := hS.trans (hb.mono hS.size)
      have I1 := own_ils ho
      clear ho
      clear hb
      go_wp2_with fail
      refine hK.out _ _ hS (fun _ => ?_)
      clear hK K
      try simp only [Act.put, List.setIfInBounds_toArray, List.set_cons_zero, List.set_cons_succ]
      refine wpAnyH_ready (rs := [2]) (by kernel_rfl) (by simp) ?_
      refine AllReadyH.cons (o := _) (by simp only [List.getElem?_toArray, List.getElem?_cons_succ, List.getElem?_cons_zero] <;> exact rfl) (fun K hK => ?_) ?_
      focus (
        go_simp
        go_at_call 11
        refine (n_Sorted _ _ _ _ _ I1 HN.out).mono ?_
        rintro e wc2 ⟨A2, c2, rfl, ho, hb⟩
        have hS := hS.trans (hb.mono hS.size)
        have I2 := own_ils ho
        clear ho
        clear I1
        clear hb
        go_wp2_with fail
        refine hK.out _ _ hS (fun _ => ?_)
        clear hK K
        try simp only [Act.put, List.setIfInBounds_toArray, List.set_cons_zero, List.set_cons_succ]
        refine wpAnyH_ready (rs := [3]) (by kernel_rfl) (by simp) ?_
        refine AllReadyH.cons (o := _) (by simp only [List.getElem?_toArray, List.getElem?_cons_succ, List.getElem?_cons_zero] <;> exact rfl) (fun K hK => ?_) ?_
        focus (
          go_simp
          go_at_call 10
          refine (n_back _ _ _ _ _ I2 HN.out).mono ?_
          rintro e wc3 ⟨A3, c3, rfl, ho, hb⟩
          have hS := hS.trans (hb.mono hS.size)
          have I3 := own_ils ho
          clear ho
          clear I2
          clear hb
          go_wp2_with fail
          refine hK.out _ _ hS (fun _ => ?_)
          clear hK K
          try simp only [Act.put, List.setIfInBounds_toArray, List.set_cons_zero, List.set_cons_succ]
          refine wpAnyH_ready (rs := [5]) (by kernel_rfl) (by simp) ?_
          refine AllReadyH.cons (o := _) (by simp only [List.getElem?_toArray, List.getElem?_cons_succ, List.getElem?_cons_zero] <;> exact rfl) (fun K hK => ?_) ?_
          focus (
            go_simp
            go_at_call 12
            refine (r_Sorted _ _ _ _ _ (HLk.out.keep hS) HN.out).mono ?_
            rintro e wc4 ⟨A4, c4, rfl, ho, hb⟩
            have hS := hS.trans (hb.mono hS.size)
            have I3 := I3.keep hb
            have I4 := own_ils ho
            clear ho
            clear hb
            go_wp2_with fail
            refine hK.out _ _ hS (fun _ => ?_)
            clear hK K
            try simp only [Act.put, List.setIfInBounds_toArray, List.set_cons_zero, List.set_cons_succ]
            refine wpAnyH_ready (rs := [6]) (by kernel_rfl) (by simp) ?_
            refine AllReadyH.cons (o := _) (by simp only [List.getElem?_toArray, List.getElem?_cons_succ, List.getElem?_cons_zero] <;> exact rfl) (fun K hK => ?_) ?_
            focus (
              go_simp
              go_at_call 9
              refine (r_Same _ _ _ _ _ I3 HN.out _ _ _ _ I4 HN.out (sort_same _)).mono ?_
              rintro e wc5 ⟨rfl, hb⟩
              have hS := hS.trans (hb.mono hS.size)
              clear I3
              clear I4
              clear hb
              go_wp2_with fail
              refine hK.out _ _ hS (fun _ => ?_)
              clear hK K
              try simp only [Act.put, List.setIfInBounds_toArray, List.set_cons_zero, List.set_cons_succ]
              refine wpAnyH_take (i := 7) (v := ?_) (by simp only [List.getElem?_toArray, List.getElem?_cons_succ, List.getElem?_cons_zero] <;> exact rfl) (by kernel_rfl) (by kernel_rfl) (by kernel_rfl) (fun _ _ _ h => h) (Or.inl ⟨by rfl, ?_⟩) hS ?_
              rotate_left
              focus (intro w' hw'; go_simp; all_goals with_reducible rfl)
              try simp only [Act.put, List.setIfInBounds_toArray, List.set_cons_zero, List.set_cons_succ]
              refine wpAnyH_take (i := 8) (v := ?_) (by simp only [List.getElem?_toArray, List.getElem?_cons_succ, List.getElem?_cons_zero] <;> exact rfl) (by kernel_rfl) (by kernel_rfl) (by kernel_rfl) (fun _ _ _ h => h) (Or.inl ⟨by rfl, ?_⟩) hS ?_
              rotate_left
              focus (intro w' hw'; go_simp; all_goals with_reducible rfl)
              try simp only [Act.put, List.setIfInBounds_toArray, List.set_cons_zero, List.set_cons_succ]
              refine wpAnyH_take (i := 11) (v := ?_) (by simp only [List.getElem?_toArray, List.getElem?_cons_succ, List.getElem?_cons_zero] <;> exact rfl) (by kernel_rfl) (by kernel_rfl) (by kernel_rfl) (fun _ _ _ h => h) (Or.inl ⟨by rfl, ?_⟩) hS ?_
              rotate_left
              focus (intro w' hw'; go_simp; all_goals with_reducible rfl)
              try simp only [Act.put, List.setIfInBounds_toArray, List.set_cons_zero, List.set_cons_succ]
              refine wpAnyH_ready (rs := [9]) (by kernel_rfl) (by simp) ?_
              refine AllReadyH.cons (o := _) (by simp only [List.getElem?_toArray, List.getElem?_cons_succ, List.getElem?_cons_zero] <;> exact rfl) (fun K hK => ?_) ?_
              focus (
                go_simp
                go_at_call 8
                refine (n_own _ _ _ _ _ (HLk.out.keep hS) HN.out).mono ?_
                rintro e wc6 ⟨A5, c5, rfl, ho, hb⟩
                have hS := hS.trans (hb.mono hS.size)
                have I5 := own_ils ho
                clear ho
                clear hb
                go_wp2_with fail
                refine hK.out _ _ hS (fun _ => ?_)
                clear hK K
                try simp only [Act.put, List.setIfInBounds_toArray, List.set_cons_zero, List.set_cons_succ]
                refine wpAnyH_ready (rs := [10]) (by kernel_rfl) (by simp) ?_
                refine AllReadyH.cons (o := _) (by simp only [List.getElem?_toArray, List.getElem?_cons_succ, List.getElem?_cons_zero] <;> exact rfl) (fun K hK => ?_) ?_
                focus (
                  go_simp
                  go_at_call 13
                  refine (n_Check _ _ _ _ _ I5 HN.out).mono ?_
                  rintro e wc7 ⟨rfl, hb⟩
                  have hS := hS.trans (hb.mono hS.size)
                  clear I5
                  clear hb
                  go_wp2_with fail
                  refine hK.out _ _ hS (fun _ => ?_)
                  clear hK K
                  try simp only [Act.put, List.setIfInBounds_toArray, List.set_cons_zero, List.set_cons_succ]
                  refine wpAnyH_ready (rs := [12]) (by kernel_rfl) (by simp) ?_
                  refine AllReadyH.cons (o := _) (by simp only [List.getElem?_toArray, List.getElem?_cons_succ, List.getElem?_cons_zero] <;> exact rfl) (fun K hK => ?_) ?_
                  focus (
                    go_simp
                    go_at_call 14
                    refine (r_Check _ _ _ _ _ (HLk.out.keep hS) HN.out).mono ?_
                    rintro e wc8 ⟨rfl, hb⟩
                    have hS := hS.trans (hb.mono hS.size)
                    clear hb
                    go_wp2_with fail
                    refine hK.out _ _ hS (fun _ => ?_)
                    clear hK K
                    try simp only [Act.put, List.setIfInBounds_toArray, List.set_cons_zero, List.set_cons_succ]
                    refine wpAnyH_take (i := 13) (v := ?_) (by simp only [List.getElem?_toArray, List.getElem?_cons_succ, List.getElem?_cons_zero] <;> exact rfl) (by kernel_rfl) (by kernel_rfl) (by kernel_rfl) (fun _ _ _ h => h) (Or.inl ⟨by rfl, ?_⟩) hS ?_
                    rotate_left
                    focus (intro w' hw'; go_simp; all_goals with_reducible rfl)
                    try simp only [Act.put, List.setIfInBounds_toArray, List.set_cons_zero, List.set_cons_succ]
                    refine wpAnyH_take (i := 14) (v := ?_) (by simp only [List.getElem?_toArray, List.getElem?_cons_succ, List.getElem?_cons_zero] <;> exact rfl) (by kernel_rfl) (by kernel_rfl) (by kernel_rfl) (fun _ _ _ h => h) (Or.inl ⟨by rfl, ?_⟩) hS ?_
                    rotate_left
                    focus (intro w' hw'; go_simp; all_goals with_reducible rfl)
                    try simp only [Act.put, List.setIfInBounds_toArray, List.set_cons_zero, List.set_cons_succ]
                    refine wpAnyH_take (i := 15) (v := ?_) (by simp only [List.getElem?_toArray, List.getElem?_cons_succ, List.getElem?_cons_zero] <;> exact rfl) (by kernel_rfl) (by kernel_rfl) (by kernel_rfl) (fun _ _ _ h => h) (Or.inl ⟨by rfl, ?_⟩) hS ?_
                    rotate_left
                    focus (intro w' hw'; go_simp; all_goals with_reducible rfl)
                    try simp only [Act.put, List.setIfInBounds_toArray, List.set_cons_zero, List.set_cons_succ]
                    refine wpAnyH_take (i := 16) (v := ?_) (by simp only [List.getElem?_toArray, List.getElem?_cons_succ, List.getElem?_cons_zero] <;> exact rfl) (by kernel_rfl) (by kernel_rfl) (by kernel_rfl) (fun _ _ _ h => h) (Or.inl ⟨by rfl, ?_⟩) hS ?_
                    rotate_left
                    focus (intro w' hw'; obtain ⟨p0, p1⟩ := it_two (KAk.out.keep hw'); go_simp; all_goals with_reducible rfl)
                    try simp only [Act.put, List.setIfInBounds_toArray, List.set_cons_zero, List.set_cons_succ]
                    refine wpAnyH_take (i := 17) (v := ?_) (by simp only [List.getElem?_toArray, List.getElem?_cons_succ, List.getElem?_cons_zero] <;> exact rfl) (by kernel_rfl) (by kernel_rfl) (by kernel_rfl) (fun _ _ _ h => h) (Or.inl ⟨by rfl, ?_⟩) hS ?_
                    rotate_left
                    focus (intro w' hw'; obtain ⟨p0, p1⟩ := it_two (KBk.out.keep hw'); go_simp; all_goals with_reducible rfl)
                    try simp only [Act.put, List.setIfInBounds_toArray, List.set_cons_zero, List.set_cons_succ]
                    refine wpAnyH_take (i := 19) (v := ?_) (by simp only [List.getElem?_toArray, List.getElem?_cons_succ, List.getElem?_cons_zero] <;> exact rfl) (by kernel_rfl) (by kernel_rfl) (by kernel_rfl) (fun _ _ _ h => h) (Or.inl ⟨by rfl, ?_⟩) hS ?_
                    rotate_left
                    focus (intro w' hw'; obtain ⟨p0, p1⟩ := it_two (KAk.out.keep hw'); go_simp; all_goals with_reducible rfl)
                    try simp only [Act.put, List.setIfInBounds_toArray, List.set_cons_zero, List.set_cons_succ]
                    refine wpAnyH_take (i := 20) (v := ?_) (by simp only [List.getElem?_toArray, List.getElem?_cons_succ, List.getElem?_cons_zero] <;> exact rfl) (by kernel_rfl) (by kernel_rfl) (by kernel_rfl) (fun _ _ _ h => h) (Or.inl ⟨by rfl, ?_⟩) hS ?_
                    rotate_left
                    focus (intro w' hw'; obtain ⟨p0, p1⟩ := it_two (KBk.out.keep hw'); go_simp; all_goals with_reducible rfl)
                    try simp only [Act.put, List.setIfInBounds_toArray, List.set_cons_zero, List.set_cons_succ]
                    refine wpAnyH_ready (rs := [18]) (by kernel_rfl) (by simp) ?_
                    refine AllReadyH.cons (o := _) (by simp only [List.getElem?_toArray, List.getElem?_cons_succ, List.getElem?_cons_zero] <;> exact rfl) (fun K hK => ?_) ?_
                    focus (
                      go_simp
                      go_at_call 15
                      refine (hp_Less a b _).mono ?_
                      rintro e wc9 ⟨rfl, hb⟩
                      have hS := hS.trans (hb.mono hS.size)
                      clear hb
                      go_wp2_with fail
                      refine hK.out _ _ hS (fun _ => ?_)
                      clear hK K
                      try simp only [Act.put, List.setIfInBounds_toArray, List.set_cons_zero, List.set_cons_succ]
                      refine wpAnyH_ready (rs := [21]) (by kernel_rfl) (by simp) ?_
                      refine AllReadyH.cons (o := _) (by simp only [List.getElem?_toArray, List.getElem?_cons_succ, List.getElem?_cons_zero] <;> exact rfl) (fun K hK => ?_) ?_
                      focus (
                        go_simp
                        go_at_call 16
                        refine (rh_Less a b _).mono ?_
                        rintro e wc10 ⟨rfl, hb⟩
                        have hS := hS.trans (hb.mono hS.size)
                        clear hb
                        go_wp2_with fail
                        refine hK.out _ _ hS (fun _ => ?_)
                        clear hK K
                        try simp only [Act.put, List.setIfInBounds_toArray, List.set_cons_zero, List.set_cons_succ]
                        refine wpAnyH_take (i := 22) (v := ?_) (by simp only [List.getElem?_toArray, List.getElem?_cons_succ, List.getElem?_cons_zero] <;> exact rfl) (by kernel_rfl) (by kernel_rfl) (by kernel_rfl) (fun _ _ _ h => h) (Or.inl ⟨by rfl, ?_⟩) hS ?_
                        rotate_left
                        focus (intro w' hw'; go_simp; all_goals with_reducible rfl)
                        try simp only [Act.put, List.setIfInBounds_toArray, List.set_cons_zero, List.set_cons_succ]
                        refine wpAnyH_take (i := 23) (v := ?_) (by simp only [List.getElem?_toArray, List.getElem?_cons_succ, List.getElem?_cons_zero] <;> exact rfl) (by kernel_rfl) (by kernel_rfl) (by kernel_rfl) (fun _ _ _ h => h) (Or.inl ⟨by rfl, ?_⟩) hS ?_
                        rotate_left
                        focus (intro w' hw'; go_simp; all_goals with_reducible rfl)
                        try simp only [Act.put, List.setIfInBounds_toArray, List.set_cons_zero, List.set_cons_succ]
                        refine wpAnyH_take (i := 24) (v := ?_) (by simp only [List.getElem?_toArray, List.getElem?_cons_succ, List.getElem?_cons_zero] <;> exact rfl) (by kernel_rfl) (by kernel_rfl) (by kernel_rfl) (fun _ _ _ h => h) (Or.inl ⟨by rfl, ?_⟩) hS ?_
                        rotate_left
                        focus (intro w' hw'; go_simp; all_goals with_reducible rfl)
                        try simp only [Act.put, List.setIfInBounds_toArray, List.set_cons_zero, List.set_cons_succ]
                        refine wpAnyH_take (i := 25) (v := ?_) (by simp only [List.getElem?_toArray, List.getElem?_cons_succ, List.getElem?_cons_zero] <;> exact rfl) (by kernel_rfl) (by kernel_rfl) (by kernel_rfl) (fun _ _ _ h => h) (Or.inl ⟨by rfl, ?_⟩) hS ?_
                        rotate_left
                        focus (intro w' hw'; go_simp; all_goals with_reducible rfl)
                        try simp only [Act.put, List.setIfInBounds_toArray, List.set_cons_zero, List.set_cons_succ]
                        refine wpAnyH_ready (rs := [26]) (by kernel_rfl) (by simp) ?_
                        refine AllReadyH.cons (o := _) (by simp only [List.getElem?_toArray, List.getElem?_cons_succ, List.getElem?_cons_zero] <;> exact rfl) (fun K hK => ?_) ?_
                        focus (
                          go_simp
                          go_at_call 13
                          refine (n_Check0 _ _ _ _ _ (HHk.out.keep hS) HN.out (of_ok _)).mono ?_
                          rintro e wc11 ⟨rfl, hb⟩
                          have hS := hS.trans (hb.mono hS.size)
                          clear hb
                          go_wp2_with fail
                          refine hK.out _ _ hS (fun _ => ?_)
                          clear hK K
                          try simp only [Act.put, List.setIfInBounds_toArray, List.set_cons_zero, List.set_cons_succ]
                          refine wpAnyH_take (i := 27) (v := ?_) (by simp only [List.getElem?_toArray, List.getElem?_cons_succ, List.getElem?_cons_zero] <;> exact rfl) (by kernel_rfl) (by kernel_rfl) (by kernel_rfl) (fun _ _ _ h => h) (Or.inl ⟨by rfl, ?_⟩) hS ?_
                          rotate_left
                          focus (intro w' hw'; go_simp; all_goals with_reducible rfl)
                          try simp only [Act.put, List.setIfInBounds_toArray, List.set_cons_zero, List.set_cons_succ]
                          refine wpAnyH_take (i := 28) (v := ?_) (by simp only [List.getElem?_toArray, List.getElem?_cons_succ, List.getElem?_cons_zero] <;> exact rfl) (by kernel_rfl) (by kernel_rfl) (by kernel_rfl) (fun _ _ _ h => h) (Or.inl ⟨by rfl, ?_⟩) hS ?_
                          rotate_left
                          focus (intro w' hw'; go_simp; all_goals with_reducible rfl)
                          try simp only [Act.put, List.setIfInBounds_toArray, List.set_cons_zero, List.set_cons_succ]
                          refine wpAnyH_take (i := 29) (v := ?_) (by simp only [List.getElem?_toArray, List.getElem?_cons_succ, List.getElem?_cons_zero] <;> exact rfl) (by kernel_rfl) (by kernel_rfl) (by kernel_rfl) (fun _ _ _ h => h) (Or.inl ⟨by rfl, ?_⟩) hS ?_
                          rotate_left
                          focus (intro w' hw'; go_simp; all_goals with_reducible rfl)
                          try simp only [Act.put, List.setIfInBounds_toArray, List.set_cons_zero, List.set_cons_succ]
                          refine wpAnyH_take (i := 30) (v := ?_) (by simp only [List.getElem?_toArray, List.getElem?_cons_succ, List.getElem?_cons_zero] <;> exact rfl) (by kernel_rfl) (by kernel_rfl) (by kernel_rfl) (fun _ _ _ h => h) (Or.inl ⟨by rfl, ?_⟩) hS ?_
                          rotate_left
                          focus (intro w' hw'; go_simp; all_goals with_reducible rfl)
                          try simp only [Act.put, List.setIfInBounds_toArray, List.set_cons_zero, List.set_cons_succ]
                          refine wpAnyH_take (i := 33) (v := ?_) (by simp only [List.getElem?_toArray, List.getElem?_cons_succ, List.getElem?_cons_zero] <;> exact rfl) (by kernel_rfl) (by kernel_rfl) (by kernel_rfl) (fun _ _ _ h => h) (Or.inl ⟨by rfl, ?_⟩) hS ?_
                          rotate_left
                          focus (intro w' hw'; go_simp; all_goals with_reducible rfl)
                          try simp only [Act.put, List.setIfInBounds_toArray, List.set_cons_zero, List.set_cons_succ]
                          refine wpAnyH_ready (rs := [31]) (by kernel_rfl) (by simp) ?_
                          refine AllReadyH.cons (o := _) (by simp only [List.getElem?_toArray, List.getElem?_cons_succ, List.getElem?_cons_zero] <;> exact rfl) (fun K hK => ?_) ?_
                          focus (
                            go_simp
                            go_at_call 10
                            refine (n_back _ _ _ _ _ (HHk.out.keep hS) HN.out).mono ?_
                            rintro e wc12 ⟨A6, c6, rfl, ho, hb⟩
                            have hS := hS.trans (hb.mono hS.size)
                            have I6 := own_ils ho
                            clear ho
                            clear hb
                            go_wp2_with fail
                            refine hK.out _ _ hS (fun _ => ?_)
                            clear hK K
                            try simp only [Act.put, List.setIfInBounds_toArray, List.set_cons_zero, List.set_cons_succ]
                            refine wpAnyH_ready (rs := [32]) (by kernel_rfl) (by simp) ?_
                            refine AllReadyH.cons (o := _) (by simp only [List.getElem?_toArray, List.getElem?_cons_succ, List.getElem?_cons_zero] <;> exact rfl) (fun K hK => ?_) ?_
                            focus (
                              go_simp
                              go_at_call 12
                              refine (r_Sorted _ _ _ _ _ I6 HN.out).mono ?_
                              rintro e wc13 ⟨A7, c7, rfl, ho, hb⟩
                              have hS := hS.trans (hb.mono hS.size)
                              have I7 := own_ils ho
                              clear ho
                              clear I6
                              clear hb
                              go_wp2_with fail
                              refine hK.out _ _ hS (fun _ => ?_)
                              clear hK K
                              try simp only [Act.put, List.setIfInBounds_toArray, List.set_cons_zero, List.set_cons_succ]
                              refine wpAnyH_ready (rs := [34]) (by kernel_rfl) (by simp) ?_
                              refine AllReadyH.cons (o := _) (by simp only [List.getElem?_toArray, List.getElem?_cons_succ, List.getElem?_cons_zero] <;> exact rfl) (fun K hK => ?_) ?_
                              focus (
                                go_simp
                                go_at_call 12
                                refine (r_Sorted _ _ _ _ _ (HLk.out.keep hS) HN.out).mono ?_
                                rintro e wc14 ⟨A8, c8, rfl, ho, hb⟩
                                have hS := hS.trans (hb.mono hS.size)
                                have I7 := I7.keep hb
                                have I8 := own_ils ho
                                clear ho
                                clear hb
                                go_wp2_with fail
                                refine hK.out _ _ hS (fun _ => ?_)
                                clear hK K
                                try simp only [Act.put, List.setIfInBounds_toArray, List.set_cons_zero, List.set_cons_succ]
                                refine wpAnyH_ready (rs := [35]) (by kernel_rfl) (by simp) ?_
                                refine AllReadyH.cons (o := _) (by simp only [List.getElem?_toArray, List.getElem?_cons_succ, List.getElem?_cons_zero] <;> exact rfl) (fun K hK => ?_) ?_
                                focus (
                                  go_simp
                                  go_at_call 9
                                  refine (r_Same _ _ _ _ _ I7 HN.out _ _ _ _ I8 HN.out (sortR_one (of_perm _))).mono ?_
                                  rintro e wc15 ⟨rfl, hb⟩
                                  have hS := hS.trans (hb.mono hS.size)
                                  clear I7
                                  clear I8
                                  clear hb
                                  go_wp2_with fail
                                  refine hK.out _ _ hS (fun _ => ?_)
                                  clear hK K
                                  try simp only [Act.put, List.setIfInBounds_toArray, List.set_cons_zero, List.set_cons_succ]
                                  refine wpAnyH_take (i := 36) (v := ?_) (by simp only [List.getElem?_toArray, List.getElem?_cons_succ, List.getElem?_cons_zero] <;> exact rfl) (by kernel_rfl) (by kernel_rfl) (by kernel_rfl) (fun _ _ _ h => h) (Or.inl ⟨by rfl, ?_⟩) hS ?_
                                  rotate_left
                                  focus (intro w' hw'; go_simp; all_goals with_reducible rfl)
                                  try simp only [Act.put, List.setIfInBounds_toArray, List.set_cons_zero, List.set_cons_succ]
                                  refine wpAnyH_take (i := 37) (v := ?_) (by simp only [List.getElem?_toArray, List.getElem?_cons_succ, List.getElem?_cons_zero] <;> exact rfl) (by kernel_rfl) (by kernel_rfl) (by kernel_rfl) (fun _ _ _ h => h) (Or.inl ⟨by rfl, ?_⟩) hS ?_
                                  rotate_left
                                  focus (intro w' hw'; go_simp; all_goals with_reducible rfl)
                                  try simp only [Act.put, List.setIfInBounds_toArray, List.set_cons_zero, List.set_cons_succ]
                                  refine wpAnyH_ready (rs := [38]) (by kernel_rfl) (by simp) ?_
                                  refine AllReadyH.cons (o := _) (by simp only [List.getElem?_toArray, List.getElem?_cons_succ, List.getElem?_cons_zero] <;> exact rfl) (fun K hK => ?_) ?_
                                  focus (
                                    go_simp
                                    go_at_call 6
                                    refine (aw_heap _).mono ?_
                                    rintro e wc16 ⟨rfl, hb⟩
                                    have hS := hS.trans (hb.mono hS.size)
                                    clear hb
                                    go_wp2_with fail
                                    refine hK.out _ _ hS (fun _ => ?_)
                                    clear hK K
                                    try simp only [Act.put, List.setIfInBounds_toArray, List.set_cons_zero, List.set_cons_succ]
                                    refine wpAnyH_take (i := 39) (v := ?_) (by simp only [List.getElem?_toArray, List.getElem?_cons_succ, List.getElem?_cons_zero] <;> exact rfl) (by kernel_rfl) (by kernel_rfl) (by kernel_rfl) (fun _ _ _ h => h) (Or.inl ⟨by rfl, ?_⟩) hS ?_
                                    rotate_left
                                    focus (intro w' hw'; go_simp; all_goals with_reducible rfl)
                                    try simp only [Act.put, List.setIfInBounds_toArray, List.set_cons_zero, List.set_cons_succ]
                                    refine wpAnyH_take (i := 40) (v := ?_) (by simp only [List.getElem?_toArray, List.getElem?_cons_succ, List.getElem?_cons_zero] <;> exact rfl) (by kernel_rfl) (by kernel_rfl) (by kernel_rfl) (fun _ _ _ h => h) (Or.inl ⟨by rfl, ?_⟩) hS ?_
                                    rotate_left
                                    focus (intro w' hw'; go_simp; all_goals with_reducible rfl)
                                    try simp only [Act.put, List.setIfInBounds_toArray, List.set_cons_zero, List.set_cons_succ]
                                    refine wpAnyH_done (by kernel_rfl) ?_ _
                                    refine NoPanic.normal ?_
                                    have HBE := hide (HBk.out.trans (hS.mono HBk.out.size))
                                    clear hS
                                    go_wp2_with fail
                                    go_ret
                                    exact ⟨rfl, HBE.out⟩)
                                  exact AllReadyH.nil)
                                exact AllReadyH.nil)
                              exact AllReadyH.nil)
                            exact AllReadyH.nil)
                          exact AllReadyH.nil)
                        exact AllReadyH.nil)
                      exact AllReadyH.nil)
                    exact AllReadyH.nil)
                  exact AllReadyH.nil)
                exact AllReadyH.nil)
              exact AllReadyH.nil)
            exact AllReadyH.nil)
          exact AllReadyH.nil)
        exact AllReadyH.nil)
      exact AllReadyH.nil)
    exact AllReadyH.nil
  · have hn' : (60 : Int) < (n : Int) := by omega
    clear hl hn
    go_enter Try.func3, Try.ntmps3
    go_wp2_with fail
    refine (aw_heap _).mono ?_
    rintro e w2 ⟨rfl, hb⟩
    have HB2 := hide (HBW.out.trans (hb.mono HBW.out.size))
    clear hb
    go_wp2_with fail
    go_ret
    exact ⟨rfl, HB2.out⟩
theorem walk (A : Option Addr) (n c : Nat) (l : List It) (f1_0 f1_1 f2_0 f2_1 : Int) (w : World) (hl : IL w A n c l) (_ : (Lit.int .i64 f1_0).wf = true) (_ : (Lit.int .i64 f1_1).wf = true) (_ : (Lit.int .i64 f2_0).wf = true) (_ : (Lit.int .i64 f2_1).wf = true) :
    Calls Try.prog 3 #[.slice A n c, .agg #[.int .i64 f1_0, .int .i64 f1_1], .agg #[.int .i64 f2_0, .int .i64 f2_1]] w fun e w' => e = .returned (.bool true) ∧ Below w.heap.size w w' := walk_at A n c l ⟨f1_0, f1_1⟩ ⟨f2_0, f2_1⟩ w hl
end Go.Proofs.Ytofnpmmbfcnlgaa.heapSorts
