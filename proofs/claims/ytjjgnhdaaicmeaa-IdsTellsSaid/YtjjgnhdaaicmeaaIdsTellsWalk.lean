/-
  IdsTells: its walk (written by gen15tells.py).
-/
import Derived.Test.YtjjgnhdaaicmeaaIdAwake
import Derived.Test.YtjjgnhdaaicmeaaRdCheck
import Derived.BigGuardPart
namespace Go.Proofs.Ytjjgnhdaaicmeaa.idsTells
set_option linter.unusedSimpArgs false
set_option linter.unusedVariables false
open Go.RowKit

set_option maxRecDepth 100000 in
set_option maxHeartbeats 6400000 in
theorem walk (L : Int) (A : Option Addr) (n c : Nat) (op : List Int) (B : Option Addr) (m d : Nat) (cu : List Int) (L' : Int) (A' : Option Addr) (n' c' : Nat) (op' : List Int) (B' : Option Addr) (m' d' : Nat) (cu' : List Int) (id : Int) (w : World)
    (_wl : (Lit.int .i64 L).wf = true) (ho : NL .i64 w A n c op) (hc : NL .i64 w B m d cu) (_wl' : (Lit.int .i64 L').wf = true) (ho' : NL .i64 w A' n' c' op') (hc' : NL .i64 w B' m' d' cu') (_wi : (Lit.int .i64 id).wf = true) :
    Calls Try.prog 3 #[.agg #[.int .i64 L, .slice A n c, .slice B m d], .agg #[.int .i64 L', .slice A' n' c', .slice B' m' d'], .int .i64 id] w fun e w' => e = .returned (.bool true) ∧ Below w.heap.size w w' := by
  clear _wl _wl' _wi
  have HAW := hide (fun w => aw_ids w)
  have hT : TL w ⟨L, op, cu⟩ A n c B m d := ⟨ho, hc⟩
  have hU : TL w ⟨L', op', cu'⟩ A' n' c' B' m' d' := ⟨ho', hc'⟩
  have HB2 := hide (bel2 w (.cells #[.int .i64 L, .slice A n c, .slice B m d] 24) (.cells #[.int .i64 L', .slice A' n' c', .slice B' m' d'] 24))
  have HX2 := hide ((BlkIs.new w 24 #[.int .i64 L, .slice A n c, .slice B m d]).alloc (.cells #[.int .i64 L', .slice A' n' c', .slice B' m' d'] 24))
  have HY2 := hide (new2 w (.cells #[.int .i64 L, .slice A n c, .slice B m d] 24) 24 #[.int .i64 L', .slice A' n' c', .slice B' m' d'])
  have HT2 := hide (hT.keep HB2.out)
  have HU2 := hide (hU.keep HB2.out)
  clear ho hc ho' hc' hT hU
  have HL1 := hide (fun w => rd_Light L A n c B m d w)
  have HL2 := hide (fun w => rd_Light L' A' n' c' B' m' d' w)
  cases h1 : (decide ((n : Int) ≤ 40) && decide ((m : Int) ≤ 40)) with
  | false =>
    rw [h1] at HL1
    clear h1 HL2
    go_enter Try.func3, Try.ntmps3
    go_wp2_with fail
    refine (HL1.out _).mono ?_
    rintro e w2 ⟨rfl, hb2⟩
    have HB3 := hide (HB2.out.trans (hb2.mono HB2.out.size))
    clear hb2
    go_wp2_with fail
    refine (HAW.out _).mono ?_
    rintro e w3 ⟨rfl, hb3⟩
    have HB4 := hide (HB3.out.trans (hb3.mono HB3.out.size))
    clear hb3
    go_wp2
    go_ret
    exact ⟨rfl, HB4.out⟩
  | true =>
    rw [h1] at HL1
    have hnm : (n : Int) ≤ 40 ∧ (m : Int) ≤ 40 := by simpa using h1
    cases h2 : (decide ((n' : Int) ≤ 40) && decide ((m' : Int) ≤ 40)) with
    | false =>
      rw [h2] at HL2
      clear h1 h2 hnm
      go_enter Try.func3, Try.ntmps3
      go_wp2_with fail
      refine (HL1.out _).mono ?_
      rintro e w2 ⟨rfl, hb2⟩
      have HB3 := hide (HB2.out.trans (hb2.mono HB2.out.size))
      obtain ⟨j0, j1, j2⟩ := cells3 (HY2.out.keep hb2)
      clear hb2
      go_wp2_with fail
      refine (HL2.out _).mono ?_
      rintro e w3 ⟨rfl, hb3⟩
      have HB4 := hide (HB3.out.trans (hb3.mono HB3.out.size))
      clear hb3
      go_wp2_with fail
      refine (HAW.out _).mono ?_
      rintro e w4 ⟨rfl, hb4⟩
      have HB5 := hide (HB4.out.trans (hb4.mono HB4.out.size))
      clear hb4
      go_wp2
      go_ret
      exact ⟨rfl, HB5.out⟩
    | true =>
      rw [h2] at HL2
      have HC1 := hide (fun w' (h : TL w' ⟨L, op, cu⟩ A n c B m d) => id_Class ⟨L, op, cu⟩ A n c B m d id w' h (by omega) (by omega))
      have HC2 := hide (fun w' (h : TL w' ⟨L, op, cu⟩ A n c B m d) => rd_Class ⟨L, op, cu⟩ A n c B m d id w' h (by omega) (by omega))
      have HK1 := hide (fun w' (h : TL w' ⟨L, op, cu⟩ A n c B m d) => id_Check ⟨L, op, cu⟩ A n c B m d w' h (by omega) (by omega))
      have HK2 := hide (fun w' (h : TL w' ⟨L, op, cu⟩ A n c B m d) => rd_Check ⟨L, op, cu⟩ A n c B m d w' h)
      have HS1 := hide (fun w' (h : TL w' ⟨L, op, cu⟩ A n c B m d) (h' : TL w' ⟨L', op', cu'⟩ A' n' c' B' m' d') => id_Same ⟨L, op, cu⟩ ⟨L', op', cu'⟩ A n c B m d A' n' c' B' m' d' w' h h' (by omega) (by omega))
      have HS2 := hide (fun w' (h : TL w' ⟨L, op, cu⟩ A n c B m d) (h' : TL w' ⟨L', op', cu'⟩ A' n' c' B' m' d') => rd_Same ⟨L, op, cu⟩ ⟨L', op', cu'⟩ A n c B m d A' n' c' B' m' d' w' h h' (by omega) (by omega))
      generalize clsI ⟨L, op, cu⟩ id = cl at *
      generalize chkI ⟨L, op, cu⟩ = ck at *
      generalize sameI ⟨L, op, cu⟩ ⟨L', op', cu'⟩ = sm at *
      simp only at HC1 HC2 HK1 HK2 HS1 HS2
      clear h1 h2 hnm
      go_enter Try.func3, Try.ntmps3
      go_wp2_with fail
      refine (HL1.out _).mono ?_
      rintro e w2 ⟨rfl, hb2⟩
      have HBa := hide (HB2.out.trans (hb2.mono HB2.out.size))
      have HXa := hide (HX2.out.keep hb2)
      have HYa := hide (HY2.out.keep hb2)
      have HTa := hide (HT2.out.keep hb2)
      have HUa := hide (HU2.out.keep hb2)
      obtain ⟨j0, j1, j2⟩ := cells3 (HY2.out.keep hb2)
      clear hb2 HB2 HX2 HY2 HT2 HU2
      go_wp2_with fail
      refine (HL2.out _).mono ?_
      rintro e w3 ⟨rfl, hb3⟩
      have HB3 := hide (HBa.out.trans (hb3.mono HBa.out.size))
      have HX := hide (HXa.out.keep hb3)
      have HY := hide (HYa.out.keep hb3)
      have HT := hide (HTa.out.keep hb3)
      have HU := hide (HUa.out.keep hb3)
      clear hb3 HBa HXa HYa HTa HUa j0 j1 j2 HL1 HL2
      go_upto_region 3 with (fail)
      refine wp_region_noPanic ?_
      refine wp_region_held_drew (S := fun w' => Below w3.heap.size w3 w') (by kernel_rfl) (Below.refl _ _).drew (fun hS => ?_)
      generalize w3.drew = wd at hS ⊢
      refine wpAnyH_take (i := 0) (v := ?_) (by simp only [List.getElem?_toArray, List.getElem?_cons_succ, List.getElem?_cons_zero] <;> exact rfl) (by kernel_rfl) (by kernel_rfl) (by kernel_rfl) (fun _ _ _ h => h) (Or.inl ⟨by rfl, ?_⟩) hS ?_
      rotate_left
      focus (intro w' hw'; obtain ⟨k0, k1, k2⟩ := cells3 (HX.out.keep hw'); go_simp; all_goals with_reducible rfl)
      try simp only [Act.put, List.setIfInBounds_toArray, List.set_cons_zero, List.set_cons_succ]
      refine wpAnyH_take (i := 1) (v := ?_) (by simp only [List.getElem?_toArray, List.getElem?_cons_succ, List.getElem?_cons_zero] <;> exact rfl) (by kernel_rfl) (by kernel_rfl) (by kernel_rfl) (fun _ _ _ h => h) (Or.inl ⟨by rfl, ?_⟩) hS ?_
      rotate_left
      focus (intro w' hw'; go_simp; all_goals with_reducible rfl)
      try simp only [Act.put, List.setIfInBounds_toArray, List.set_cons_zero, List.set_cons_succ]
      refine wpAnyH_take (i := 3) (v := ?_) (by simp only [List.getElem?_toArray, List.getElem?_cons_succ, List.getElem?_cons_zero] <;> exact rfl) (by kernel_rfl) (by kernel_rfl) (by kernel_rfl) (fun _ _ _ h => h) (Or.inl ⟨by rfl, ?_⟩) hS ?_
      rotate_left
      focus (intro w' hw'; obtain ⟨k0, k1, k2⟩ := cells3 (HX.out.keep hw'); go_simp; all_goals with_reducible rfl)
      try simp only [Act.put, List.setIfInBounds_toArray, List.set_cons_zero, List.set_cons_succ]
      refine wpAnyH_take (i := 4) (v := ?_) (by simp only [List.getElem?_toArray, List.getElem?_cons_succ, List.getElem?_cons_zero] <;> exact rfl) (by kernel_rfl) (by kernel_rfl) (by kernel_rfl) (fun _ _ _ h => h) (Or.inl ⟨by rfl, ?_⟩) hS ?_
      rotate_left
      focus (intro w' hw'; go_simp; all_goals with_reducible rfl)
      try simp only [Act.put, List.setIfInBounds_toArray, List.set_cons_zero, List.set_cons_succ]
      refine wpAnyH_ready (rs := [2]) (by kernel_rfl) (by simp) ?_
      refine AllReadyH.cons (o := _) (by simp only [List.getElem?_toArray, List.getElem?_cons_succ, List.getElem?_cons_zero] <;> exact rfl) (fun K hK => ?_) ?_
      focus (
        go_simp
        go_at_call 7
        refine (HC1.out _ (HT.out.keep hS)).mono ?_
        rintro e wc1 ⟨rfl, hb⟩
        have hS := hS.trans (hb.mono hS.size)
        clear hb
        go_wp2_with fail
        refine hK.out _ _ hS (fun _ => ?_)
        clear hK K
        try simp only [Act.put, List.setIfInBounds_toArray, List.set_cons_zero, List.set_cons_succ]
        refine wpAnyH_ready (rs := [5]) (by kernel_rfl) (by simp) ?_
        refine AllReadyH.cons (o := _) (by simp only [List.getElem?_toArray, List.getElem?_cons_succ, List.getElem?_cons_zero] <;> exact rfl) (fun K hK => ?_) ?_
        focus (
          go_simp
          go_at_call 8
          refine (HC2.out _ (HT.out.keep hS)).mono ?_
          rintro e wc2 ⟨rfl, hb⟩
          have hS := hS.trans (hb.mono hS.size)
          clear hb
          go_wp2_with fail
          refine hK.out _ _ hS (fun _ => ?_)
          clear hK K
          try simp only [Act.put, List.setIfInBounds_toArray, List.set_cons_zero, List.set_cons_succ]
          refine wpAnyH_take (i := 6) (v := ?_) (by simp only [List.getElem?_toArray, List.getElem?_cons_succ, List.getElem?_cons_zero] <;> exact rfl) (by kernel_rfl) (by kernel_rfl) (by kernel_rfl) (fun _ _ _ h => h) (Or.inl ⟨by rfl, ?_⟩) hS ?_
          rotate_left
          focus (intro w' hw'; go_simp; all_goals with_reducible rfl)
          try simp only [Act.put, List.setIfInBounds_toArray, List.set_cons_zero, List.set_cons_succ]
          refine wpAnyH_take (i := 7) (v := ?_) (by simp only [List.getElem?_toArray, List.getElem?_cons_succ, List.getElem?_cons_zero] <;> exact rfl) (by kernel_rfl) (by kernel_rfl) (by kernel_rfl) (fun _ _ _ h => h) (Or.inl ⟨by rfl, ?_⟩) hS ?_
          rotate_left
          focus (intro w' hw'; go_simp; all_goals with_reducible rfl)
          try simp only [Act.put, List.setIfInBounds_toArray, List.set_cons_zero, List.set_cons_succ]
          refine wpAnyH_take (i := 8) (v := ?_) (by simp only [List.getElem?_toArray, List.getElem?_cons_succ, List.getElem?_cons_zero] <;> exact rfl) (by kernel_rfl) (by kernel_rfl) (by kernel_rfl) (fun _ _ _ h => h) (Or.inl ⟨by rfl, ?_⟩) hS ?_
          rotate_left
          focus (intro w' hw'; obtain ⟨k0, k1, k2⟩ := cells3 (HX.out.keep hw'); go_simp; all_goals with_reducible rfl)
          try simp only [Act.put, List.setIfInBounds_toArray, List.set_cons_zero, List.set_cons_succ]
          refine wpAnyH_take (i := 10) (v := ?_) (by simp only [List.getElem?_toArray, List.getElem?_cons_succ, List.getElem?_cons_zero] <;> exact rfl) (by kernel_rfl) (by kernel_rfl) (by kernel_rfl) (fun _ _ _ h => h) (Or.inl ⟨by rfl, ?_⟩) hS ?_
          rotate_left
          focus (intro w' hw'; obtain ⟨k0, k1, k2⟩ := cells3 (HX.out.keep hw'); go_simp; all_goals with_reducible rfl)
          try simp only [Act.put, List.setIfInBounds_toArray, List.set_cons_zero, List.set_cons_succ]
          refine wpAnyH_ready (rs := [9]) (by kernel_rfl) (by simp) ?_
          refine AllReadyH.cons (o := _) (by simp only [List.getElem?_toArray, List.getElem?_cons_succ, List.getElem?_cons_zero] <;> exact rfl) (fun K hK => ?_) ?_
          focus (
            go_simp
            go_at_call 9
            refine (HK1.out _ (HT.out.keep hS)).mono ?_
            rintro e wc3 ⟨rfl, hb⟩
            have hS := hS.trans (hb.mono hS.size)
            clear hb
            go_wp2_with fail
            refine hK.out _ _ hS (fun _ => ?_)
            clear hK K
            try simp only [Act.put, List.setIfInBounds_toArray, List.set_cons_zero, List.set_cons_succ]
            refine wpAnyH_ready (rs := [11]) (by kernel_rfl) (by simp) ?_
            refine AllReadyH.cons (o := _) (by simp only [List.getElem?_toArray, List.getElem?_cons_succ, List.getElem?_cons_zero] <;> exact rfl) (fun K hK => ?_) ?_
            focus (
              go_simp
              go_at_call 10
              refine (HK2.out _ (HT.out.keep hS)).mono ?_
              rintro e wc4 ⟨rfl, hb⟩
              have hS := hS.trans (hb.mono hS.size)
              clear hb
              go_wp2_with fail
              refine hK.out _ _ hS (fun _ => ?_)
              clear hK K
              try simp only [Act.put, List.setIfInBounds_toArray, List.set_cons_zero, List.set_cons_succ]
              refine wpAnyH_take (i := 12) (v := ?_) (by simp only [List.getElem?_toArray, List.getElem?_cons_succ, List.getElem?_cons_zero] <;> exact rfl) (by kernel_rfl) (by kernel_rfl) (by kernel_rfl) (fun _ _ _ h => h) (Or.inl ⟨by rfl, ?_⟩) hS ?_
              rotate_left
              focus (intro w' hw'; go_simp; all_goals with_reducible rfl)
              try simp only [Act.put, List.setIfInBounds_toArray, List.set_cons_zero, List.set_cons_succ]
              refine wpAnyH_take (i := 13) (v := ?_) (by simp only [List.getElem?_toArray, List.getElem?_cons_succ, List.getElem?_cons_zero] <;> exact rfl) (by kernel_rfl) (by kernel_rfl) (by kernel_rfl) (fun _ _ _ h => h) (Or.inl ⟨by rfl, ?_⟩) hS ?_
              rotate_left
              focus (intro w' hw'; go_simp; all_goals with_reducible rfl)
              try simp only [Act.put, List.setIfInBounds_toArray, List.set_cons_zero, List.set_cons_succ]
              refine wpAnyH_take (i := 14) (v := ?_) (by simp only [List.getElem?_toArray, List.getElem?_cons_succ, List.getElem?_cons_zero] <;> exact rfl) (by kernel_rfl) (by kernel_rfl) (by kernel_rfl) (fun _ _ _ h => h) (Or.inl ⟨by rfl, ?_⟩) hS ?_
              rotate_left
              focus (intro w' hw'; go_simp; all_goals with_reducible rfl)
              try simp only [Act.put, List.setIfInBounds_toArray, List.set_cons_zero, List.set_cons_succ]
              refine wpAnyH_take (i := 15) (v := ?_) (by simp only [List.getElem?_toArray, List.getElem?_cons_succ, List.getElem?_cons_zero] <;> exact rfl) (by kernel_rfl) (by kernel_rfl) (by kernel_rfl) (fun _ _ _ h => h) (Or.inl ⟨by rfl, ?_⟩) hS ?_
              rotate_left
              focus (intro w' hw'; obtain ⟨k0, k1, k2⟩ := cells3 (HX.out.keep hw'); go_simp; all_goals with_reducible rfl)
              try simp only [Act.put, List.setIfInBounds_toArray, List.set_cons_zero, List.set_cons_succ]
              refine wpAnyH_take (i := 16) (v := ?_) (by simp only [List.getElem?_toArray, List.getElem?_cons_succ, List.getElem?_cons_zero] <;> exact rfl) (by kernel_rfl) (by kernel_rfl) (by kernel_rfl) (fun _ _ _ h => h) (Or.inl ⟨by rfl, ?_⟩) hS ?_
              rotate_left
              focus (intro w' hw'; obtain ⟨k0, k1, k2⟩ := cells3 (HY.out.keep hw'); go_simp; all_goals with_reducible rfl)
              try simp only [Act.put, List.setIfInBounds_toArray, List.set_cons_zero, List.set_cons_succ]
              refine wpAnyH_take (i := 18) (v := ?_) (by simp only [List.getElem?_toArray, List.getElem?_cons_succ, List.getElem?_cons_zero] <;> exact rfl) (by kernel_rfl) (by kernel_rfl) (by kernel_rfl) (fun _ _ _ h => h) (Or.inl ⟨by rfl, ?_⟩) hS ?_
              rotate_left
              focus (intro w' hw'; obtain ⟨k0, k1, k2⟩ := cells3 (HX.out.keep hw'); go_simp; all_goals with_reducible rfl)
              try simp only [Act.put, List.setIfInBounds_toArray, List.set_cons_zero, List.set_cons_succ]
              refine wpAnyH_take (i := 19) (v := ?_) (by simp only [List.getElem?_toArray, List.getElem?_cons_succ, List.getElem?_cons_zero] <;> exact rfl) (by kernel_rfl) (by kernel_rfl) (by kernel_rfl) (fun _ _ _ h => h) (Or.inl ⟨by rfl, ?_⟩) hS ?_
              rotate_left
              focus (intro w' hw'; obtain ⟨k0, k1, k2⟩ := cells3 (HY.out.keep hw'); go_simp; all_goals with_reducible rfl)
              try simp only [Act.put, List.setIfInBounds_toArray, List.set_cons_zero, List.set_cons_succ]
              refine wpAnyH_ready (rs := [17]) (by kernel_rfl) (by simp) ?_
              refine AllReadyH.cons (o := _) (by simp only [List.getElem?_toArray, List.getElem?_cons_succ, List.getElem?_cons_zero] <;> exact rfl) (fun K hK => ?_) ?_
              focus (
                go_simp
                go_at_call 11
                refine (HS1.out _ (HT.out.keep hS) (HU.out.keep hS)).mono ?_
                rintro e wc5 ⟨rfl, hb⟩
                have hS := hS.trans (hb.mono hS.size)
                clear hb
                go_wp2_with fail
                refine hK.out _ _ hS (fun _ => ?_)
                clear hK K
                try simp only [Act.put, List.setIfInBounds_toArray, List.set_cons_zero, List.set_cons_succ]
                refine wpAnyH_ready (rs := [20]) (by kernel_rfl) (by simp) ?_
                refine AllReadyH.cons (o := _) (by simp only [List.getElem?_toArray, List.getElem?_cons_succ, List.getElem?_cons_zero] <;> exact rfl) (fun K hK => ?_) ?_
                focus (
                  go_simp
                  go_at_call 12
                  refine (HS2.out _ (HT.out.keep hS) (HU.out.keep hS)).mono ?_
                  rintro e wc6 ⟨rfl, hb⟩
                  have hS := hS.trans (hb.mono hS.size)
                  clear hb
                  go_wp2_with fail
                  refine hK.out _ _ hS (fun _ => ?_)
                  clear hK K
                  try simp only [Act.put, List.setIfInBounds_toArray, List.set_cons_zero, List.set_cons_succ]
                  refine wpAnyH_take (i := 21) (v := ?_) (by simp only [List.getElem?_toArray, List.getElem?_cons_succ, List.getElem?_cons_zero] <;> exact rfl) (by kernel_rfl) (by kernel_rfl) (by kernel_rfl) (fun _ _ _ h => h) (Or.inl ⟨by rfl, ?_⟩) hS ?_
                  rotate_left
                  focus (intro w' hw'; go_simp; all_goals with_reducible rfl)
                  try simp only [Act.put, List.setIfInBounds_toArray, List.set_cons_zero, List.set_cons_succ]
                  refine wpAnyH_take (i := 22) (v := ?_) (by simp only [List.getElem?_toArray, List.getElem?_cons_succ, List.getElem?_cons_zero] <;> exact rfl) (by kernel_rfl) (by kernel_rfl) (by kernel_rfl) (fun _ _ _ h => h) (Or.inl ⟨by rfl, ?_⟩) hS ?_
                  rotate_left
                  focus (intro w' hw'; go_simp; all_goals with_reducible rfl)
                  try simp only [Act.put, List.setIfInBounds_toArray, List.set_cons_zero, List.set_cons_succ]
                  refine wpAnyH_take (i := 23) (v := ?_) (by simp only [List.getElem?_toArray, List.getElem?_cons_succ, List.getElem?_cons_zero] <;> exact rfl) (by kernel_rfl) (by kernel_rfl) (by kernel_rfl) (fun _ _ _ h => h) (Or.inl ⟨by rfl, ?_⟩) hS ?_
                  rotate_left
                  focus (intro w' hw'; go_simp; all_goals with_reducible rfl)
                  try simp only [Act.put, List.setIfInBounds_toArray, List.set_cons_zero, List.set_cons_succ]
                  refine wpAnyH_ready (rs := [24]) (by kernel_rfl) (by simp) ?_
                  refine AllReadyH.cons (o := _) (by simp only [List.getElem?_toArray, List.getElem?_cons_succ, List.getElem?_cons_zero] <;> exact rfl) (fun K hK => ?_) ?_
                  focus (
                    go_simp
                    go_at_call 6
                    refine (HAW.out _).mono ?_
                    rintro e wc7 ⟨rfl, hb⟩
                    have hS := hS.trans (hb.mono hS.size)
                    clear hb
                    go_wp2_with fail
                    refine hK.out _ _ hS (fun _ => ?_)
                    clear hK K
                    try simp only [Act.put, List.setIfInBounds_toArray, List.set_cons_zero, List.set_cons_succ]
                    refine wpAnyH_take (i := 25) (v := ?_) (by simp only [List.getElem?_toArray, List.getElem?_cons_succ, List.getElem?_cons_zero] <;> exact rfl) (by kernel_rfl) (by kernel_rfl) (by kernel_rfl) (fun _ _ _ h => h) (Or.inl ⟨by rfl, ?_⟩) hS ?_
                    rotate_left
                    focus (intro w' hw'; go_simp; all_goals with_reducible rfl)
                    try simp only [Act.put, List.setIfInBounds_toArray, List.set_cons_zero, List.set_cons_succ]
                    refine wpAnyH_take (i := 26) (v := ?_) (by simp only [List.getElem?_toArray, List.getElem?_cons_succ, List.getElem?_cons_zero] <;> exact rfl) (by kernel_rfl) (by kernel_rfl) (by kernel_rfl) (fun _ _ _ h => h) (Or.inl ⟨by rfl, ?_⟩) hS ?_
                    rotate_left
                    focus (intro w' hw'; go_simp; all_goals with_reducible rfl)
                    try simp only [Act.put, List.setIfInBounds_toArray, List.set_cons_zero, List.set_cons_succ]
                    refine wpAnyH_done (by kernel_rfl) ?_ _
                    refine NoPanic.normal ?_
                    go_wp2
                    go_ret
                    exact ⟨rfl, HB3.out.trans (hS.mono HB3.out.size)⟩)
                  exact AllReadyH.nil)
                exact AllReadyH.nil)
              exact AllReadyH.nil)
            exact AllReadyH.nil)
          exact AllReadyH.nil)
        exact AllReadyH.nil)
      exact AllReadyH.nil
end Go.Proofs.Ytjjgnhdaaicmeaa.idsTells
