/-
  OutqTells: its walk (written by gen19tells.py).
-/
import Derived.Test.YtfcokhdkjoimmaaOqAwake
import Derived.Test.YtfcokhdkjoimmaaRqLight
import Derived.Test.YtfcokhdkjoimmaaOqSame
import Derived.Test.YtfcokhdkjoimmaaTxOpen
import Derived.BigGuardPart
namespace Go.Proofs.Ytfcokhdkjoimmaa.outqTells
set_option linter.unusedSimpArgs false
set_option linter.unusedVariables false
open Go.RowKit

set_option maxRecDepth 100000 in
set_option maxHeartbeats 6400000 in
theorem walk (A : Option Addr) (n c : Nat) (l : List ByteArray) (m g : Int) (A' : Option Addr) (n' c' : Nat) (l' : List ByteArray) (m' g' : Int) (w : World)
    (hq : TX w A n c l) (_wm : (Lit.int .i64 m).wf = true) (_wg : (Lit.int .i64 g).wf = true) (ho : TX w A' n' c' l') (_wm' : (Lit.int .i64 m').wf = true) (_wg' : (Lit.int .i64 g').wf = true) :
    Calls Try.prog 4 #[.agg #[.slice A n c, .int .i64 m, .int .i64 g], .agg #[.slice A' n' c', .int .i64 m', .int .i64 g']] w fun e w' => e = .returned (.bool true) ∧ Below w.heap.size w w' := by
  clear _wm _wm' _wg _wg'
  have HAW := hide (fun w => aw_outq w)
  have HB2 := hide (bel2 w (.cells #[.slice A n c, .int .i64 m, .int .i64 g] 24) (.cells #[.slice A' n' c', .int .i64 m', .int .i64 g'] 24))
  have HX2 := hide ((BlkIs.new w 24 #[.slice A n c, .int .i64 m, .int .i64 g]).alloc (.cells #[.slice A' n' c', .int .i64 m', .int .i64 g'] 24))
  have HY2 := hide (new2 w (.cells #[.slice A n c, .int .i64 m, .int .i64 g] 24) 24 #[.slice A' n' c', .int .i64 m', .int .i64 g'])
  have HL1 := hide (rq_Light A n c l m g _ (hq.keep HB2.out))
  have HL2 := hide (fun w' (h : Below w.heap.size w w') => rq_Light A' n' c' l' m' g' w' (ho.keep h))
  cases h1 : lightQ l with
  | false =>
    rw [h1] at HL1
    clear h1 HL2
    go_enter Try.func4, Try.ntmps4
    go_wp2_with fail
    refine HL1.out.mono ?_
    rintro e w2 ⟨rfl, hb2⟩
    have HB3 := hide (HB2.out.trans (hb2.mono HB2.out.size))
    clear hb2
    go_wp2_with fail
    refine (HAW.out _).mono ?_
    rintro e w3 ⟨rfl, hb3⟩
    have HB4 := hide (HB3.out.trans (hb3.mono HB3.out.size))
    clear hb3
    go_wp2
    go_ret
    exact ⟨rfl, HB4.out⟩
  | true =>
    rw [h1] at HL1
    obtain ⟨hn1, hs1⟩ := light_is h1
    cases h2 : lightQ l' with
    | false =>
      rw [h2] at HL2
      clear h1 h2
      go_enter Try.func4, Try.ntmps4
      go_wp2_with fail
      refine HL1.out.mono ?_
      rintro e w2 ⟨rfl, hb2⟩
      have HB3 := hide (HB2.out.trans (hb2.mono HB2.out.size))
      obtain ⟨j0, j1, j2⟩ := qcells (HY2.out.keep hb2)
      clear hb2
      have HL3 := hide (HL2.out _ HB3.out)
      go_wp2_with fail
      refine HL3.out.mono ?_
      rintro e w3 ⟨rfl, hb3⟩
      have HB4 := hide (HB3.out.trans (hb3.mono HB3.out.size))
      clear hb3
      go_wp2_with fail
      refine (HAW.out _).mono ?_
      rintro e w4 ⟨rfl, hb4⟩
      have HB5 := hide (HB4.out.trans (hb4.mono HB4.out.size))
      clear hb4
      go_wp2
      go_ret
      exact ⟨rfl, HB5.out⟩
    | true =>
      rw [h2] at HL2
      obtain ⟨hn2, hs2⟩ := light_is h2
      have hQ : QL w ⟨l, m, g⟩ A n c := ⟨hq, by have := hq.len; omega, by show lenL l ≤ _; omega⟩
      have hO : QL w ⟨l', m', g'⟩ A' n' c' := ⟨ho, by have := ho.len; omega, by show lenL l' ≤ _; omega⟩
      have HT2 := hide (hQ.keep HB2.out)
      have HU2 := hide (hO.keep HB2.out)
      have HK1 := hide (fun w' (h : QL w' ⟨l, m, g⟩ A n c) => oq_Check ⟨l, m, g⟩ A n c w' h)
      have HK2 := hide (fun w' (h : QL w' ⟨l, m, g⟩ A n c) => rq_Check ⟨l, m, g⟩ A n c w' h)
      have HN1 := hide (fun w' (h : QL w' ⟨l, m, g⟩ A n c) => oq_Len ⟨l, m, g⟩ A n c w' h)
      have HN2 := hide (fun w' (h : QL w' ⟨l, m, g⟩ A n c) => rq_Len ⟨l, m, g⟩ A n c w' h)
      have HR1 := hide (fun w' (h : QL w' ⟨l, m, g⟩ A n c) => oq_Room ⟨l, m, g⟩ A n c w' h)
      have HR2 := hide (fun w' (h : QL w' ⟨l, m, g⟩ A n c) => rq_Room ⟨l, m, g⟩ A n c w' h)
      have HS1 := hide (fun w' (h : QL w' ⟨l, m, g⟩ A n c) (h' : QL w' ⟨l', m', g'⟩ A' n' c') => oq_Same ⟨l, m, g⟩ ⟨l', m', g'⟩ A n c A' n' c' w' h h')
      have HS2 := hide (fun w' (h : QL w' ⟨l, m, g⟩ A n c) (h' : QL w' ⟨l', m', g'⟩ A' n' c') => rq_Same ⟨l, m, g⟩ ⟨l', m', g'⟩ A n c A' n' c' w' h h')
      simp only at HK1 HK2 HN1 HN2 HR1 HR2 HS1 HS2
      generalize sameQ ⟨l, m, g⟩ ⟨l', m', g'⟩ = sm at *
      generalize roomQ ⟨l, m, g⟩ = rm at *
      generalize chkQ ⟨l, m, g⟩ = ck at *
      generalize lenL l = L at *
      clear h1 h2 hn1 hs1 hn2 hs2 hQ hO hq ho
      have hz := run_zero_is pq_zero
      go_enter Try.func4, Try.ntmps4
      go_wp2_with fail
      refine HL1.out.mono ?_
      rintro e w2 ⟨rfl, hb2⟩
      have HBa := hide (HB2.out.trans (hb2.mono HB2.out.size))
      have HXa := hide (HX2.out.keep hb2)
      have HYa := hide (HY2.out.keep hb2)
      have HTa := hide (HT2.out.keep hb2)
      have HUa := hide (HU2.out.keep hb2)
      obtain ⟨j0, j1, j2⟩ := qcells (HY2.out.keep hb2)
      clear hb2 HB2 HX2 HY2 HT2 HU2
      have HL3 := hide (HL2.out _ HBa.out)
      go_wp2_with fail
      refine HL3.out.mono ?_
      rintro e w3 ⟨rfl, hb3⟩
      have HBb := hide (HBa.out.trans (hb3.mono HBa.out.size))
      have HXb := hide (HXa.out.keep hb3)
      have HYb := hide (HYa.out.keep hb3)
      have HTb := hide (HTa.out.keep hb3)
      have HUb := hide (HUa.out.keep hb3)
      clear hb3 HBa HXa HYa HTa HUa j0 j1 j2 HL1 HL2 HL3
      obtain ⟨j0, j1, j2⟩ := qcells HXb.out
      go_upto_region 4 with (refine wpList_q_blk 28 pq_size rfl (.tmp 5) (.tmp 15) w3.heap.size A n c m g _ _ _ rfl (BlkIs.new w3 28 #[.slice none 0 0, .int .i64 0, .int .i64 0]) rfl rfl ?_; intro w4 hk4 kb4; have hbb := below_kbq (bel1 w3 (.cells #[.slice none 0 0, .int .i64 0, .int .i64 0] 28)) kb4 (Nat.le_refl _) (Nat.le_refl _); have HB4 := hide (HBb.out.trans (hbb.mono HBb.out.size)); have HX := hide (HXb.out.keep hbb); have HY := hide (HYb.out.keep hbb); have HT := hide (HTb.out.keep hbb); have HU := hide (HUb.out.keep hbb); have HZ := hide hk4; clear hk4 kb4 hbb)
      clear HBb HXb HYb HTb HUb j0 j1 j2
      obtain ⟨x, hx⟩ : ∃ x, x = w3.heap.size := ⟨_, rfl⟩
      rw [← hx] at HZ ⊢
      clear hx hz
      refine wp_region_noPanic ?_
      refine wp_region_held_drew (S := fun w' => Below w4.heap.size w4 w') (by kernel_rfl) (Below.refl _ _).drew (fun hS => ?_)
      generalize w4.drew = wd at hS ⊢
      refine wpAnyH_take (i := 0) (v := ?_) (by simp only [List.getElem?_toArray, List.getElem?_cons_succ, List.getElem?_cons_zero] <;> exact rfl) (by kernel_rfl) (by kernel_rfl) (by kernel_rfl) (fun _ _ _ h => h) (Or.inl ⟨by rfl, ?_⟩) hS ?_
      rotate_left
      focus (intro w' hw'; obtain ⟨k0, k1, k2⟩ := qcells (HZ.out.keep hw'); go_simp; all_goals with_reducible rfl)
      try simp only [Act.put, List.setIfInBounds_toArray, List.set_cons_zero, List.set_cons_succ]
      refine wpAnyH_take (i := 2) (v := ?_) (by simp only [List.getElem?_toArray, List.getElem?_cons_succ, List.getElem?_cons_zero] <;> exact rfl) (by kernel_rfl) (by kernel_rfl) (by kernel_rfl) (fun _ _ _ h => h) (Or.inl ⟨by rfl, ?_⟩) hS ?_
      rotate_left
      focus (intro w' hw'; obtain ⟨k0, k1, k2⟩ := qcells (HX.out.keep hw'); go_simp; all_goals with_reducible rfl)
      try simp only [Act.put, List.setIfInBounds_toArray, List.set_cons_zero, List.set_cons_succ]
      refine wpAnyH_ready (rs := [1]) (by kernel_rfl) (by simp) ?_
      refine AllReadyH.cons (o := _) (by simp only [List.getElem?_toArray, List.getElem?_cons_succ, List.getElem?_cons_zero] <;> exact rfl) (fun K hK => ?_) ?_
      focus (
        go_simp
        go_at_call 14
        refine (HK1.out _ (HT.out.keep hS)).mono ?_
        rintro e wc1 ⟨rfl, hb⟩
        have hS := hS.trans (hb.mono hS.size)
        clear hb
        go_wp2_with fail
        refine hK.out _ _ hS (fun _ => ?_)
        clear hK K
        try simp only [Act.put, List.setIfInBounds_toArray, List.set_cons_zero, List.set_cons_succ]
        refine wpAnyH_ready (rs := [3]) (by kernel_rfl) (by simp) ?_
        refine AllReadyH.cons (o := _) (by simp only [List.getElem?_toArray, List.getElem?_cons_succ, List.getElem?_cons_zero] <;> exact rfl) (fun K hK => ?_) ?_
        focus (
          go_simp
          go_at_call 15
          refine (HK2.out _ (HT.out.keep hS)).mono ?_
          rintro e wc2 ⟨rfl, hb⟩
          have hS := hS.trans (hb.mono hS.size)
          clear hb
          go_wp2_with fail
          refine hK.out _ _ hS (fun _ => ?_)
          clear hK K
          try simp only [Act.put, List.setIfInBounds_toArray, List.set_cons_zero, List.set_cons_succ]
          refine wpAnyH_take (i := 4) (v := ?_) (by simp only [List.getElem?_toArray, List.getElem?_cons_succ, List.getElem?_cons_zero] <;> exact rfl) (by kernel_rfl) (by kernel_rfl) (by kernel_rfl) (fun _ _ _ h => h) (Or.inl ⟨by rfl, ?_⟩) hS ?_
          rotate_left
          focus (intro w' hw'; go_simp; all_goals with_reducible rfl)
          try simp only [Act.put, List.setIfInBounds_toArray, List.set_cons_zero, List.set_cons_succ]
          refine wpAnyH_take (i := 5) (v := ?_) (by simp only [List.getElem?_toArray, List.getElem?_cons_succ, List.getElem?_cons_zero] <;> exact rfl) (by kernel_rfl) (by kernel_rfl) (by kernel_rfl) (fun _ _ _ h => h) (Or.inl ⟨by rfl, ?_⟩) hS ?_
          rotate_left
          focus (intro w' hw'; go_simp; all_goals with_reducible rfl)
          try simp only [Act.put, List.setIfInBounds_toArray, List.set_cons_zero, List.set_cons_succ]
          refine wpAnyH_take (i := 6) (v := ?_) (by simp only [List.getElem?_toArray, List.getElem?_cons_succ, List.getElem?_cons_zero] <;> exact rfl) (by kernel_rfl) (by kernel_rfl) (by kernel_rfl) (fun _ _ _ h => h) (Or.inl ⟨by rfl, ?_⟩) hS ?_
          rotate_left
          focus (intro w' hw'; obtain ⟨k0, k1, k2⟩ := qcells (HZ.out.keep hw'); go_simp; all_goals with_reducible rfl)
          try simp only [Act.put, List.setIfInBounds_toArray, List.set_cons_zero, List.set_cons_succ]
          refine wpAnyH_take (i := 8) (v := ?_) (by simp only [List.getElem?_toArray, List.getElem?_cons_succ, List.getElem?_cons_zero] <;> exact rfl) (by kernel_rfl) (by kernel_rfl) (by kernel_rfl) (fun _ _ _ h => h) (Or.inl ⟨by rfl, ?_⟩) hS ?_
          rotate_left
          focus (intro w' hw'; obtain ⟨k0, k1, k2⟩ := qcells (HX.out.keep hw'); go_simp; all_goals with_reducible rfl)
          try simp only [Act.put, List.setIfInBounds_toArray, List.set_cons_zero, List.set_cons_succ]
          refine wpAnyH_ready (rs := [7]) (by kernel_rfl) (by simp) ?_
          refine AllReadyH.cons (o := _) (by simp only [List.getElem?_toArray, List.getElem?_cons_succ, List.getElem?_cons_zero] <;> exact rfl) (fun K hK => ?_) ?_
          focus (
            go_simp
            go_at_call 16
            refine (HN1.out _ (HT.out.keep hS)).mono ?_
            rintro e wc3 ⟨rfl, hb⟩
            have hS := hS.trans (hb.mono hS.size)
            clear hb
            go_wp2_with fail
            refine hK.out _ _ hS (fun _ => ?_)
            clear hK K
            try simp only [Act.put, List.setIfInBounds_toArray, List.set_cons_zero, List.set_cons_succ]
            refine wpAnyH_ready (rs := [9]) (by kernel_rfl) (by simp) ?_
            refine AllReadyH.cons (o := _) (by simp only [List.getElem?_toArray, List.getElem?_cons_succ, List.getElem?_cons_zero] <;> exact rfl) (fun K hK => ?_) ?_
            focus (
              go_simp
              go_at_call 17
              refine (HN2.out _ (HT.out.keep hS)).mono ?_
              rintro e wc4 ⟨rfl, hb⟩
              have hS := hS.trans (hb.mono hS.size)
              clear hb
              go_wp2_with fail
              refine hK.out _ _ hS (fun _ => ?_)
              clear hK K
              try simp only [Act.put, List.setIfInBounds_toArray, List.set_cons_zero, List.set_cons_succ]
              refine wpAnyH_take (i := 10) (v := ?_) (by simp only [List.getElem?_toArray, List.getElem?_cons_succ, List.getElem?_cons_zero] <;> exact rfl) (by kernel_rfl) (by kernel_rfl) (by kernel_rfl) (fun _ _ _ h => h) (Or.inl ⟨by rfl, ?_⟩) hS ?_
              rotate_left
              focus (intro w' hw'; go_simp; all_goals with_reducible rfl)
              try simp only [Act.put, List.setIfInBounds_toArray, List.set_cons_zero, List.set_cons_succ]
              refine wpAnyH_take (i := 11) (v := ?_) (by simp only [List.getElem?_toArray, List.getElem?_cons_succ, List.getElem?_cons_zero] <;> exact rfl) (by kernel_rfl) (by kernel_rfl) (by kernel_rfl) (fun _ _ _ h => h) (Or.inl ⟨by rfl, ?_⟩) hS ?_
              rotate_left
              focus (intro w' hw'; go_simp; all_goals with_reducible rfl)
              try simp only [Act.put, List.setIfInBounds_toArray, List.set_cons_zero, List.set_cons_succ]
              refine wpAnyH_take (i := 12) (v := ?_) (by simp only [List.getElem?_toArray, List.getElem?_cons_succ, List.getElem?_cons_zero] <;> exact rfl) (by kernel_rfl) (by kernel_rfl) (by kernel_rfl) (fun _ _ _ h => h) (Or.inl ⟨by rfl, ?_⟩) hS ?_
              rotate_left
              focus (intro w' hw'; go_simp; all_goals with_reducible rfl)
              try simp only [Act.put, List.setIfInBounds_toArray, List.set_cons_zero, List.set_cons_succ]
              refine wpAnyH_take (i := 13) (v := ?_) (by simp only [List.getElem?_toArray, List.getElem?_cons_succ, List.getElem?_cons_zero] <;> exact rfl) (by kernel_rfl) (by kernel_rfl) (by kernel_rfl) (fun _ _ _ h => h) (Or.inl ⟨by rfl, ?_⟩) hS ?_
              rotate_left
              focus (intro w' hw'; obtain ⟨k0, k1, k2⟩ := qcells (HZ.out.keep hw'); go_simp; all_goals with_reducible rfl)
              try simp only [Act.put, List.setIfInBounds_toArray, List.set_cons_zero, List.set_cons_succ]
              refine wpAnyH_take (i := 15) (v := ?_) (by simp only [List.getElem?_toArray, List.getElem?_cons_succ, List.getElem?_cons_zero] <;> exact rfl) (by kernel_rfl) (by kernel_rfl) (by kernel_rfl) (fun _ _ _ h => h) (Or.inl ⟨by rfl, ?_⟩) hS ?_
              rotate_left
              focus (intro w' hw'; obtain ⟨k0, k1, k2⟩ := qcells (HX.out.keep hw'); go_simp; all_goals with_reducible rfl)
              try simp only [Act.put, List.setIfInBounds_toArray, List.set_cons_zero, List.set_cons_succ]
              refine wpAnyH_ready (rs := [14]) (by kernel_rfl) (by simp) ?_
              refine AllReadyH.cons (o := _) (by simp only [List.getElem?_toArray, List.getElem?_cons_succ, List.getElem?_cons_zero] <;> exact rfl) (fun K hK => ?_) ?_
              focus (
                go_simp
                go_at_call 18
                refine (HR1.out _ (HT.out.keep hS)).mono ?_
                rintro e wc5 ⟨rfl, hb⟩
                have hS := hS.trans (hb.mono hS.size)
                clear hb
                go_wp2_with fail
                refine hK.out _ _ hS (fun _ => ?_)
                clear hK K
                try simp only [Act.put, List.setIfInBounds_toArray, List.set_cons_zero, List.set_cons_succ]
                refine wpAnyH_ready (rs := [16]) (by kernel_rfl) (by simp) ?_
                refine AllReadyH.cons (o := _) (by simp only [List.getElem?_toArray, List.getElem?_cons_succ, List.getElem?_cons_zero] <;> exact rfl) (fun K hK => ?_) ?_
                focus (
                  go_simp
                  go_at_call 19
                  refine (HR2.out _ (HT.out.keep hS)).mono ?_
                  rintro e wc6 ⟨rfl, hb⟩
                  have hS := hS.trans (hb.mono hS.size)
                  clear hb
                  go_wp2_with fail
                  refine hK.out _ _ hS (fun _ => ?_)
                  clear hK K
                  try simp only [Act.put, List.setIfInBounds_toArray, List.set_cons_zero, List.set_cons_succ]
                  refine wpAnyH_take (i := 17) (v := ?_) (by simp only [List.getElem?_toArray, List.getElem?_cons_succ, List.getElem?_cons_zero] <;> exact rfl) (by kernel_rfl) (by kernel_rfl) (by kernel_rfl) (fun _ _ _ h => h) (Or.inl ⟨by rfl, ?_⟩) hS ?_
                  rotate_left
                  focus (intro w' hw'; go_simp; all_goals with_reducible rfl)
                  try simp only [Act.put, List.setIfInBounds_toArray, List.set_cons_zero, List.set_cons_succ]
                  refine wpAnyH_take (i := 18) (v := ?_) (by simp only [List.getElem?_toArray, List.getElem?_cons_succ, List.getElem?_cons_zero] <;> exact rfl) (by kernel_rfl) (by kernel_rfl) (by kernel_rfl) (fun _ _ _ h => h) (Or.inl ⟨by rfl, ?_⟩) hS ?_
                  rotate_left
                  focus (intro w' hw'; go_simp; all_goals with_reducible rfl)
                  try simp only [Act.put, List.setIfInBounds_toArray, List.set_cons_zero, List.set_cons_succ]
                  refine wpAnyH_take (i := 19) (v := ?_) (by simp only [List.getElem?_toArray, List.getElem?_cons_succ, List.getElem?_cons_zero] <;> exact rfl) (by kernel_rfl) (by kernel_rfl) (by kernel_rfl) (fun _ _ _ h => h) (Or.inl ⟨by rfl, ?_⟩) hS ?_
                  rotate_left
                  focus (intro w' hw'; go_simp; all_goals with_reducible rfl)
                  try simp only [Act.put, List.setIfInBounds_toArray, List.set_cons_zero, List.set_cons_succ]
                  refine wpAnyH_take (i := 20) (v := ?_) (by simp only [List.getElem?_toArray, List.getElem?_cons_succ, List.getElem?_cons_zero] <;> exact rfl) (by kernel_rfl) (by kernel_rfl) (by kernel_rfl) (fun _ _ _ h => h) (Or.inl ⟨by rfl, ?_⟩) hS ?_
                  rotate_left
                  focus (intro w' hw'; obtain ⟨k0, k1, k2⟩ := qcells (HZ.out.keep hw'); go_simp; all_goals with_reducible rfl)
                  try simp only [Act.put, List.setIfInBounds_toArray, List.set_cons_zero, List.set_cons_succ]
                  refine wpAnyH_take (i := 21) (v := ?_) (by simp only [List.getElem?_toArray, List.getElem?_cons_succ, List.getElem?_cons_zero] <;> exact rfl) (by kernel_rfl) (by kernel_rfl) (by kernel_rfl) (fun _ _ _ h => h) (Or.inl ⟨by rfl, ?_⟩) hS ?_
                  rotate_left
                  focus (intro w' hw'; obtain ⟨k0, k1, k2⟩ := qcells (HY.out.keep hw'); go_simp; all_goals with_reducible rfl)
                  try simp only [Act.put, List.setIfInBounds_toArray, List.set_cons_zero, List.set_cons_succ]
                  refine wpAnyH_take (i := 23) (v := ?_) (by simp only [List.getElem?_toArray, List.getElem?_cons_succ, List.getElem?_cons_zero] <;> exact rfl) (by kernel_rfl) (by kernel_rfl) (by kernel_rfl) (fun _ _ _ h => h) (Or.inl ⟨by rfl, ?_⟩) hS ?_
                  rotate_left
                  focus (intro w' hw'; obtain ⟨k0, k1, k2⟩ := qcells (HX.out.keep hw'); go_simp; all_goals with_reducible rfl)
                  try simp only [Act.put, List.setIfInBounds_toArray, List.set_cons_zero, List.set_cons_succ]
                  refine wpAnyH_take (i := 24) (v := ?_) (by simp only [List.getElem?_toArray, List.getElem?_cons_succ, List.getElem?_cons_zero] <;> exact rfl) (by kernel_rfl) (by kernel_rfl) (by kernel_rfl) (fun _ _ _ h => h) (Or.inl ⟨by rfl, ?_⟩) hS ?_
                  rotate_left
                  focus (intro w' hw'; obtain ⟨k0, k1, k2⟩ := qcells (HY.out.keep hw'); go_simp; all_goals with_reducible rfl)
                  try simp only [Act.put, List.setIfInBounds_toArray, List.set_cons_zero, List.set_cons_succ]
                  refine wpAnyH_ready (rs := [22]) (by kernel_rfl) (by simp) ?_
                  refine AllReadyH.cons (o := _) (by simp only [List.getElem?_toArray, List.getElem?_cons_succ, List.getElem?_cons_zero] <;> exact rfl) (fun K hK => ?_) ?_
                  focus (
                    go_simp
                    go_at_call 20
                    refine (HS1.out _ (HT.out.keep hS) (HU.out.keep hS)).mono ?_
                    rintro e wc7 ⟨rfl, hb⟩
                    have hS := hS.trans (hb.mono hS.size)
                    clear hb
                    go_wp2_with fail
                    refine hK.out _ _ hS (fun _ => ?_)
                    clear hK K
                    try simp only [Act.put, List.setIfInBounds_toArray, List.set_cons_zero, List.set_cons_succ]
                    refine wpAnyH_ready (rs := [25]) (by kernel_rfl) (by simp) ?_
                    refine AllReadyH.cons (o := _) (by simp only [List.getElem?_toArray, List.getElem?_cons_succ, List.getElem?_cons_zero] <;> exact rfl) (fun K hK => ?_) ?_
                    focus (
                      go_simp
                      go_at_call 13
                      refine (HS2.out _ (HT.out.keep hS) (HU.out.keep hS)).mono ?_
                      rintro e wc8 ⟨rfl, hb⟩
                      have hS := hS.trans (hb.mono hS.size)
                      clear hb
                      go_wp2_with fail
                      refine hK.out _ _ hS (fun _ => ?_)
                      clear hK K
                      try simp only [Act.put, List.setIfInBounds_toArray, List.set_cons_zero, List.set_cons_succ]
                      refine wpAnyH_take (i := 26) (v := ?_) (by simp only [List.getElem?_toArray, List.getElem?_cons_succ, List.getElem?_cons_zero] <;> exact rfl) (by kernel_rfl) (by kernel_rfl) (by kernel_rfl) (fun _ _ _ h => h) (Or.inl ⟨by rfl, ?_⟩) hS ?_
                      rotate_left
                      focus (intro w' hw'; go_simp; all_goals with_reducible rfl)
                      try simp only [Act.put, List.setIfInBounds_toArray, List.set_cons_zero, List.set_cons_succ]
                      refine wpAnyH_take (i := 27) (v := ?_) (by simp only [List.getElem?_toArray, List.getElem?_cons_succ, List.getElem?_cons_zero] <;> exact rfl) (by kernel_rfl) (by kernel_rfl) (by kernel_rfl) (fun _ _ _ h => h) (Or.inl ⟨by rfl, ?_⟩) hS ?_
                      rotate_left
                      focus (intro w' hw'; go_simp; all_goals with_reducible rfl)
                      try simp only [Act.put, List.setIfInBounds_toArray, List.set_cons_zero, List.set_cons_succ]
                      refine wpAnyH_take (i := 28) (v := ?_) (by simp only [List.getElem?_toArray, List.getElem?_cons_succ, List.getElem?_cons_zero] <;> exact rfl) (by kernel_rfl) (by kernel_rfl) (by kernel_rfl) (fun _ _ _ h => h) (Or.inl ⟨by rfl, ?_⟩) hS ?_
                      rotate_left
                      focus (intro w' hw'; go_simp; all_goals with_reducible rfl)
                      try simp only [Act.put, List.setIfInBounds_toArray, List.set_cons_zero, List.set_cons_succ]
                      refine wpAnyH_ready (rs := [29]) (by kernel_rfl) (by simp) ?_
                      refine AllReadyH.cons (o := _) (by simp only [List.getElem?_toArray, List.getElem?_cons_succ, List.getElem?_cons_zero] <;> exact rfl) (fun K hK => ?_) ?_
                      focus (
                        go_simp
                        go_at_call 8
                        refine (HAW.out _).mono ?_
                        rintro e wc9 ⟨rfl, hb⟩
                        have hS := hS.trans (hb.mono hS.size)
                        clear hb
                        go_wp2_with fail
                        refine hK.out _ _ hS (fun _ => ?_)
                        clear hK K
                        try simp only [Act.put, List.setIfInBounds_toArray, List.set_cons_zero, List.set_cons_succ]
                        refine wpAnyH_take (i := 30) (v := ?_) (by simp only [List.getElem?_toArray, List.getElem?_cons_succ, List.getElem?_cons_zero] <;> exact rfl) (by kernel_rfl) (by kernel_rfl) (by kernel_rfl) (fun _ _ _ h => h) (Or.inl ⟨by rfl, ?_⟩) hS ?_
                        rotate_left
                        focus (intro w' hw'; go_simp; all_goals with_reducible rfl)
                        try simp only [Act.put, List.setIfInBounds_toArray, List.set_cons_zero, List.set_cons_succ]
                        refine wpAnyH_take (i := 31) (v := ?_) (by simp only [List.getElem?_toArray, List.getElem?_cons_succ, List.getElem?_cons_zero] <;> exact rfl) (by kernel_rfl) (by kernel_rfl) (by kernel_rfl) (fun _ _ _ h => h) (Or.inl ⟨by rfl, ?_⟩) hS ?_
                        rotate_left
                        focus (intro w' hw'; go_simp; all_goals with_reducible rfl)
                        try simp only [Act.put, List.setIfInBounds_toArray, List.set_cons_zero, List.set_cons_succ]
                        refine wpAnyH_done (by kernel_rfl) ?_ _
                        refine NoPanic.normal ?_
                        go_wp2
                        go_ret
                        exact ⟨rfl, HB4.out.trans (hS.mono HB4.out.size)⟩)
                      exact AllReadyH.nil)
                    exact AllReadyH.nil)
                  exact AllReadyH.nil)
                exact AllReadyH.nil)
              exact AllReadyH.nil)
            exact AllReadyH.nil)
          exact AllReadyH.nil)
        exact AllReadyH.nil)
      exact AllReadyH.nil
end Go.Proofs.Ytfcokhdkjoimmaa.outqTells
