/-
  Layer 19: Equal of texts; Same, of both packages; Clone of texts (written by gen19small.py).
-/
import Derived.Test.YtfcokhdkjoimmaaOqLen
import Derived.BigQuiet
import Derived.BigRegion
import Derived.Deep.CutRange
import Derived.Lib.SliceRun
namespace Go.Proofs.Ytfcokhdkjoimmaa
set_option linter.unusedSimpArgs false
set_option linter.unusedVariables false
open Go.RowKit
theorem eq_up {l r : List ByteArray} (hl : l.length = r.length) (h : ∀ (j : Nat) (s t : ByteArray), l[j]? = some s → r[j]? = some t → s = t) : l = r := by
  apply List.ext_getElem hl
  intro i h1 h2
  exact h i _ _ (List.getElem?_eq_getElem h1) (List.getElem?_eq_getElem h2)
set_option maxRecDepth 100000 in
set_option maxHeartbeats 1600000 in
theorem oq_Equal (A B : Option Addr) (n c m d : Nat) (l r : List ByteArray) (w : World) (hl : TX w A n c l) (hr : TX w B m d r) (hn : (n : Int) ≤ 10000) :
    Calls Try.prog 26 #[.slice A n c, .slice B m d] w fun e w' => e = .returned (.bool (decide (l = r))) ∧ Below w.heap.size w w' := by
  have HL := hide hl
  have HM := hide hr
  by_cases hnm : n = m
  · subst hnm
    have HEQ := hide (@eq_up l r (by rw [hl.len, hr.len]))
    clear hl hr
    obtain ⟨v, hv⟩ : ∃ v, v = decide (l = r) := ⟨_, rfl⟩
    rw [← hv]
    have HV := hide hv
    clear hv
    go_enter Try.func26, Try.ntmps26
    go_wp2_with fail
    go_loopw [13] (fun k wr => ∃ i : Nat, i ≤ n ∧ k = .int .i64 (i : Int) ∧ Hid (∀ j s t, j < i → l[j]? = some s → r[j]? = some t → s = t) ∧ Hid (Below w.heap.size w wr)) (fun k _ => n - (intOf k).toNat)
    case atStart => exact ⟨0, by omega, rfl, fun j s t hj => by omega, Below.refl _ _⟩
    case round =>
      obtain ⟨i, hi, rfl, HO, HB⟩ := hrel
      by_cases hlt : i < n
      · have hlt' : (i : Int) < (n : Int) := by omega
        obtain ⟨s, b, off, hs, rfl, hbl, c0⟩ := (HL.out.keep HB.out).round hlt
        obtain ⟨t, b', off', ht, rfl, hbl', c1⟩ := (HM.out.keep HB.out).round hlt
        have HS := hide hs
        have HT := hide ht
        clear hs ht
        by_cases hst : s = t
        · have HST := hide hst
          have he := str_same hst
          clear hst
          go_wp2_with fail
          go_quiet (fail)
          go_wp2
          go_roundw
          case rel => exact ⟨i + 1, by omega, by go_num, fun j x y hj hx hy => by
            by_cases e : j = i
            · subst e
              rw [HS.out] at hx
              rw [HT.out] at hy
              injection hx with hx
              injection hy with hy
              rw [← hx, ← hy]; exact HST.out
            · exact HO.out j x y (by omega) hx hy, hide (by simpa using below_drewN HB.out _)⟩
          case measure => simp [intOf]; omega
        · have HR := hide (show v = false by rw [HV.out]; exact decide_eq_false fun e => hst (by
            have h1 := HS.out
            rw [e, HT.out] at h1
            injection h1 with h1
            exact h1.symm))
          have he := str_not hst
          clear hst
          go_wp2_with fail
          go_quiet (fail)
          go_wp2
          go_ret
          exact ⟨by rw [HR.out]; rfl, by simpa using below_drewN HB.out _⟩
      · have hge : ¬ (i : Int) < (n : Int) := by omega
        obtain rfl : i = n := by omega
        have HR := hide (show v = true by
          rw [HV.out]
          refine decide_eq_true (HEQ.out fun j s t h1 h2 => HO.out j s t ?_ h1 h2)
          have := (List.getElem?_eq_some_iff.1 h1).1
          rw [HL.out.len] at this
          exact this)
        go_wp2
        go_ret
        exact ⟨by rw [HR.out]; rfl, HB.out⟩
  · rw [decide_eq_false (show ¬ l = r from fun e => hnm (by rw [← hl.len, ← hr.len, e]))]
    have hne : ((n : Int) != (m : Int)) = true := by simp only [bne_iff_ne]; omega
    have hne2 : ((n : Int) == (m : Int)) = false := beq_eq_false_iff_ne.2 (by omega)
    clear hl hr hnm
    go_enter Try.func26, Try.ntmps26
    go_wp2
    go_ret
    exact ⟨rfl, Below.refl _ _⟩
set_option maxRecDepth 100000 in
set_option maxHeartbeats 1600000 in
theorem oq_Same (q p : Qu) (A : Option Addr) (n c : Nat) (A' : Option Addr) (n' c' : Nat) (w : World) (hl : QL w q A n c) (hl' : QL w p A' n' c') :
    Calls Try.prog 20 #[.agg #[.slice A n c, .int .i64 q.m, .int .i64 q.g], .agg #[.slice A' n' c', .int .i64 p.m, .int .i64 p.g]] w fun e w' => e = .returned (.bool (sameQ q p)) ∧ Below w.heap.size w w' := by
  have HB2 := hide (bel2 w (.cells #[.slice A n c, .int .i64 q.m, .int .i64 q.g] 28) (.cells #[.slice A' n' c', .int .i64 p.m, .int .i64 p.g] 28))
  have HXQ := hide ((BlkIs.new w 28 #[.slice A n c, .int .i64 q.m, .int .i64 q.g]).alloc (.cells #[.slice A' n' c', .int .i64 p.m, .int .i64 p.g] 28))
  have HXP := hide (new2 w (.cells #[.slice A n c, .int .i64 q.m, .int .i64 q.g] 28) 28 #[.slice A' n' c', .int .i64 p.m, .int .i64 p.g])
  obtain ⟨k0, k1, k2⟩ := qcells HXQ.out
  obtain ⟨j0, j1, j2⟩ := qcells HXP.out
  have HTL := hide (hl.tx.keep HB2.out)
  have HTL' := hide (hl'.tx.keep HB2.out)
  unfold sameQ
  by_cases hm : q.m = p.m
  · by_cases hg : q.g = p.g
    · rw [decide_eq_true hm, decide_eq_true hg, Bool.true_and, Bool.true_and]
      rw [← hm] at j1 HTL HTL' HB2 HXQ HXP k0 k1 k2 j0 j2 ⊢
      rw [← hg] at j1 HTL HTL' HB2 HXQ HXP k0 k1 k2 j0 j2 ⊢
      have HE := hide (oq_Equal A A' n c n' c' q.ps p.ps _ HTL.out HTL'.out (by have := hl.few; omega))
      generalize decide (q.ps = p.ps) = v at *
      generalize q.m = m at *
      generalize q.g = g at *
      clear hl hl' hm hg
      go_enter Try.func20, Try.ntmps20
      go_wp2_with (go_at_call 26; refine HE.out.mono ?_; rintro e w3 ⟨rfl, hb3⟩; have HB3 := hide (HB2.out.trans (hb3.mono HB2.out.size)); clear hb3)
      go_ret
      exact ⟨rfl, HB3.out⟩
    · rw [decide_eq_false hg, Bool.false_and, Bool.and_false]
      generalize q.m = m at *
      generalize q.g = g at *
      generalize p.m = m' at *
      generalize p.g = g' at *
      have hg1 : (g == g') = false := by simpa using hg
      have hg2 : (g != g') = true := by simpa using hg
      subst hm
      clear hl hl' hg HTL HTL'
      go_enter Try.func20, Try.ntmps20
      go_wp2
      go_ret
      exact ⟨rfl, HB2.out⟩
  · rw [decide_eq_false hm, Bool.false_and]
    generalize q.m = m at *
    generalize q.g = g at *
    generalize p.m = m' at *
    generalize p.g = g' at *
    have hm1 : (m == m') = false := by simpa using hm
    have hm2 : (m != m') = true := by simpa using hm
    clear hl hl' hm HTL HTL'
    go_enter Try.func20, Try.ntmps20
    go_wp2
    go_ret
    exact ⟨rfl, HB2.out⟩

set_option maxRecDepth 100000 in
set_option maxHeartbeats 1600000 in
theorem rq_Same (q p : Qu) (A : Option Addr) (n c : Nat) (A' : Option Addr) (n' c' : Nat) (w : World) (hl : QL w q A n c) (hl' : QL w p A' n' c') :
    Calls Try.prog 13 #[.agg #[.slice A n c, .int .i64 q.m, .int .i64 q.g], .agg #[.slice A' n' c', .int .i64 p.m, .int .i64 p.g]] w fun e w' => e = .returned (.bool (sameQ q p)) ∧ Below w.heap.size w w' := by
  have HB2 := hide (bel2 w (.cells #[.slice A n c, .int .i64 q.m, .int .i64 q.g] 24) (.cells #[.slice A' n' c', .int .i64 p.m, .int .i64 p.g] 24))
  have HXQ := hide ((BlkIs.new w 24 #[.slice A n c, .int .i64 q.m, .int .i64 q.g]).alloc (.cells #[.slice A' n' c', .int .i64 p.m, .int .i64 p.g] 24))
  have HXP := hide (new2 w (.cells #[.slice A n c, .int .i64 q.m, .int .i64 q.g] 24) 24 #[.slice A' n' c', .int .i64 p.m, .int .i64 p.g])
  obtain ⟨k0, k1, k2⟩ := qcells HXQ.out
  obtain ⟨j0, j1, j2⟩ := qcells HXP.out
  have HTL := hide (hl.tx.keep HB2.out)
  have HTL' := hide (hl'.tx.keep HB2.out)
  unfold sameQ
  by_cases hm : q.m = p.m
  · by_cases hg : q.g = p.g
    · rw [decide_eq_true hm, decide_eq_true hg, Bool.true_and, Bool.true_and]
      rw [← hm] at j1 HTL HTL' HB2 HXQ HXP k0 k1 k2 j0 j2 ⊢
      rw [← hg] at j1 HTL HTL' HB2 HXQ HXP k0 k1 k2 j0 j2 ⊢
      generalize q.m = m at *
      generalize q.g = g at *
      have HN := hide hl.few
      by_cases hnm : n = n'
      · subst hnm
        have HEQ := hide (@eq_up q.ps p.ps (by rw [hl.tx.len, hl'.tx.len]))
        generalize q.ps = l at *
        generalize p.ps = r at *
        obtain ⟨v, hv⟩ : ∃ v, v = decide (l = r) := ⟨_, rfl⟩
        rw [← hv]
        have HV := hide hv
        clear hv hl hl' hm hg
        go_enter Try.func13, Try.ntmps13
        go_wp2_with fail
        obtain ⟨z, hz⟩ : ∃ z, z = w.heap.size := ⟨_, rfl⟩
        obtain ⟨W2, hW2⟩ : ∃ W2, W2 = (w.alloc (.cells #[.slice A n c, .int .i64 m, .int .i64 g] 24)).alloc (.cells #[.slice A' n c', .int .i64 m, .int .i64 g] 24) := ⟨_, rfl⟩
        rw [← hW2] at HB2 HTL HTL' HXQ HXP ⊢
        rw [← hz] at HXQ HXP ⊢
        clear k0 k1 k2 j0 j1 j2 hW2 hz
        go_loopw [5] (fun k wr => ∃ i : Nat, i ≤ n ∧ k = .int .i64 (i : Int) ∧ Hid (∀ j s t, j < i → l[j]? = some s → r[j]? = some t → s = t) ∧ Hid (Below W2.heap.size W2 wr)) (fun k _ => n - (intOf k).toNat)
        case atStart => exact ⟨0, by omega, rfl, fun j s t hj => by omega, Below.refl _ _⟩
        case round =>
          obtain ⟨i, hi, rfl, HO, HB⟩ := hrel
          obtain ⟨k0, k1, k2⟩ := qcells (HXQ.out.keep HB.out)
          obtain ⟨j0, j1, j2⟩ := qcells (HXP.out.keep HB.out)
          have hn := HN.out
          by_cases hlt : i < n
          · have hlt' : (i : Int) < (n : Int) := by omega
            obtain ⟨s, b, off, hs, rfl, hbl, c0⟩ := (HTL.out.keep HB.out).round hlt
            obtain ⟨t, b', off', ht, rfl, hbl', c1⟩ := (HTL'.out.keep HB.out).round hlt
            have HS := hide hs
            have HT := hide ht
            clear hs ht
            by_cases hst : s = t
            · have HST := hide hst
              have he := str_same hst
              clear hst
              go_wp2_with fail
              go_quiet (fail)
              go_wp2
              go_roundw
              case rel => exact ⟨i + 1, by omega, by go_num, fun j x y hj hx hy => by
                by_cases e : j = i
                · subst e
                  rw [HS.out] at hx
                  rw [HT.out] at hy
                  injection hx with hx
                  injection hy with hy
                  rw [← hx, ← hy]; exact HST.out
                · exact HO.out j x y (by omega) hx hy, hide (by simpa using below_drewN HB.out _)⟩
              case measure => simp [intOf]; omega
            · have HR := hide (show v = false by rw [HV.out]; exact decide_eq_false fun e => hst (by
                have h1 := HS.out
                rw [e, HT.out] at h1
                injection h1 with h1
                exact h1.symm))
              have he := str_not hst
              clear hst
              go_wp2_with fail
              go_quiet (fail)
              go_wp2
              go_ret
              exact ⟨by rw [HR.out]; rfl, by simpa using below_drewN (HB2.out.trans (HB.out.mono HB2.out.size)) _⟩
          · have hge : ¬ (i : Int) < (n : Int) := by omega
            obtain rfl : i = n := by omega
            have HR := hide (show v = true by
              rw [HV.out]
              refine decide_eq_true (HEQ.out fun j s t h1 h2 => HO.out j s t ?_ h1 h2)
              have := (List.getElem?_eq_some_iff.1 h1).1
              rw [HTL.out.len] at this
              exact this)
            go_wp2
            go_ret
            exact ⟨by rw [HR.out]; rfl, HB2.out.trans (HB.out.mono HB2.out.size)⟩
      · rw [decide_eq_false (show ¬ q.ps = p.ps from fun e => hnm (by rw [← hl.tx.len, ← hl'.tx.len, e]))]
        have hne : ((n : Int) != (n' : Int)) = true := by simp only [bne_iff_ne]; omega
        have hne2 : ((n : Int) == (n' : Int)) = false := beq_eq_false_iff_ne.2 (by omega)
        clear hl hl' hnm hm hg
        go_enter Try.func13, Try.ntmps13
        go_wp2
        go_ret
        exact ⟨rfl, HB2.out⟩
    · rw [decide_eq_false hg, Bool.false_and, Bool.and_false]
      generalize q.m = m at *
      generalize q.g = g at *
      generalize p.m = m' at *
      generalize p.g = g' at *
      have hg1 : (g == g') = false := by simpa using hg
      have hg2 : (g != g') = true := by simpa using hg
      subst hm
      clear hl hl' hg HTL HTL'
      go_enter Try.func13, Try.ntmps13
      go_wp2
      go_ret
      exact ⟨rfl, HB2.out⟩
  · rw [decide_eq_false hm, Bool.false_and]
    generalize q.m = m at *
    generalize q.g = g at *
    generalize p.m = m' at *
    generalize p.g = g' at *
    have hm1 : (m == m') = false := by simpa using hm
    have hm2 : (m != m') = true := by simpa using hm
    clear hl hl' hm HTL HTL'
    go_enter Try.func13, Try.ntmps13
    go_wp2
    go_ret
    exact ⟨rfl, HB2.out⟩

end Go.Proofs.Ytfcokhdkjoimmaa
