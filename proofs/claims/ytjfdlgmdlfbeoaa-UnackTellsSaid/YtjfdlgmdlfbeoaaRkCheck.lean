/-
  Layer 13: Check, Light: the document's.
-/
import Derived.Test.YtjfdlgmdlfbeoaaUkSmall
import Derived.BigQuiet
namespace Go.Proofs.Ytjfdlgmdlfbeoaa
set_option linter.unusedSimpArgs false
set_option linter.unusedVariables false
open Go.RowKit

def OrdTo (l : List It) (j : Nat) : Prop := ∀ m x y, m + 1 < j → l[m]? = some x → l[m + 1]? = some y → x.t ≤ y.t
theorem OrdTo.next {l : List It} {i : Nat} {x y : It} (h : OrdTo l (i + 1)) (hx : l[i]? = some x) (hy : l[i + 1]? = some y) (hxy : ¬ y.t < x.t) : OrdTo l (i + 1 + 1) := fun m a b hm ha hb => by
  by_cases e : m = i
  · subst e
    rw [hx] at ha; rw [hy] at hb
    injection ha with ha; injection hb with hb
    subst ha hb
    omega
  · exact h m a b (by omega) ha hb

set_option maxRecDepth 100000 in
set_option maxHeartbeats 3200000 in
theorem rk_Check (A : Option Addr) (n c : Nat) (l : List It) (w : World) (hl : IL w A n c l) (hn : (n : Int) ≤ 1000000) :
    Calls Try.prog 18 #[.slice A n c] w fun e w' => e = .returned (.int .i64 (chkU l)) ∧ Below w.heap.size w w' := by
  have hle := hl.len
  by_cases h4 : 4 < (n : Int)
  · rw [chkU_7 (by omega)]
    clear hl hle
    go_enter Try.func18, Try.ntmps18
    go_wp2
    go_ret
    exact ⟨rfl, Below.refl _ _⟩
  · have h4' : ¬ 4 < (l.length : Int) := by omega
    have HIL := hide hl
    have HN := hide (fun n w => rk_in n w)
    have H5 := hide (show itsLong l = true → chkU l = 5 from chkU_5 h4')
    have H8 := hide (show itsLong l = false → itsOff l = true → chkU l = 8 from chkU_8 h4')
    have H10 := hide (show itsLong l = false → itsOff l = false → ordB l = false → chkU l = 10 from chkU_10 h4')
    have H0 := hide (show itsLong l = false → itsOff l = false → ordB l = true → chkU l = 0 from chkU_0 h4')
    generalize chkU l = ck at *
    clear hl hle h4'
    go_enter Try.func18, Try.ntmps18
    go_wp2_with fail
    go_loop [3] (fun k => ∃ i : Nat, i ≤ n ∧ k = .int .i64 (i : Int) ∧ NoneU (fun x => longB x.ps) l i) (fun k => n - (intOf k).toNat)
    case atStart => exact ⟨0, by omega, rfl, .zero _ l⟩
    case round =>
      obtain ⟨i, hi, rfl, hno⟩ := hrel
      have HNO := hide hno
      clear hno
      by_cases hlt : i < n
      · have hlt' : (i : Int) < (n : Int) := by omega
        obtain ⟨x, A', c', b, off, hx, rfl, hbl, c0, c1, hp⟩ := HIL.out.round hlt
        have HX := hide hx
        clear hx hp
        obtain ⟨m, hm⟩ : ∃ m, m = x.ps.length := ⟨_, rfl⟩
        rw [← hm] at c0
        by_cases h8 : 8 < (m : Int)
        · have HE := hide (H5.out (any_yes HX.out (longB_yes hm.symm h8)))
          clear hm
          go_wp2
          go_ret
          exact ⟨by rw [HE.out]; rfl, Below.refl _ _⟩
        · have HT := hide (HNO.out.succ HX.out (longB_no hm.symm h8))
          clear hm
          go_wp2
          go_round
          case rel => exact ⟨i + 1, by omega, by go_num, HT.out⟩
          case measure => simp [intOf]; omega
      · have hge : ¬ (i : Int) < (n : Int) := by omega
        obtain rfl : i = n := by omega
        have HA := hide (show itsLong l = false from any_no (by rw [HIL.out.len]; exact HNO.out))
        clear HNO
        go_wp2_with fail
        go_loop [4] (fun k => ∃ j : Nat, j ≤ i ∧ k = .int .i64 (j : Int) ∧ NoneU (fun x => !tickB x.t) l j) (fun k => i - (intOf k).toNat)
        case atStart => exact ⟨0, by omega, rfl, .zero _ l⟩
        case round =>
          obtain ⟨j, hj, rfl, hno⟩ := hrel
          have HNO := hide hno
          clear hno
          by_cases hlt : j < i
          · have hlt' : (j : Int) < (i : Int) := by omega
            obtain ⟨x, A', c', b, off, hx, rfl, hbl, c0, c1, hp⟩ := HIL.out.round hlt
            have HX := hide hx
            clear hx hp
            have HC := hide (HN.out x.t)
            cases ht : tickB x.t with
            | false =>
              rw [ht] at HC
              have HE := hide (H8.out HA.out (any_yes HX.out (by rw [ht]; rfl)))
              clear ht
              go_wp2_with (go_at_call 30; refine (HC.out _).mono ?_; rintro e w2 ⟨rfl, rfl⟩)
              go_ret
              exact ⟨by rw [HE.out]; rfl, Below.refl _ _⟩
            | true =>
              rw [ht] at HC
              have HT := hide (HNO.out.succ HX.out (show (fun x : It => !tickB x.t) x = false by simp [ht]))
              clear ht
              go_wp2_with (go_at_call 30; refine (HC.out _).mono ?_; rintro e w2 ⟨rfl, rfl⟩)
              go_round
              case rel => exact ⟨j + 1, by omega, by go_num, HT.out⟩
              case measure => simp [intOf]; omega
          · have hge : ¬ (j : Int) < (i : Int) := by omega
            obtain rfl : j = i := by omega
            have HB := hide (show itsOff l = false from any_no (by rw [HIL.out.len]; exact HNO.out))
            clear HNO
            go_wp2_with fail
            go_loopw [5] (fun k wr => ∃ j' : Nat, (j' ≤ j ∨ j' = 1) ∧ k = .int .i64 (j' : Int) ∧ 1 ≤ j' ∧ OrdTo l j' ∧ Below w.heap.size w wr) (fun k _ => j - (intOf k).toNat)
            case atStart => exact ⟨1, .inr rfl, rfl, by omega, fun m x y hm => absurd hm (by omega), Below.refl _ _⟩
            case round =>
              obtain ⟨k1, hk, rfl, h1, ho, hb⟩ := hrel
              have HO := hide ho
              have HBW := hide hb
              clear ho hb
              obtain ⟨k, rfl⟩ : ∃ k, k1 = k + 1 := ⟨k1 - 1, by omega⟩
              by_cases hlt : k + 1 < j
              · have hlt2 : (k : Int) + 1 < (j : Int) := by omega
                have hlt1 : (k : Int) < (j : Int) := by omega
                have h0i : (0 : Int) ≤ (k : Int) + 1 := by omega
                obtain ⟨x, A1, n1, b, off, hx, rfl, hbl, c0, c1, -⟩ := (HIL.out.keep HBW.out).round (show k < j by omega)
                obtain ⟨y, A2, n2, b', off', hy, e, -, d0, d1, -⟩ := (HIL.out.keep HBW.out).round hlt
                injection e with e
                injection e with e1 e2
                subst e1 e2
                have HX := hide hx
                have HY := hide hy
                clear hx hy hk h1
                by_cases hxy : y.t < x.t
                · have HE := hide (H10.out HA.out HB.out (ord_no HX.out HY.out hxy))
                  clear HX HY
                  push_cast
                  go_wp2_with fail
                  go_quiet (fail)
                  go_wp2
                  go_ret
                  exact ⟨by rw [HE.out]; rfl, below_drewN HBW.out _⟩
                · have HT := hide (HO.out.next HX.out HY.out hxy)
                  clear HX HY
                  push_cast
                  go_wp2_with fail
                  go_quiet (fail)
                  go_wp2
                  go_roundw
                  case rel => exact ⟨k + 1 + 1, .inl (by omega), by go_num, by omega, HT.out, below_drewN HBW.out _⟩
                  case measure => simp [intOf]; omega
              · have hge : ¬ (k : Int) + 1 < (j : Int) := by omega
                have HE := hide (H0.out HA.out HB.out (ord_yes fun m x y hx hy => HO.out m x y (by have := (List.getElem?_eq_some_iff.1 hy).1; have := HIL.out.len; omega) hx hy))
                push_cast
                go_wp2
                go_ret
                exact ⟨by rw [HE.out]; rfl, HBW.out⟩

set_option maxRecDepth 100000 in
set_option maxHeartbeats 1600000 in
theorem rk_Light (A : Option Addr) (n c : Nat) (l : List It) (w : World) (hl : IL w A n c l) :
    Calls Try.prog 7 #[.slice A n c] w fun e w' => e = .returned (.bool (lightU l)) ∧ w = w' := by
  obtain ⟨C, hC⟩ : ∃ C, C = lightU l := ⟨_, rfl⟩
  rw [← hC]
  have HCK := hide hC
  have HIL := hide hl
  clear hC hl
  by_cases hn : (n : Int) ≤ 8
  · have hn' : ¬ (8 : Int) < (n : Int) := by omega
    go_enter Try.func7, Try.ntmps7
    go_wp2_with fail
    go_loop [3] (fun k => ∃ i : Nat, i ≤ n ∧ k = .int .i64 (i : Int) ∧ NoneU (fun x => !decide ((x.ps.length : Int) ≤ 20)) l i) (fun k => n - (intOf k).toNat)
    case atStart => exact ⟨0, by omega, rfl, .zero _ l⟩
    case round =>
      obtain ⟨i, hi, rfl, hno⟩ := hrel
      have HNO := hide hno
      clear hno
      by_cases hlt : i < n
      · have hlt' : (i : Int) < (n : Int) := by omega
        obtain ⟨x, A', c', b, off, hx, rfl, hbl, c0, c1, hp⟩ := HIL.out.round hlt
        have HX := hide hx
        clear hx hp
        obtain ⟨m, hm⟩ : ∃ m, m = x.ps.length := ⟨_, rfl⟩
        rw [← hm] at c0
        by_cases h1 : (m : Int) ≤ 20
        · have h1' : ¬ (20 : Int) < (m : Int) := by omega
          have HT := hide (HNO.out.succ HX.out (by rw [← hm]; simp [h1]))
          clear hm
          go_wp2
          go_round
          case rel => exact ⟨i + 1, by omega, by go_num, HT.out⟩
          case measure => simp [intOf]; omega
        · have h1' : (20 : Int) < (m : Int) := by omega
          have HT := hide (lightU_no HX.out (by rw [← hm]; exact h1))
          clear hm
          go_wp2
          go_ret
          exact ⟨by rw [HCK.out, HT.out]; rfl, rfl⟩
      · have hge : ¬ (i : Int) < (n : Int) := by omega
        obtain rfl : i = n := by omega
        have HT := hide (lightU_yes (l := l) (by rw [HIL.out.len]; exact hn) (by rw [HIL.out.len]; exact HNO.out))
        go_wp2
        go_ret
        exact ⟨by rw [HCK.out, HT.out]; rfl, rfl⟩
  · have hn' : (8 : Int) < (n : Int) := by omega
    have HT := hide (lightU_long (l := l) (by rw [HIL.out.len]; exact hn))
    go_enter Try.func7, Try.ntmps7
    go_wp2
    go_ret
    exact ⟨by rw [HCK.out, HT.out]; rfl, rfl⟩
end Go.Proofs.Ytjfdlgmdlfbeoaa
