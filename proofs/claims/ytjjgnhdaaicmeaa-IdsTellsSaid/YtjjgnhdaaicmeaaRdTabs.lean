/-
  Layer 15: the document's Class and Light (written by gen15rcheck.py).
-/
import Derived.Test.YtjjgnhdaaicmeaaIdCheck0
namespace Go.Proofs.Ytjjgnhdaaicmeaa
set_option linter.unusedSimpArgs false
set_option linter.unusedVariables false
open Go.RowKit

theorem NL.none_ {w : World} {n c : Nat} {l : List Int} (h : NL .i64 w none n c l) : l = [] := by
  cases l with
  | nil => rfl
  | cons x l =>
    obtain ⟨_, _, e, _⟩ := h.at_ 0 x rfl
    cases e
theorem NL.take {w : World} {A : Option Addr} {n c : Nat} {l : List Int} (h : NL .i64 w A n c l) {i : Nat} (hi : i ≤ n) : NL .i64 w A i c (l.take i) := by
  refine ⟨by rw [List.length_take, h.len]; omega, Nat.le_trans hi h.le, h.max, fun j x hj => ?_⟩
  have hji : j < i := by
    have := (List.getElem?_eq_some_iff.1 hj).1
    rw [List.length_take] at this; omega
  rw [List.getElem?_take_of_lt hji] at hj
  exact h.at_ j x hj

set_option maxRecDepth 100000 in
set_option maxHeartbeats 1600000 in
theorem rd_Class (T : Tb) (A : Option Addr) (n c : Nat) (B : Option Addr) (m d : Nat) (id : Int) (w : World) (hl : TL w T A n c B m d) (hn : (n : Int) ≤ 1000000) (hm : (m : Int) ≤ 1000000) :
    Calls Try.prog 8 #[.agg #[.int .i64 T.l, .slice A n c, .slice B m d], .int .i64 id] w fun e w' => e = .returned (.int .i64 (clsI T id)) ∧ Below w.heap.size w w' := by
  have HC := hide (fun w => rd_odd id w)
  have HB1 := hide (bel1 w (.cells #[.int .i64 T.l, .slice A n c, .slice B m d] 24))
  have HI1 := hide (rd_In A n c T.op id _ (hl.op.keep HB1.out) hn)
  have HI2 := hide (rd_In B m d T.cu id _ (hl.cu.keep HB1.out) hm)
  cases ho : oddB id with
  | false =>
    rw [cls_0 ho]
    rw [ho] at HC
    clear ho hl HI1 HI2 hn hm
    go_enter Try.func8, Try.ntmps8
    go_wp2_with (go_at_call 18; refine (HC.out _).mono ?_; rintro e w2 ⟨rfl, rfl⟩)
    go_ret
    exact ⟨rfl, HB1.out⟩
  | true =>
    rw [ho] at HC
    by_cases hlt : T.l < id
    · rw [cls_1 ho hlt]
      clear ho hl HI1 HI2 hn hm
      go_enter Try.func8, Try.ntmps8
      go_wp2_with (go_at_call 18; refine (HC.out _).mono ?_; rintro e w2 ⟨rfl, rfl⟩)
      go_ret
      exact ⟨rfl, HB1.out⟩
    · rw [cls_in ho hlt]
      clear ho hl hn hm
      by_cases h1 : id ∈ T.op
      · rw [if_pos h1]
        rw [decide_eq_true h1] at HI1
        clear h1 HI2
        go_enter Try.func8, Try.ntmps8
        go_wp2_with (first | (go_at_call 18; refine (HC.out _).mono ?_; rintro e w2 ⟨rfl, rfl⟩) | (go_at_call 19; refine HI1.out.mono ?_; rintro e w2 ⟨rfl, rfl⟩))
        go_ret
        exact ⟨rfl, HB1.out⟩
      · rw [if_neg h1]
        rw [decide_eq_false h1] at HI1
        clear h1
        obtain ⟨r, v, hv, hr⟩ : ∃ (r : Int) (v : Bool), decide (id ∈ T.cu) = v ∧ (if id ∈ T.cu then 4 else 3 : Int) = r := ⟨_, _, rfl, rfl⟩
        rw [hv] at HI2
        rw [hr]
        cases v with
        | true =>
          rw [if_pos (by simpa using hv)] at hr
          subst hr
          clear hv
          go_enter Try.func8, Try.ntmps8
          go_wp2_with (go_at_call 18; refine (HC.out _).mono ?_; rintro e w2 ⟨rfl, rfl⟩)
          refine HI1.out.mono ?_
          rintro e w2 ⟨rfl, rfl⟩
          go_wp2_with fail
          refine HI2.out.mono ?_
          rintro e w2 ⟨rfl, rfl⟩
          go_wp2
          go_ret
          exact ⟨rfl, HB1.out⟩
        | false =>
          rw [if_neg (by simpa using hv)] at hr
          subst hr
          clear hv
          go_enter Try.func8, Try.ntmps8
          go_wp2_with (go_at_call 18; refine (HC.out _).mono ?_; rintro e w2 ⟨rfl, rfl⟩)
          refine HI1.out.mono ?_
          rintro e w2 ⟨rfl, rfl⟩
          go_wp2_with fail
          refine HI2.out.mono ?_
          rintro e w2 ⟨rfl, rfl⟩
          go_wp2
          go_ret
          exact ⟨rfl, HB1.out⟩

theorem rd_Light (L : Int) (A : Option Addr) (n c : Nat) (B : Option Addr) (m d : Nat) (w : World) :
    Calls Try.prog 5 #[.agg #[.int .i64 L, .slice A n c, .slice B m d]] w fun e w' => e = .returned (.bool (decide ((n : Int) ≤ 40) && decide ((m : Int) ≤ 40))) ∧ Below w.heap.size w w' := by
  by_cases h1 : (n : Int) ≤ 40
  · by_cases h2 : (m : Int) ≤ 40
    · rw [decide_eq_true h1, decide_eq_true h2]
      go_enter Try.func5, Try.ntmps5
      go_wp2
      go_ret
      exact ⟨rfl, bel1 _ _⟩
    · rw [decide_eq_true h1, decide_eq_false h2]
      go_enter Try.func5, Try.ntmps5
      go_wp2
      go_ret
      exact ⟨by simp, bel1 _ _⟩
  · rw [decide_eq_false h1]
    go_enter Try.func5, Try.ntmps5
    go_wp2
    go_ret
    exact ⟨by simp, bel1 _ _⟩
end Go.Proofs.Ytjjgnhdaaicmeaa
