/-
  Whether two lists of fields are one: the document's SameFields.
-/
import Derived.Test.YtdnopjopdklelaaDoorFdMem
import Derived.Test.YtdnopjopdklelaaDoorStrSame
import Derived.Laws.StructEq
import Derived.Deep.QuietTactic
import Derived.BigQuiet
namespace Go.Proofs.YtdnopjopdklelaaDoor
set_option linter.unusedSimpArgs false
set_option linter.unusedVariables false
open Go.RowKit

/-- How two fields part, in the walk's words. -/
def FdPart (f g : Fd) : Prop := (f.n.toList == g.n.toList) = false ∨ ((f.n.toList == g.n.toList) = true ∧ (f.v.toList == g.v.toList) = false) ∨ ((f.n.toList == g.n.toList) = true ∧ (f.v.toList == g.v.toList) = true ∧ (f.x == g.x) = false)
theorem fd_part {f g : Fd} (h : f ≠ g) : FdPart f g := by
  by_cases h1 : f.n = g.n
  · by_cases h2 : f.v = g.v
    · refine .inr (.inr ⟨str_same h1, str_same h2, ?_⟩)
      rw [beq_eq_false_iff_ne]
      intro h3
      obtain ⟨a, b, c⟩ := f
      obtain ⟨a', b', c'⟩ := g
      simp only at h1 h2 h3
      subst h1 h2 h3
      exact h rfl
    · exact .inr (.inl ⟨str_same h1, str_not h2⟩)
  · exact .inl (str_not h1)
theorem take_same {l l' : List Fd} {i : Nat} {f f' : Fd} (h : l.take i = l'.take i) (hf : l[i]? = some f) (hf' : l'[i]? = some f') (e : f = f') : l.take (i + 1) = l'.take (i + 1) := by
  rw [List.take_add_one, List.take_add_one, h, hf, hf', e]
theorem take_not {l l' : List Fd} {i : Nat} {f f' : Fd} (hf : l[i]? = some f) (hf' : l'[i]? = some f') (e : f ≠ f') : l ≠ l' := by
  rintro rfl
  rw [hf] at hf'
  exact e (Option.some.inj hf')

set_option maxRecDepth 100000 in
set_option maxHeartbeats 1600000 in
theorem rf_SameFields (A A' : Option Addr) (n n' c c' : Nat) (l l' : List Fd) (w : World) (hfl : FL w A n c l) (hfl' : FL w A' n' c' l') (hn : (n : Int) ≤ 1099511627776) (hn' : (n' : Int) ≤ 1099511627776) :
    Calls Tryd.prog 8 #[.slice A n c, .slice A' n' c'] w fun e w' => e = .returned (.bool (decide (l = l'))) ∧ Below w.heap.size w w' := by
  obtain ⟨C, hC⟩ : ∃ C, C = decide (l = l') := ⟨_, rfl⟩
  rw [← hC]
  have HCK := hide hC
  have HFL := hide hfl
  have HFL' := hide hfl'
  clear hC hfl hfl'
  by_cases hne : n = n'
  · subst hne
    have hnn : ((n : Int) == (n : Int)) = true := by simp
    go_enter Tryd.func8, Tryd.ntmps8
    go_wp2_with fail
    go_loopw [5] (fun k wr => ∃ i : Nat, i ≤ n ∧ k = .int .i64 (i : Int) ∧ l.take i = l'.take i ∧ Below w.heap.size w wr) (fun k _ => n - (intOf k).toNat)
    case atStart => exact ⟨0, by omega, rfl, rfl, Below.refl _ _⟩
    case round =>
      obtain ⟨i, hi, rfl, hno, hb⟩ := hrel
      have HNO := hide hno
      have HB := hide hb
      clear hno hb
      by_cases hlt : i < n
      · have hlt' : (i : Int) < (n : Int) := by omega
        obtain ⟨f, b, off, hf, rfl, hbl, c0, c1, c2⟩ := (HFL.out.keep HB.out).round hlt
        obtain ⟨f', b', off', hf', rfl, hbl', c0', c1', c2'⟩ := (HFL'.out.keep HB.out).round hlt
        have HF := hide hf
        have HF' := hide hf'
        clear hf hf'
        by_cases hff : f = f'
        · subst hff
          have HT := hide (take_same HNO.out HF.out HF'.out rfl)
          go_wp2_with fail
          go_quiet (fail)
          go_wp2
          go_roundw
          case rel => exact ⟨i + 1, by omega, by go_num, HT.out, below_drewN HB.out _⟩
          case measure => simp [intOf]; omega
        · have HT := hide (take_not HF.out HF'.out hff)
          obtain h1 | ⟨h1, h2⟩ | ⟨h1, h2, h3⟩ := fd_part hff
          all_goals
            clear hff
            go_wp2_with fail
            go_quiet (fail)
            go_wp2
            go_ret
            exact ⟨by rw [HCK.out, decide_eq_false HT.out]; rfl, below_drewN HB.out _⟩
      · have hge : ¬ (i : Int) < (n : Int) := by omega
        obtain rfl : i = n := by omega
        go_wp2
        go_ret
        refine ⟨?_, HB.out⟩
        have h1 := HNO.out
        rw [← HFL.out.len, List.take_length, HFL.out.len, ← HFL'.out.len, List.take_length] at h1
        rw [HCK.out, h1]
        simp
  · have hnn : ((n : Int) == (n' : Int)) = false := by simp; omega
    go_enter Tryd.func8, Tryd.ntmps8
    go_wp2
    go_ret
    refine ⟨?_, Below.refl _ _⟩
    rw [HCK.out, decide_eq_false (fun e => hne (by rw [← HFL.out.len, ← HFL'.out.len, e]))]
    rfl
end Go.Proofs.YtdnopjopdklelaaDoor
