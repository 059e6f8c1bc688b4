/-
  Layer 9: whether two lists of settings are one: the document's.
-/
import Derived.Test.YtjfdlgmdlfbeoaaPrMem
import Derived.Laws.StructEq
import Derived.BigQuiet
namespace Go.Proofs.Ytjfdlgmdlfbeoaa
set_option linter.unusedSimpArgs false
set_option linter.unusedVariables false
open Go.RowKit

def sameP (l m : List Pr) : Bool := decide (l = m)
theorem sameP_no {l m : List Pr} (h : l ≠ m) : sameP l m = false := by simp [sameP, h]
theorem sameP_yes {l m : List Pr} (h : l = m) : sameP l m = true := by simp [sameP, h]
theorem PL.round {w : World} {A : Option Addr} {n c : Nat} {l : List Pr} (h : PL w A n c l) {k : Nat} (hk : k < n) :
    ∃ f b off, l[k]? = some f ∧ A = some ⟨b, off, none⟩ ∧ b < w.heap.size ∧ w.cell? ⟨b, off + k * 2, none⟩ = some (.int .u16 f.i) ∧ w.cell? ⟨b, off + k * 2 + 1, none⟩ = some (.int .u32 f.v) := by
  have hl := h.len
  obtain ⟨b, off, h1⟩ := h.at_ k _ (List.getElem?_eq_getElem (show k < l.length by omega))
  exact ⟨_, b, off, List.getElem?_eq_getElem (by omega), h1⟩
/-- How two settings part, in the walk's words. -/
def PrPart (f g : Pr) : Prop := (f.i == g.i) = false ∨ ((f.i == g.i) = true ∧ (f.v == g.v) = false)
theorem pr_part {f g : Pr} (h : f ≠ g) : PrPart f g := by
  obtain ⟨a, b⟩ := f
  obtain ⟨a', b'⟩ := g
  by_cases h1 : a = a'
  · refine .inr ⟨by simp [h1], ?_⟩
    rw [beq_eq_false_iff_ne]
    intro h2
    subst h1
    exact h (by rw [show b = b' from h2])
  · exact .inl (by simp [h1])
theorem take_same {l l' : List Pr} {i : Nat} {f f' : Pr} (h : l.take i = l'.take i) (hf : l[i]? = some f) (hf' : l'[i]? = some f') (e : f = f') : l.take (i + 1) = l'.take (i + 1) := by
  rw [List.take_add_one, List.take_add_one, h, hf, hf', e]
theorem take_not {l l' : List Pr} {i : Nat} {f f' : Pr} (hf : l[i]? = some f) (hf' : l'[i]? = some f') (e : f ≠ f') : l ≠ l' := by
  rintro rfl
  rw [hf] at hf'
  exact e (Option.some.inj hf')

set_option maxRecDepth 100000 in
set_option maxHeartbeats 1600000 in
theorem rf_SamePairs (A A' : Option Addr) (n n' c c' : Nat) (l l' : List Pr) (w : World) (hfl : PL w A n c l) (hfl' : PL w A' n' c' l') (hn : (n : Int) ≤ 2000000) (hn' : (n' : Int) ≤ 2000000) :
    Calls Try.prog 16 #[.slice A n c, .slice A' n' c'] w fun e w' => e = .returned (.bool (sameP l l')) ∧ Below w.heap.size w w' := by
  obtain ⟨C, hC⟩ : ∃ C, C = sameP l l' := ⟨_, rfl⟩
  rw [← hC]
  have HCK := hide hC
  have HPL := hide hfl
  have HPL' := hide hfl'
  clear hC hfl hfl'
  by_cases hne : n = n'
  · subst hne
    have hnn : ((n : Int) == (n : Int)) = true := by simp
    go_enter Try.func16, Try.ntmps16
    go_wp2_with fail
    go_loopw [5] (fun k wr => ∃ i : Nat, i ≤ n ∧ k = .int .i64 (i : Int) ∧ l.take i = l'.take i ∧ Below w.heap.size w wr) (fun k _ => n - (intOf k).toNat)
    case atStart => exact ⟨0, by omega, rfl, rfl, Below.refl _ _⟩
    case round =>
      obtain ⟨i, hi, rfl, hno, hb⟩ := hrel
      have HNO := hide hno
      have HB := hide hb
      clear hno hb
      by_cases hlt : i < n
      · have hlt' : (i : Int) < (n : Int) := by omega
        obtain ⟨f, b, off, hf, rfl, hbl, c0, c1⟩ := (HPL.out.keep HB.out).round hlt
        obtain ⟨f', b', off', hf', rfl, hbl', c0', c1'⟩ := (HPL'.out.keep HB.out).round hlt
        have HF := hide hf
        have HF' := hide hf'
        clear hf hf'
        by_cases hff : f = f'
        · subst hff
          have HT := hide (take_same HNO.out HF.out HF'.out rfl)
          go_wp2_with fail
          go_quiet (fail)
          go_wp2
          go_roundw
          case rel => exact ⟨i + 1, by omega, by go_num, HT.out, below_drewN HB.out _⟩
          case measure => simp [intOf]; omega
        · have HT := hide (take_not HF.out HF'.out hff)
          obtain h1 | ⟨h1, h2⟩ := pr_part hff
          all_goals
            clear hff
            go_wp2_with fail
            go_quiet (fail)
            go_wp2
            go_ret
            exact ⟨by rw [HCK.out, sameP_no HT.out]; rfl, below_drewN HB.out _⟩
      · have hge : ¬ (i : Int) < (n : Int) := by omega
        obtain rfl : i = n := by omega
        go_wp2
        go_ret
        refine ⟨?_, HB.out⟩
        have h1 := HNO.out
        rw [← HPL.out.len, List.take_length, HPL.out.len, ← HPL'.out.len, List.take_length] at h1
        rw [HCK.out, sameP_yes h1]; rfl
  · have hnn : ((n : Int) == (n' : Int)) = false := by simp; omega
    go_enter Try.func16, Try.ntmps16
    go_wp2
    go_ret
    refine ⟨?_, Below.refl _ _⟩
    rw [HCK.out, sameP_no (fun e => hne (by rw [← HPL.out.len, ← HPL'.out.len, e]))]
    rfl

end Go.Proofs.Ytjfdlgmdlfbeoaa
