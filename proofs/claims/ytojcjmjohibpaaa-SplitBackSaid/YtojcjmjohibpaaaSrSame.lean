/-
  Layer 10: whether two lists of raw frames are one (the document's); raw frames as the document's (the law's raws).
-/
import Derived.Test.YtojcjmjohibpaaaSpMem
import Derived.Test.YtojcjmjohibpaaaRegs
import Derived.Laws.StructEq
import Derived.BigQuiet
namespace Go.Proofs.Ytojcjmjohibpaaa
set_option linter.unusedSimpArgs false
set_option linter.unusedVariables false
open Go.RowKit

def sameR (l m : List Rw) : Bool := decide (l = m)
theorem sameR_no {l m : List Rw} (h : l ≠ m) : sameR l m = false := by simp [sameR, h]
theorem sameR_yes {l m : List Rw} (h : l = m) : sameR l m = true := by simp [sameR, h]
/-- How two raw frames part, in the walk's words. -/
def RwPart (f g : Rw) : Prop := (f.l == g.l) = false ∨ ((f.l == g.l) = true ∧ (f.t == g.t) = false) ∨ ((f.l == g.l) = true ∧ (f.t == g.t) = true ∧ (f.f == g.f) = false) ∨ ((f.l == g.l) = true ∧ (f.t == g.t) = true ∧ (f.f == g.f) = true ∧ (f.s == g.s) = false) ∨ ((f.l == g.l) = true ∧ (f.t == g.t) = true ∧ (f.f == g.f) = true ∧ (f.s == g.s) = true ∧ (f.d.toList == g.d.toList) = false)
theorem rw_part {f g : Rw} (h : f ≠ g) : RwPart f g := by
  obtain ⟨a, b, c, d, e⟩ := f
  obtain ⟨a', b', c', d', e'⟩ := g
  unfold RwPart
  by_cases h1 : a = a'
  · by_cases h2 : b = b'
    · by_cases h3 : c = c'
      · by_cases h4 : d = d'
        · have h5 : e ≠ e' := fun h5 => h (by rw [h1, h2, h3, h4, h5])
          refine .inr (.inr (.inr (.inr ⟨by simp [h1], by simp [h2], by simp [h3], by simp [h4], ?_⟩)))
          simp only
          rw [str_eq]; simp [h5]
        · exact .inr (.inr (.inr (.inl ⟨by simp [h1], by simp [h2], by simp [h3], by simp [h4]⟩)))
      · exact .inr (.inr (.inl ⟨by simp [h1], by simp [h2], by simp [h3]⟩))
    · exact .inr (.inl ⟨by simp [h1], by simp [h2]⟩)
  · exact .inl (by simp [h1])
theorem rtake_same {l l' : List Rw} {i : Nat} {f f' : Rw} (h : l.take i = l'.take i) (hf : l[i]? = some f) (hf' : l'[i]? = some f') (e : f = f') : l.take (i + 1) = l'.take (i + 1) := by
  rw [List.take_add_one, List.take_add_one, h, hf, hf', e]
theorem rtake_not {l l' : List Rw} {i : Nat} {f f' : Rw} (hf : l[i]? = some f) (hf' : l'[i]? = some f') (e : f ≠ f') : l ≠ l' := by
  rintro rfl
  rw [hf] at hf'
  exact e (Option.some.inj hf')

set_option maxRecDepth 100000 in
set_option maxHeartbeats 1600000 in
theorem rf_SameRaws (A A' : Option Addr) (n n' c c' : Nat) (l l' : List Rw) (w : World) (hfl : ZL w A n c l) (hfl' : ZL w A' n' c' l') (hn : (n : Int) ≤ 2000000) (hn' : (n' : Int) ≤ 2000000) :
    Calls Try.prog 9 #[.slice A n c, .slice A' n' c'] w fun e w' => e = .returned (.bool (sameR l l')) ∧ Below w.heap.size w w' := by
  obtain ⟨C, hC⟩ : ∃ C, C = sameR l l' := ⟨_, rfl⟩
  rw [← hC]
  have HCK := hide hC
  have HPL := hide hfl
  have HPL' := hide hfl'
  clear hC hfl hfl'
  by_cases hne : n = n'
  · subst hne
    have hnn : ((n : Int) == (n : Int)) = true := by simp
    go_enter Try.func9, Try.ntmps9
    go_wp2_with fail
    go_loopw [5] (fun k wr => ∃ i : Nat, i ≤ n ∧ k = .int .i64 (i : Int) ∧ l.take i = l'.take i ∧ Below w.heap.size w wr) (fun k _ => n - (intOf k).toNat)
    case atStart => exact ⟨0, by omega, rfl, rfl, Below.refl _ _⟩
    case round =>
      obtain ⟨i, hi, rfl, hno, hb⟩ := hrel
      have HNO := hide hno
      have HB := hide hb
      clear hno hb
      by_cases hlt : i < n
      · have hlt' : (i : Int) < (n : Int) := by omega
        obtain ⟨f, b, off, hf, rfl, hbl, c0, c1, c2, c3, c4⟩ := (HPL.out.keep HB.out).round hlt
        obtain ⟨f', b', off', hf', rfl, hbl', c0', c1', c2', c3', c4'⟩ := (HPL'.out.keep HB.out).round hlt
        have HF := hide hf
        have HF' := hide hf'
        clear hf hf'
        by_cases hff : f = f'
        · subst hff
          have HT := hide (rtake_same HNO.out HF.out HF'.out rfl)
          go_wp2_with fail
          go_quiet (fail)
          go_wp2
          go_roundw
          case rel => exact ⟨i + 1, by omega, by go_num, HT.out, below_drewN HB.out _⟩
          case measure => simp [intOf]; omega
        · have HT := hide (rtake_not HF.out HF'.out hff)
          obtain h1 | ⟨h1, h2⟩ | ⟨h1, h2, h3⟩ | ⟨h1, h2, h3, h4⟩ | ⟨h1, h2, h3, h4, h5⟩ := rw_part hff
          all_goals
            clear hff
            go_wp2_with fail
            go_quiet (fail)
            go_wp2
            go_ret
            exact ⟨by rw [HCK.out, sameR_no HT.out]; rfl, below_drewN HB.out _⟩
      · have hge : ¬ (i : Int) < (n : Int) := by omega
        obtain rfl : i = n := by omega
        go_wp2
        go_ret
        refine ⟨?_, HB.out⟩
        have h1 := HNO.out
        rw [← HPL.out.len, List.take_length, HPL.out.len, ← HPL'.out.len, List.take_length] at h1
        rw [HCK.out, sameR_yes h1]; rfl
  · have hnn : ((n : Int) == (n' : Int)) = false := by simp; omega
    go_enter Try.func9, Try.ntmps9
    go_wp2
    go_ret
    refine ⟨?_, Below.refl _ _⟩
    rw [HCK.out, sameR_no (fun e => hne (by rw [← HPL.out.len, ← HPL'.out.len, e]))]
    rfl

end Go.Proofs.Ytojcjmjohibpaaa
