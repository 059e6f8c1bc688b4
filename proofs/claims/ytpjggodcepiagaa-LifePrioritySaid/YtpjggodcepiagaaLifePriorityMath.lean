/-
  LifePriority: runs of parts, and of events with one of priority ahead of each, as plain functions.
-/
import Derived.Test.YtpjggodcepiagaaLfRun
namespace Go.Proofs.Ytpjggodcepiagaa.lifePriority
set_option linter.unusedSimpArgs false
set_option linter.unusedVariables false

/-- A run that is not stopped: no verdict, and all events. -/
theorem run_end : ∀ (l : List Ev) (s : Int), (runR s l).1.c = 0 → ∃ s', runR s l = (⟨s', 0, false, false⟩, l.length)
  | [], s, _ => ⟨s, rfl⟩
  | x :: l, s, h => by
    by_cases hc : (stepR s x.k x.b).c = 0
    · rw [runR_go hc] at h ⊢
      obtain ⟨s', e⟩ := run_end l _ h
      exact ⟨s', by rw [e]; rfl⟩
    · rw [runR_stop hc] at h
      exact absurd h hc
/-- One that is stopped: fewer. -/
theorem run_less : ∀ (l : List Ev) (s : Int), ¬ (runR s l).1.c = 0 → (runR s l).2 < l.length
  | [], s, h => absurd rfl h
  | x :: l, s, h => by
    by_cases hc : (stepR s x.k x.b).c = 0
    · rw [runR_go hc] at h ⊢
      have := run_less l _ h
      simp only [List.length_cons]
      omega
    · rw [runR_stop hc]
      simp
theorem run_app_go : ∀ (l₁ l₂ : List Ev) (s s' : Int), runR s l₁ = (⟨s', 0, false, false⟩, l₁.length) → runR s (l₁ ++ l₂) = ((runR s' l₂).1, l₁.length + (runR s' l₂).2)
  | [], l₂, s, s', h => by
    have e : s = s' := by
      have := congrArg (fun q => q.1.s) h
      simpa [runR] using this
    subst e
    simp
  | x :: l, l₂, s, s', h => by
    by_cases hc : (stepR s x.k x.b).c = 0
    · rw [runR_go hc] at h
      have h1 : (runR (stepR s x.k x.b).s l) = (⟨s', 0, false, false⟩, l.length) := by
        have e1 := congrArg (·.1) h
        have e2 := congrArg (·.2) h
        simp only [List.length_cons] at e1 e2
        exact Prod.ext e1 (by simp only; omega)
      rw [List.cons_append, runR_go hc, run_app_go l l₂ _ s' h1]
      simp only [List.length_cons, Prod.mk.injEq, true_and]
      omega
    · rw [runR_stop hc] at h
      have := congrArg (fun q => q.1.c) h
      exact absurd this hc
theorem run_app_stop : ∀ (l₁ l₂ : List Ev) (s : Int), ¬ (runR s l₁).1.c = 0 → runR s (l₁ ++ l₂) = runR s l₁
  | [], l₂, s, h => absurd rfl h
  | x :: l, l₂, s, h => by
    by_cases hc : (stepR s x.k x.b).c = 0
    · rw [runR_go hc] at h
      rw [List.cons_append, runR_go hc, run_app_stop l l₂ _ h, runR_go hc]
    · rw [List.cons_append, runR_stop hc, runR_stop hc]

/-- With an event of priority ahead of each. -/
def twice : List Ev → List Ev
  | [] => []
  | x :: l => ⟨4, x.b⟩ :: x :: twice l
theorem twice_len (l : List Ev) : (twice l).length = 2 * l.length := by
  induction l with
  | nil => rfl
  | cons x l ih => simp only [twice, List.length_cons, ih]; omega
theorem twice_snoc (l : List Ev) (x : Ev) : twice (l ++ [x]) = (twice l ++ [⟨4, x.b⟩]) ++ [x] := by
  induction l with
  | nil => rfl
  | cons y l ih => simp only [List.cons_append, twice, ih]
theorem step_prio {s : Int} (b : Bool) (hs : s ≤ 5) : stepR s 4 b = ⟨s, 0, false, false⟩ := by
  have : ¬ 5 < s := by omega
  simp [stepR, this]
theorem run_twice : ∀ (l : List Ev) (s : Int), 0 ≤ s → s ≤ 5 → (∀ x ∈ l, 0 ≤ x.k) → runR s (twice l) = ((runR s l).1, if (runR s l).1.c = 0 then 2 * l.length else 2 * (runR s l).2 + 1)
  | [], s, _, _, _ => rfl
  | x :: l, s, h0, h5, ha => by
    have hw := step_wf (b := x.b) h0 (ha x (List.mem_cons_self ..))
    have e4 : runR s (twice (x :: l)) = ((runR s (x :: twice l)).1, (runR s (x :: twice l)).2 + 1) := by
      show runR s (⟨4, x.b⟩ :: x :: twice l) = _
      have e := step_prio x.b h5
      rw [runR_go (by simp only [e]), e]
    rw [e4]
    by_cases hc : (stepR s x.k x.b).c = 0
    · rw [runR_go hc, runR_go hc, run_twice l _ hw.1 (by omega) (fun y hy => ha y (List.mem_cons_of_mem _ hy))]
      simp only [List.length_cons, Prod.mk.injEq, true_and]
      split <;> omega
    · rw [runR_stop hc, runR_stop hc]
      simp [hc]

/-- The three ways of a run and of its parts. -/
theorem run_ways (l : List Ev) (s : Int) (h0 : 0 ≤ s) (h5 : s ≤ 5) (ha : ∀ x ∈ l, 0 ≤ x.k) (k : Nat) (hk : k ≤ l.length) :
    (∃ s1 c n d N, ¬ c = 0 ∧ N < k ∧ runR s l = (⟨s1, c, n, d⟩, N) ∧ runR s (twice l) = (⟨s1, c, n, d⟩, 2 * N + 1) ∧ runR s (l.take k) = (⟨s1, c, n, d⟩, N)) ∨
    (∃ s1 c n d N sk, ¬ c = 0 ∧ k ≤ N ∧ N < l.length ∧ runR s l = (⟨s1, c, n, d⟩, N) ∧ runR s (twice l) = (⟨s1, c, n, d⟩, 2 * N + 1) ∧ runR s (l.take k) = (⟨sk, 0, false, false⟩, k) ∧ runR sk (l.drop k) = (⟨s1, c, n, d⟩, N - k)) ∨
    (∃ s1 sk, runR s l = (⟨s1, 0, false, false⟩, l.length) ∧ runR s (twice l) = (⟨s1, 0, false, false⟩, 2 * l.length) ∧ runR s (l.take k) = (⟨sk, 0, false, false⟩, k) ∧ runR sk (l.drop k) = (⟨s1, 0, false, false⟩, l.length - k)) := by
  have ht := run_twice l s h0 h5 ha
  have hlen : (l.take k).length = k := by rw [List.length_take]; omega
  have hl : runR s l = runR s (l.take k ++ l.drop k) := by rw [List.take_append_drop]
  by_cases hp : (runR s (l.take k)).1.c = 0
  · obtain ⟨sk, ek⟩ := run_end _ _ hp
    have hg := run_app_go (l.take k) (l.drop k) s sk ek
    rw [← hl, hlen] at hg
    rw [hlen] at ek
    by_cases hc : (runR s l).1.c = 0
    · obtain ⟨s1, e1⟩ := run_end _ _ hc
      rw [if_pos hc, e1] at ht
      refine .inr (.inr ⟨s1, sk, e1, ht, ek, ?_⟩)
      rw [e1] at hg
      have g1 := congrArg (·.1) hg
      have g2 := congrArg (·.2) hg
      simp only at g1 g2
      exact Prod.ext g1.symm (by simp only; omega)
    · have hl2 := run_less _ _ hc
      rw [if_neg hc] at ht
      have hd : ¬ (runR sk (l.drop k)).1.c = 0 := by rw [hg] at hc; exact hc
      generalize runR s l = q at ht hg hc hl2 ⊢
      obtain ⟨⟨s1, c, n, d⟩, N⟩ := q
      have g1 := congrArg (·.1) hg
      have g2 := congrArg (·.2) hg
      simp only at g1 g2 hc hl2 ht
      exact .inr (.inl ⟨s1, c, n, d, N, sk, hc, by omega, hl2, rfl, ht, ek, Prod.ext g1.symm (by simp only; omega)⟩)
  · have hs := run_app_stop (l.take k) (l.drop k) s hp
    rw [← hl] at hs
    have hlt := run_less _ _ hp
    rw [hlen] at hlt
    rw [← hs] at hp hlt
    rw [if_neg hp] at ht
    generalize runR s l = q at ht hs hp hlt ⊢
    obtain ⟨⟨s1, c, n, d⟩, N⟩ := q
    exact .inl ⟨s1, c, n, d, N, hp, hlt, rfl, ht, hs.symm⟩
end Go.Proofs.Ytpjggodcepiagaa.lifePriority
