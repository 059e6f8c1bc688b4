/-
  Layer 10, the document's: Check.
-/
import Derived.Test.YtojcjmjohibpaaaSrWhole
namespace Go.Proofs.Ytojcjmjohibpaaa
set_option linter.unusedSimpArgs false
set_option linter.unusedVariables false
open Go.RowKit

theorem whole_iff (b : List Int) (h : 0 ≤ gL b) : wholeB b = decide (wholeI b ≠ 0) := by
  unfold wholeB wholeI
  by_cases h1 : 16384 < gL b
  · simp [h1]
  · by_cases h2 : (b.length : Int) < 9 + gL b
    · rw [if_neg h1, if_pos h2]
      simp
      omega
    · rw [if_neg h1, if_neg h2]
      have : ¬ (9 + gL b = 0) := by omega
      have h3 : 9 + gL b ≤ (b.length : Int) := by omega
      simp [this, h3]
def resC (v : Int) : Int := if v = 0 then 0 else 5
theorem resC_eq (b : List Int) (h : 0 ≤ gL b) : (if wholeB b = true then 5 else 0 : Int) = resC (wholeI b) := by
  rw [whole_iff b h, resC]
  by_cases h0 : wholeI b = 0 <;> simp [h0]
theorem resC_0 : resC 0 = 0 := rfl
theorem resC_1 {v : Int} (h : v ≠ 0) : resC v = 5 := by simp [resC, h]

set_option maxRecDepth 100000 in
set_option maxHeartbeats 1600000 in
theorem rf_Check10_end (g : Int) (B : ByteArray) (d : Bool) (hd : d = true → g = 0 ∧ B.size = 0) (h0 : 0 ≤ g) (h1 : g ≤ 24) (hb : g < 24 → B.size = 0) (hS : (B.size : Int) ≤ 1000000) (w : World) :
    Calls Try.prog 12 #[.agg #[.int .i64 g, .string B, .bool d]] w (GivesChk (if wholeB (bts B) = true then 5 else 0) w) := by
  have HC := hide (fun w => rf_whole B hS w)
  rw [resC_eq _ (gL_bd (bts_all B)).1]
  obtain ⟨V, hV⟩ : ∃ V, V = wholeI (bts B) := ⟨_, rfl⟩
  rw [← hV] at HC ⊢
  clear hV
  have n8 : ¬ g < 0 := by omega
  have n24 : ¬ 24 < g := by omega
  have hdd : d = true → g = 0 ∧ B = ⟨#[]⟩ := fun h => ⟨(hd h).1, ba_empty (hd h).2⟩
  have hbb : g < 24 → B = ⟨#[]⟩ := fun h => ba_empty (hb h)
  clear hd hb
  go_enter Try.func12, Try.ntmps12
  have key : ∀ (P : Prop), (d = true → g = 0 → B = ⟨#[]⟩ → P) → (d = false → g < 24 → B = ⟨#[]⟩ → P) → (d = false → g = 24 → P) → P := by
    intro P a b c
    cases hd : d with
    | true => obtain ⟨x, y⟩ := hdd hd; exact a hd x y
    | false =>
      by_cases hg : g < 24
      · exact b hd hg (hbb hg)
      · exact c hd (by omega)
  clear hdd hbb
  refine key _ ?_ ?_ ?_
  · intro e1 e2 e3
    subst e1 e2 e3
    clear key
    go_wp2_with fail
    refine (HC.out _).mono ?_
    rintro e w1 ⟨rfl, hb1⟩
    have B1 := hide (((Below.refl w.heap.size w).alloc (Nat.le_refl _) (.cells #[.int .i64 0, .string ⟨#[]⟩, .bool true] 23)).trans (hb1.mono (by simp)))
    clear hb1
    by_cases hv : V = 0
    · subst hv
      go_wp2_with fail
      go_ret
      exact ⟨rfl, B1.out⟩
    · have HR := hide (resC_1 hv)
      have hv1 : (V != 0) = true := by simp [hv]
      go_wp2_with fail
      go_ret
      exact ⟨by rw [HR.out]; rfl, B1.out⟩
  · intro e1 e2 e3
    subst e1 e3
    clear key
    go_wp2_with fail
    refine (HC.out _).mono ?_
    rintro e w1 ⟨rfl, hb1⟩
    have B1 := hide (((Below.refl w.heap.size w).alloc (Nat.le_refl _) (.cells #[.int .i64 g, .string ⟨#[]⟩, .bool false] 23)).trans (hb1.mono (by simp)))
    clear hb1
    by_cases hv : V = 0
    · subst hv
      go_wp2_with fail
      go_ret
      exact ⟨rfl, B1.out⟩
    · have HR := hide (resC_1 hv)
      have hv1 : (V != 0) = true := by simp [hv]
      go_wp2_with fail
      go_ret
      exact ⟨by rw [HR.out]; rfl, B1.out⟩
  · intro e1 e2
    subst e1 e2
    clear key
    go_wp2_with fail
    refine (HC.out _).mono ?_
    rintro e w1 ⟨rfl, hb1⟩
    have B1 := hide (((Below.refl w.heap.size w).alloc (Nat.le_refl _) (.cells #[.int .i64 24, .string B, .bool false] 23)).trans (hb1.mono (by simp)))
    clear hb1
    by_cases hv : V = 0
    · subst hv
      go_wp2_with fail
      go_ret
      exact ⟨rfl, B1.out⟩
    · have HR := hide (resC_1 hv)
      have hv1 : (V != 0) = true := by simp [hv]
      go_wp2_with fail
      go_ret
      exact ⟨by rw [HR.out]; rfl, B1.out⟩

set_option maxRecDepth 100000 in
set_option maxHeartbeats 1600000 in
theorem rf_Check10 (g : Int) (B : ByteArray) (d : Bool) (hS : (B.size : Int) ≤ 1000000) (w : World) :
    Calls Try.prog 12 #[.agg #[.int .i64 g, .string B, .bool d]] w (GivesChk (Sp.chk ⟨g, bts B, d⟩) w) := by
  cases d with
  | true =>
    by_cases hg : g = 0
    · subst hg
      by_cases hb : B.size = 0
      · rw [chk_end (fun _ => ⟨rfl, by rw [ba_empty hb]; rfl⟩) (by omega) (by omega) (fun _ => by rw [ba_empty hb]; rfl)]
        exact rf_Check10_end 0 B true (fun _ => ⟨rfl, hb⟩) (by omega) (by omega) (fun _ => hb) hS w
      · rw [chk4 (.inr (bts_ne hb))]
        have he : B.toList.isEmpty = false := by rw [is_empty]; simp [hb]
        clear hb
        go_enter Try.func12, Try.ntmps12
        go_wp2_with fail
        go_ret
        exact ⟨rfl, (Below.refl _ _).alloc (Nat.le_refl _) _⟩
    · rw [chk4 (.inl hg)]
      go_enter Try.func12, Try.ntmps12
      go_wp2_with fail
      go_ret
      exact ⟨rfl, (Below.refl _ _).alloc (Nat.le_refl _) _⟩
  | false =>
    by_cases h0 : g < 0
    · rw [chk8 (.inl h0)]
      go_enter Try.func12, Try.ntmps12
      go_wp2_with fail
      go_ret
      exact ⟨rfl, (Below.refl _ _).alloc (Nat.le_refl _) _⟩
    by_cases h1 : 24 < g
    · rw [chk8 (.inr h1)]
      go_enter Try.func12, Try.ntmps12
      go_wp2_with fail
      go_ret
      exact ⟨rfl, (Below.refl _ _).alloc (Nat.le_refl _) _⟩
    by_cases hb : B.size = 0
    · rw [chk_end (fun h => by cases h) (by omega) (by omega) (fun _ => by rw [ba_empty hb]; rfl)]
      exact rf_Check10_end g B false (fun h => by cases h) (by omega) (by omega) (fun _ => hb) hS w
    by_cases h2 : g < 24
    · rw [chk10 (by omega) h2 (bts_ne hb)]
      have he : B.toList.isEmpty = false := by rw [is_empty]; simp [hb]
      clear hb
      go_enter Try.func12, Try.ntmps12
      go_wp2_with fail
      go_ret
      exact ⟨rfl, (Below.refl _ _).alloc (Nat.le_refl _) _⟩
    · rw [chk_end (fun h => by cases h) (by omega) (by omega) (fun h => absurd h h2)]
      exact rf_Check10_end g B false (fun h => by cases h) (by omega) (by omega) (fun h => absurd h h2) hS w
end Go.Proofs.Ytojcjmjohibpaaa
