/-
  Layer 2: the document's enumeration of the codes.
-/
import Derived.Test.YtjnjganmdbkpoaaHfRef1
namespace Go.Proofs.Ytjnjganmdbkpoaa

/-- The state of the enumeration ahead of sign i % 256 at length i / 256 + 1. -/
def stN (i : Nat) (s : Nat × Nat × Bool) : Nat × Nat × Bool :=
  if lensL.getD (i % 256) 0 = i / 256 + 1 then ((if s.2.2 then s.1 else s.1 + 1) * 2 ^ (i / 256 + 1 - s.2.1), i / 256 + 1, false) else s
def stE : Nat → Nat × Nat × Bool
  | 0 => (0, 0, true)
  | i + 1 => stN i (stE i)
def okE (i : Nat) (s : Nat × Nat × Bool) : Bool :=
  Nat.ble s.2.1 (i / 256 + 1) && Nat.blt s.1 1073741824 && (Nat.beq (lensL.getD (i % 256) 0) (i / 256 + 1)).not.or (Nat.beq (stN i s).1 (bitsL.getD (i % 256) 0))
def chkE : Nat → Nat → Nat × Nat × Bool → Bool
  | 0, _, _ => true
  | f + 1, i, s => okE i s && chkE f (i + 1) (stN i s)
theorem chk_all : chkE 7680 0 (0, 0, true) = true := by decide +kernel
theorem chkE_at (f i : Nat) (h : chkE f i (stE i) = true) (j : Nat) (hj : j < f) : okE (i + j) (stE (i + j)) = true := by
  induction f generalizing i j with
  | zero => omega
  | succ f ih =>
    rw [chkE, Bool.and_eq_true] at h
    match j with
    | 0 => exact h.1
    | j + 1 =>
      have := ih (i + 1) h.2 j (by omega)
      rwa [show i + (j + 1) = i + 1 + j by omega]
theorem stE_ok (n x : Nat) (hn : n < 30) (hx : x < 256) :
    (stE (n * 256 + x)).2.1 ≤ n + 1 ∧ (stE (n * 256 + x)).1 < 1073741824 ∧
    (lensL.getD x 0 = n + 1 → stE (n * 256 + (x + 1)) = (bitsL.getD x 0, n + 1, false) ∧ (if (stE (n * 256 + x)).2.2 then (stE (n * 256 + x)).1 else (stE (n * 256 + x)).1 + 1) * 2 ^ (n + 1 - (stE (n * 256 + x)).2.1) = bitsL.getD x 0) ∧
    (lensL.getD x 0 ≠ n + 1 → stE (n * 256 + (x + 1)) = stE (n * 256 + x)) := by
  have h := chkE_at 7680 0 chk_all (n * 256 + x) (by omega)
  rw [Nat.zero_add] at h
  unfold okE at h
  rw [show (n * 256 + x) / 256 = n by omega, show (n * 256 + x) % 256 = x by omega] at h
  simp only [Bool.and_eq_true] at h
  obtain ⟨⟨h1, h2⟩, h3⟩ := h
  have e0 : stE (n * 256 + (x + 1)) = stN (n * 256 + x) (stE (n * 256 + x)) := rfl
  have e1 : stN (n * 256 + x) (stE (n * 256 + x)) = if lensL.getD x 0 = n + 1 then ((if (stE (n * 256 + x)).2.2 then (stE (n * 256 + x)).1 else (stE (n * 256 + x)).1 + 1) * 2 ^ (n + 1 - (stE (n * 256 + x)).2.1), n + 1, false) else stE (n * 256 + x) := by
    rw [stN, show (n * 256 + x) / 256 = n by omega, show (n * 256 + x) % 256 = x by omega]
  refine ⟨by simpa using h1, by have := h2; simp [Nat.blt] at this; omega, fun hl => ?_, fun hl => by rw [e0, e1, if_neg hl]⟩
  rw [e1, if_pos hl] at h3
  have h4 : (if (stE (n * 256 + x)).2.2 then (stE (n * 256 + x)).1 else (stE (n * 256 + x)).1 + 1) * 2 ^ (n + 1 - (stE (n * 256 + x)).2.1) = bitsL.getD x 0 := by
    rw [hl, Nat.beq_refl] at h3
    simpa using h3
  exact ⟨by rw [e0, e1, if_pos hl, h4], h4⟩
end Go.Proofs.Ytjnjganmdbkpoaa
