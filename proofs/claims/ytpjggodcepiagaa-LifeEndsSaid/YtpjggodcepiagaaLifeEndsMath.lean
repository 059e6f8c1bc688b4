/-
  LifeEnds: what a round asks, as plain functions over a state, an event and who has ended.
-/
import Derived.Test.YtpjggodcepiagaaLfMath
namespace Go.Proofs.Ytpjggodcepiagaa.lifeEnds
set_option linter.unusedSimpArgs false
set_option linter.unusedVariables false

def txB (k : Int) : Bool := k == 0 || k == 1
def mnB (k : Int) : Bool := k == 5 || k == 6
def cnB (r : Lr) : Bool := r.c == 0 && !r.n && !r.d
/-- What the state tells of who has ended. -/
def invB (s : Int) (th ou : Bool) : Bool := (s != 0 || (!th && !ou)) && (s != 1 || (!th && !ou)) && (s != 2 || (th && !ou)) && (s != 3 || (!th && ou))
def thB (k : Int) (b : Bool) (r : Lr) (th : Bool) : Bool := th || (txB k && cnB r && b)
def ouB (k : Int) (b : Bool) (r : Lr) (ou : Bool) : Bool := ou || (mnB k && cnB r && b)
def badA (s k : Int) (r : Lr) (th ou : Bool) : Bool := (ovB s && (r.s != s)) || (txB k && cnB r && (th || ovB s)) || (mnB k && cnB r && (ou || ovB s || s == 0))
def badB (k : Int) (r : Lr) : Bool := (r.c != 0) && !r.n && decide (k ≤ 4) && (r.s != 5)
def badC (r : Lr) (th ou : Bool) : Bool := !ovB r.s && (r.s != 0) && ((tkB r.s == th) || (sdB r.s == ou))
def fineB (s k : Int) (b th ou : Bool) : Bool :=
  !invB s th ou || (!badA s k (stepR s k b) th ou && !badB k (stepR s k b) && !badC (stepR s k b) (thB k b (stepR s k b) th) (ouB k b (stepR s k b) ou) && invB (stepR s k b).s (thB k b (stepR s k b) th) (ouB k b (stepR s k b) ou))

theorem fin_fine : ∀ (s : Fin 6) (k : Fin 8) (b th ou : Bool), fineB (s.val : Int) (k.val : Int) b th ou = true := by decide +kernel

theorem ends_fine {s k : Int} (b : Bool) {th ou : Bool} (hs : 0 ≤ s) (hs5 : s ≤ 5) (hk : 0 ≤ k) (hk7 : k ≤ 7) (hi : invB s th ou = true) :
    badA s k (stepR s k b) th ou = false ∧ badB k (stepR s k b) = false ∧ badC (stepR s k b) (thB k b (stepR s k b) th) (ouB k b (stepR s k b) ou) = false ∧ invB (stepR s k b).s (thB k b (stepR s k b) th) (ouB k b (stepR s k b) ou) = true := by
  have h := fin_fine ⟨s.toNat, by omega⟩ ⟨k.toNat, by omega⟩ b th ou
  simp only [Int.toNat_of_nonneg hs, Int.toNat_of_nonneg hk] at h
  unfold fineB at h
  rw [hi] at h
  simpa [and_assoc] using h

theorem waysA : ∀ (o tx cn mn th ou z ne : Bool), ((o && ne) || (tx && cn && (th || o)) || (mn && cn && (ou || o || z))) = false → (tx && mn) = false →
    (o = false ∨ (o = true ∧ ne = false)) ∧ ((tx = false ∧ mn = false) ∨ (tx = true ∧ mn = false ∧ cn = false) ∨ (tx = true ∧ mn = false ∧ cn = true ∧ o = false ∧ th = false) ∨ (tx = false ∧ mn = true ∧ cn = false) ∨ (tx = false ∧ mn = true ∧ cn = true ∧ o = false ∧ ou = false ∧ z = false)) := by
  intro o tx cn mn th ou z ne
  cases o <;> cases tx <;> cases cn <;> cases mn <;> cases th <;> cases ou <;> cases z <;> cases ne <;> simp
theorem waysB : ∀ (p n j q : Bool), (p && !n && j && q) = false → p = false ∨ (p = true ∧ n = true) ∨ (p = true ∧ n = false ∧ j = false) ∨ (p = true ∧ n = false ∧ j = true ∧ q = false) := by decide +kernel
theorem waysC : ∀ (o z p q : Bool), (!o && z && (p || q)) = false → o = true ∨ (o = false ∧ z = false) ∨ (o = false ∧ z = true ∧ p = false ∧ q = false) := by decide +kernel
theorem tx_mn (k : Int) : (txB k && mnB k) = false := by
  unfold txB mnB
  by_cases h0 : k = 0
  · subst h0; rfl
  by_cases h1 : k = 1
  · subst h1; rfl
  simp [h0, h1]
end Go.Proofs.Ytpjggodcepiagaa.lifeEnds
