/-
  Small words that every walk of this seat uses.
-/
import Derived.WalkKit
import Derived.WalkSpells
import Derived.WalkLawsBesides
import Derived.ProofKit
import Derived.OpenShut
namespace Go.Proofs.Ytlondjmklnehhaa
set_option linter.unusedSimpArgs false
set_option linter.unusedVariables false
open Go.RowKit
theorem ret_num {k : IntKind} {a b : Int} (h : a = b) : Ending.returned (.int k a) = .returned (.int k b) := by rw [h]
theorem ret_num2 {k q : IntKind} {a b c d : Int} (h : a = b) (h' : c = d) : Ending.returned (.tuple #[.int k a, .int q c]) = .returned (.tuple #[.int k b, .int q d]) := by rw [h, h']
theorem hide {p : Prop} (h : p) : Hid p := h

/-- An array of integers by value that came in. -/
theorem open_arr_int {H : Type} {enc : TypeId × Value → H} {P : Program} {W : World} {base : Nat} {sp : Nat → Bool} {held : Bool} {t e : TypeId} {n : Nat} {q : IntKind}
    (ht : P.underlying t = some (.array n e)) (he : P.underlying e = some (.int q)) (h1 : P.cellsOf e = 1) (hn : P.cellsOf t = n) {r : Reach} {b0 : Nat} {v : Value} {d : DataW H} {ps : List MemPlace}
    (hv : Value.okWide P W r b0 t v) (hd : DataW.Trod enc P W base sp held t v d ps) :
    ∃ l : List Int, v = .agg (l.map (Value.int q)).toArray ∧ l.length = n ∧ ∀ a ∈ l, (Lit.int q a).wf = true := by
  simp only [Value.okWide, ht] at hv
  obtain ⟨cs, rfl, hs, _⟩ := hv
  obtain ⟨fuel, hf⟩ := hd
  obtain ⟨ys, m, _, _, _, hl, hg⟩ := DataW.trod_array ht hf
  have key : ∀ (i : Nat) (hi : i < cs.size), ∃ a, cs[i] = .int q a ∧ (Lit.int q a).wf = true := by
    intro i hi
    have hgi := hg i (by omega)
    rw [h1, Nat.mul_one, List.getElem?_eq_getElem (show i < ys.length by omega)] at hgi
    have e0 : ((Value.cells (.agg cs)).toList.drop i).take 1 = [cs[i]] := by
      simp only [Value.cells]
      rw [List.drop_eq_getElem_cons (by simpa using hi)]
      simp
    rw [e0] at hgi
    obtain ⟨a, ea, _, wa⟩ := DataW.trod_int he hgi
    exact ⟨a, by simpa using ea, wa⟩
  refine ⟨cs.toList.map intOf, ?_, by simp; omega, ?_⟩
  · congr 1
    apply Array.ext
    · simp
    · intro i hi _
      obtain ⟨a, ea, _⟩ := key i hi
      simp [ea, intOf]
  · intro a ha
    obtain ⟨v, hv, rfl⟩ := List.mem_map.1 ha
    obtain ⟨i, hi, rfl⟩ := List.getElem_of_mem hv
    obtain ⟨a, ea, wa⟩ := key i (by simpa using hi)
    have : cs.toList[i] = .int q a := by simpa using ea
    rw [this]; exact wa
end Go.Proofs.Ytlondjmklnehhaa
