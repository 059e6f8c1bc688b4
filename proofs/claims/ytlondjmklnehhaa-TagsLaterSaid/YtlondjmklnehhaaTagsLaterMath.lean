/-
  TagsLater: what its walk needs of the numbers. No program here.
-/
import Derived.Test.YtlondjmklnehhaaTgFair
import Derived.Test.YtlondjmklnehhaaTagsFairMath
namespace Go.Proofs.Ytlondjmklnehhaa
set_option linter.unusedSimpArgs false
set_option linter.unusedVariables false
open Go.RowKit

/-- What stands of the tags (x), of those that began later by d (y), and of the first one alone (z), of n flows; Q is the greatest cost. -/
structure LatF (d Q : Int) (ws C : List Int) (n : Nat) (x y z : List Tg) (who same alone : List Int) : Prop where
  who : same = who
  alone : ∀ i, i < C.length → alone[i]? = some 0
  work : ∀ i, i < n → (gtT y i).k = (gtT x i).k ∧ (gtT y i).s = (gtT x i).s + d
  st : ∀ i, i < n → 0 ≤ (gtT x i).s ∧ (gtT x i).s ≤ 3778648473600 ∧ 0 ≤ (gtT x i).k ∧ (gtT x i).k ≤ 5242880
  heavy : ∀ i k, i < n → k < n → (gtT x k).w ≤ (gtT x i).w → (gtT x k).k ≤ (gtT x i).k + Q
  sum : (gtT z 0).k = C.sum
theorem late_all {d : Int} {ws C : List Int} (hd : 0 ≤ d) (hd2 : d ≤ 4294967295) (hw : ∀ x ∈ ws, WtI x) (h0 : 0 < ws.length) (hC : ∀ x ∈ C, 1 ≤ x ∧ x ≤ 65536) (hN : C.length ≤ 60) :
    LatF d (mxQ C) ws C ws.length (runT (newL 0 ws) C).1 (runT (newL d ws) C).1 (runT ((newL 0 ws).take 1) C).1 (runT (newL 0 ws) C).2 (runT (newL d ws) C).2 (runT ((newL 0 ws).take 1) C).2 := by
  have hQ0 := mxQ_low C
  have hQ := mxQ_le (l := C) (B := 65536) (by omega) (fun x hx => (hC x hx).2)
  have hm : ∀ x ∈ C, 1 ≤ x ∧ x ≤ mxQ C := fun x hx => ⟨(hC x hx).1, mxQ_mem hx⟩
  generalize mxQ C = Q at *
  have e0 := evn_new (d := 0) (Q := Q) hw (by omega) hQ0
  have ed := evn_new (d := d) (Q := Q) hw hd hQ0
  have hl : (newL 0 ws).length = ws.length := newL_len 0 ws
  have hld : (newL d ws).length = ws.length := newL_len d ws
  obtain ⟨e1, -⟩ := evn_run (d := 0) (by omega) (by omega) hQ C 0 _ e0 (by rw [hl]; exact h0) hm (by omega)
  obtain ⟨s1, s2⟩ := shf_run hd (by omega) hQ C 0 _ _ e0 ed (shf_new d ws) (by rw [hl]; exact h0) hm (by omega)
  have hl1 : (runT (newL 0 ws) C).1.length = ws.length := by rw [(run_len _ _).1, hl]
  obtain ⟨w0, ws', rfl⟩ : ∃ w0 ws', ws = w0 :: ws' := by
    cases ws with
    | nil => simp at h0
    | cons a b => exact ⟨a, b, rfl⟩
  have et : (newL 0 (w0 :: ws')).take 1 = newL 0 [w0] := rfl
  have ez := evn_new (d := 0) (Q := Q) (ws := [w0]) (fun x hx => hw x (by simp at hx; simp [hx])) (by omega) hQ0
  obtain ⟨z1, z2⟩ := one_run hQ C 0 _ ez (by simp [newL]) hm (by omega)
  rw [et]
  have hz := (run_len C (newL 0 [w0])).2
  refine ⟨s2, fun i hi => ?_, fun i hi => ?_, fun i hi => ?_, fun i k hi hk hwk => e1.heavy hQ0 (by omega) (by omega) hwk, ?_⟩
  · have h1 : i < (runT (newL 0 [w0]) C).2.length := by rw [hz]; exact hi
    rw [List.getElem?_eq_getElem h1, z1 _ (List.getElem_mem h1)]
  · obtain ⟨_, a, b⟩ := s1.at_ i (by omega)
    exact ⟨a, b⟩
  · have a := e1.start (i := i) (by omega)
    have b := e1.low i (by omega)
    omega
  · rw [z2]
    have : (gtT (newL 0 [w0]) 0).k = 0 := rfl
    omega
end Go.Proofs.Ytlondjmklnehhaa
