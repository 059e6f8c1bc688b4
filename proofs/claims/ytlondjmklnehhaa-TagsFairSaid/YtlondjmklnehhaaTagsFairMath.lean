/-
  TagsFair: what its walk needs of the numbers. No program here.
-/
import Derived.Test.YtlondjmklnehhaaTgFair
namespace Go.Proofs.Ytlondjmklnehhaa
set_option linter.unusedSimpArgs false
set_option linter.unusedVariables false
open Go.RowKit

/-- The greatest one, 0 of none. -/
def mxQ (l : List Int) : Int := l.foldl max 0
theorem mxQ_snoc (l : List Int) (x : Int) : mxQ (l ++ [x]) = max (mxQ l) x := by simp [mxQ, List.foldl_append]
theorem mxQ_go : ∀ (l : List Int) (a : Int), a ≤ l.foldl max a ∧ (∀ x ∈ l, x ≤ l.foldl max a) ∧ ∀ B, a ≤ B → (∀ x ∈ l, x ≤ B) → l.foldl max a ≤ B
  | [], a => ⟨Int.le_refl _, (fun x h => by cases h), fun B h _ => h⟩
  | y :: l, a => by
    obtain ⟨h1, h2, h3⟩ := mxQ_go l (max a y)
    simp only [List.foldl_cons]
    refine ⟨by omega, fun x hx => ?_, fun B hB hall => h3 B (by have := hall y (by simp); omega) (fun x hx => hall x (by simp [hx]))⟩
    simp only [List.mem_cons] at hx
    rcases hx with rfl | hx
    · omega
    · exact h2 x hx
theorem mxQ_low (l : List Int) : 0 ≤ mxQ l := (mxQ_go l 0).1
theorem mxQ_mem {l : List Int} {x : Int} (h : x ∈ l) : x ≤ mxQ l := (mxQ_go l 0).2.1 x h
theorem mxQ_le {l : List Int} {B : Int} (h0 : 0 ≤ B) (h : ∀ x ∈ l, x ≤ B) : mxQ l ≤ B := (mxQ_go l 0).2.2 B h0 h
theorem mxQ_take {l : List Int} {i : Nat} {x : Int} (h : l[i]? = some x) : mxQ (l.take (i + 1)) = max (mxQ (l.take i)) x := by
  rw [List.take_add_one, h]; exact mxQ_snoc _ _

/-- What stands of the tags then (l1) and now (l2), of n flows and a quantum. -/
structure FairF (l1 l2 : List Tg) (n : Nat) (Q : Int) : Prop where
  near : ∀ i j, i < n → j < n → nearB (gtT l2 i) (gtT l2 j) (gtT l1 i).k (gtT l1 j).k Q = true
  cok : ∀ i, i < n → chgI Q (gtT l2 i).w = (chg Q (gtT l2 i).w, 0)
  st : ∀ i, i < n → 0 ≤ (gtT l2 i).s ∧ (gtT l2 i).s ≤ 3778648473600
  ap : ∀ i j, i < n → j < n → (gtT l2 i).s - (gtT l2 j).s ≤ max (chg Q (gtT l2 i).w) (chg Q (gtT l2 j).w) ∧ (gtT l2 j).s - (gtT l2 i).s ≤ max (chg Q (gtT l2 i).w) (chg Q (gtT l2 j).w)
theorem fair_all {ws C : List Int} (hw : ∀ x ∈ ws, WtI x) (h0 : 0 < ws.length) (hC : ∀ x ∈ C, 1 ≤ x ∧ x ≤ 65536) (hN : C.length ≤ 80) (S : Nat) :
    FairF (runT (newL 0 ws) (C.take S)).1 (runT (newL 0 ws) C).1 ws.length (mxQ C) := by
  have hQ0 := mxQ_low C
  have hQ := mxQ_le (l := C) (B := 65536) (by omega) (fun x hx => (hC x hx).2)
  have hm : ∀ x ∈ C, 1 ≤ x ∧ x ≤ mxQ C := fun x hx => ⟨(hC x hx).1, mxQ_mem hx⟩
  generalize mxQ C = Q at *
  have e0 := evn_new (d := 0) (Q := Q) hw (by omega) hQ0
  have hl : (newL 0 ws).length = ws.length := newL_len 0 ws
  have t1 : (C.take S).length ≤ C.length := by rw [List.length_take]; omega
  have t2 : (C.take S).length + (C.drop S).length = C.length := by rw [← List.length_append, List.take_append_drop]
  obtain ⟨e1, -⟩ := evn_run (d := 0) (by omega) (by omega) hQ (C.take S) 0 _ e0 (by rw [hl]; exact h0) (fun x hx => hm x (List.mem_of_mem_take hx)) (by omega)
  have hl1 : (runT (newL 0 ws) (C.take S)).1.length = ws.length := by rw [(run_len _ _).1, hl]
  obtain ⟨e2, m2⟩ := evn_run (d := 0) (by omega) (by omega) hQ (C.drop S) _ _ e1 (by rw [hl1]; exact h0) (fun x hx => hm x (List.mem_of_mem_drop hx)) (by omega)
  have er : (runT (newL 0 ws) C).1 = (runT (runT (newL 0 ws) (C.take S)).1 (C.drop S)).1 := by
    have := run_app (C.take S) (C.drop S) (newL 0 ws)
    rw [List.take_append_drop] at this
    rw [this]
  rw [← er] at e2 m2
  have hl2 : (runT (newL 0 ws) C).1.length = ws.length := by rw [(run_len _ _).1, hl]
  generalize (runT (newL 0 ws) C).1 = l2 at *
  generalize (runT (newL 0 ws) (C.take S)).1 = l1 at *
  refine ⟨fun i j hi hj => nearB_yes (evn_near e1 e2 (by omega) (by omega) (by omega) (by omega) hQ0 hQ (fun i _ => m2 i) (by omega) (by omega)), fun i hi => chgI_yes ⟨hQ0, by omega⟩ (e2.wt i (by omega)), fun i hi => ?_, fun i j hi hj => e2.apart (by omega) (by omega)⟩
  have := e2.start (i := i) (by omega)
  omega
end Go.Proofs.Ytlondjmklnehhaa
