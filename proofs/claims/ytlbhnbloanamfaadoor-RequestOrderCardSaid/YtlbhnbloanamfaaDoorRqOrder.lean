/-
  Layer 17: the order of the fields that stand ahead is nothing to Read.
-/
import Derived.Test.YtlbhnbloanamfaaDoorRqBack
namespace Go.Proofs.YtlbhnbloanamfaaDoor
set_option linter.unusedSimpArgs false
set_option linter.unusedVariables false
open Go.RowKit

theorem vals_perm {a b : List Fd} (h : a.Perm b) (nm : ByteArray) : (vals nm a).Perm (vals nm b) := (h.filter _).map _
theorem perm_small {a b : List ByteArray} (h : a.Perm b) (h1 : a.length ≤ 1) : a = b := by
  match a, b, h, h1 with
  | [], b, h, _ => exact h.nil_eq
  | [x], b, h, _ => exact List.perm_singleton.1 h.symm |>.symm
theorem ok_perm {a b : List Fd} (h : a.Perm b) (tl : List Fd) (e : Bool) (n : Int) : okB a tl e n = okB b tl e n ∧ (okB a tl e n = true → mkQ a tl n = mkQ b tl n) := by
  have hM := (vals_perm h nM).length_eq
  have hS := (vals_perm h nS).length_eq
  have hP := (vals_perm h nP).length_eq
  have hA := (vals_perm h nA).length_eq
  have hh : headB a = headB b := by unfold headB; rw [hM, hS, hP, hA, h.length_eq]
  have hq : headB a = true → mkQ a tl n = mkQ b tl n := by
    intro q
    unfold headB at q
    simp only [Bool.and_eq_true, decide_eq_true_eq] at q
    obtain ⟨q1, q2, q3, q4, -⟩ := q
    have e1 := perm_small (vals_perm h nM) (by omega)
    have e2 := perm_small (vals_perm h nS) (by omega)
    have e3 := perm_small (vals_perm h nP) (by omega)
    have e4 := perm_small (vals_perm h nA) q4
    unfold mkQ hostV fst'
    rw [e1, e2, e3, e4]
  have hk : okB a tl e n = okB b tl e n := by
    unfold okB
    rw [← hh]
    cases hb : headB a with
    | false => rw [Bool.false_and, Bool.false_and]
    | true => rw [hq hb]
  refine ⟨hk, fun q => hq ?_⟩
  unfold okB at q
  simp only [Bool.and_eq_true] at q
  exact q.2.1
theorem read_perm {l R : List Fd} (h : R.Perm (hdL l)) (e : Bool) : readR (R ++ tlL l) e = readR l e := by
  have hps : ∀ f ∈ R, psF f = true := fun f hf => by
    have hm := h.mem_iff.1 hf
    unfold hdL at hm
    exact List.all_eq_true.1 (List.all_takeWhile (p := psF) (l := l)) f hm
  have hnt : ∀ f, (tlL l).head? = some f → psF f = false := fun f hf => by
    unfold tlL at hf
    have := List.head?_dropWhile_not psF l
    rw [hf] at this
    simpa using this
  obtain ⟨e1, e2⟩ := tw_split hps hnt
  unfold readR
  rw [e1, e2]
  cases lenR (tlL l) with
  | none => rfl
  | some n =>
    simp only
    have hk := ok_perm h (tlL l) e n
    rw [hk.1]
    by_cases q : okB (hdL l) (tlL l) e n = true
    · rw [if_pos q, if_pos q, hk.2 (by rw [hk.1]; exact q)]
    · rw [if_neg q, if_neg q]

/-! ## A list turned -/
def rotL (hd : List Fd) (t : Nat) : List Fd := hd.drop (t % hd.length) ++ hd.take (t % hd.length)
theorem rot_perm (hd : List Fd) (t : Nat) : (rotL hd t).Perm hd := by
  unfold rotL
  have h := List.perm_append_comm (l₁ := hd.drop (t % hd.length)) (l₂ := hd.take (t % hd.length))
  rw [List.take_append_drop] at h
  exact h
theorem rot_get {hd : List Fd} {t i : Nat} (hi : i < hd.length) : (rotL hd t)[i]? = hd[(i + t) % hd.length]? := by
  have hs : t % hd.length < hd.length := Nat.mod_lt _ (by omega)
  have hmod : (i + t) % hd.length = (i + t % hd.length) % hd.length := by rw [Nat.add_mod, Nat.mod_eq_of_lt hi]
  unfold rotL
  rw [hmod]
  generalize t % hd.length = s at hs
  by_cases h : i < hd.length - s
  · rw [List.getElem?_append_left (by rw [List.length_drop]; exact h), List.getElem?_drop, Nat.mod_eq_of_lt (by omega), Nat.add_comm]
  · rw [List.getElem?_append_right (by rw [List.length_drop]; omega), List.length_drop, List.getElem?_take, if_pos (by omega)]
    congr 1
    rw [Nat.mod_eq_sub_mod (by omega), Nat.mod_eq_of_lt (by omega)]
    omega
theorem rot_len (hd : List Fd) (t : Nat) : (rotL hd t).length = hd.length := (rot_perm hd t).length_eq
end Go.Proofs.YtlbhnbloanamfaaDoor
