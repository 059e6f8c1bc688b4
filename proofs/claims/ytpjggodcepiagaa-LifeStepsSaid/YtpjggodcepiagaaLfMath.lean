/-
  Layer 16: what the calls answer, as plain functions: a state is a number, an event a kind and whether it is its side's last.
-/
namespace Go.Proofs.Ytpjggodcepiagaa
set_option linter.unusedSimpArgs false
set_option linter.unusedVariables false

/-- An answer: the state behind, and the verdict (code, of the connection, dropped). -/
structure Lr where
  s : Int
  c : Int
  n : Bool
  d : Bool
deriving DecidableEq

def tkB (s : Int) : Bool := s == 1 || s == 3
def sdB (s : Int) : Bool := s == 1 || s == 2
def ovB (s : Int) : Bool := s == 4 || s == 5
def lvB (s : Int) : Bool := tkB s || sdB s

def behR (s : Int) (b : Bool) (h : Int) : Int := if b = false then s else if s = 1 then h else 4
def partR (s : Int) (b : Bool) : Lr :=
  if s = 0 then ⟨s, 1, true, false⟩ else if s = 2 then ⟨5, 5, false, false⟩ else if s = 4 then ⟨s, 5, true, false⟩ else if s = 5 then ⟨s, 0, false, true⟩ else ⟨behR s b 2, 0, false, false⟩
def winR (s : Int) : Lr := if s = 0 then ⟨s, 1, true, false⟩ else if ovB s = true then ⟨s, 0, false, true⟩ else ⟨s, 0, false, false⟩
def sndR (s : Int) (b : Bool) : Lr := if sdB s = false then ⟨s, 2, false, false⟩ else ⟨behR s b 3, 0, false, false⟩
def rstR (s : Int) : Lr := if lvB s = false then ⟨s, 2, false, false⟩ else ⟨5, 0, false, false⟩
def stepR (s k : Int) (b : Bool) : Lr :=
  if 5 < s then ⟨s, 2, true, false⟩
  else if k = 0 then (if s = 0 then ⟨behR 1 b 2, 0, false, false⟩ else if tkB s = true ∧ b = false then ⟨5, 1, false, false⟩ else partR s b)
  else if k = 1 then partR s b
  else if k = 2 then (if lvB s = true then ⟨4, 0, false, false⟩ else winR s)
  else if k = 3 then winR s
  else if k = 4 then ⟨s, 0, false, false⟩
  else if k = 5 then sndR s b
  else if k = 6 then sndR s b
  else if k = 7 then rstR s
  else ⟨s, 2, true, false⟩

/-- The document's table. -/
def toL (k : Int) (b : Bool) : List Int :=
  if k = 4 then [0, 1, 2, 3, 4, 5]
  else if k = 0 then (if b then [2, 2, 8, 4, 9, 10] else [1, 7, 8, 7, 9, 10])
  else if k = 1 then (if b then [6, 2, 8, 4, 9, 10] else [6, 1, 8, 3, 9, 10])
  else if k = 2 then [6, 4, 4, 4, 10, 10]
  else if k = 3 then [6, 1, 2, 3, 10, 10]
  else if k = 7 then [11, 5, 5, 5, 11, 11]
  else if b then [11, 3, 4, 11, 11, 11]
  else [11, 1, 2, 11, 11, 11]
def finR (s n : Int) : Lr :=
  if n = 6 then ⟨s, 1, true, false⟩ else if n = 7 then ⟨5, 1, false, false⟩ else if n = 8 then ⟨5, 5, false, false⟩ else if n = 9 then ⟨s, 5, true, false⟩ else if n = 10 then ⟨s, 0, false, true⟩ else if n = 11 then ⟨s, 2, false, false⟩ else ⟨n, 0, false, false⟩

theorem toL_len (k : Int) (b : Bool) : (toL k b).length = 6 := by
  unfold toL
  repeat' split
  all_goals rfl

theorem fin_fin : ∀ (s : Fin 6) (k : Fin 8) (b : Bool), ((toL (k.val : Int) b)[s.val]?.map (finR (s.val : Int))) = some (stepR (s.val : Int) (k.val : Int) b) := by decide +kernel

/-- By the table the answer is the same. -/
theorem step_fin {s k : Int} {b : Bool} (hs : 0 ≤ s) (hs5 : s ≤ 5) (hk : 0 ≤ k) (hk7 : k ≤ 7) : ∃ n, (toL k b)[s.toNat]? = some n ∧ 0 ≤ n ∧ n ≤ 11 ∧ stepR s k b = finR s n := by
  have h := fin_fin ⟨s.toNat, by omega⟩ ⟨k.toNat, by omega⟩ b
  simp only [Int.toNat_of_nonneg hs, Int.toNat_of_nonneg hk] at h
  obtain ⟨n, hn, e⟩ := Option.map_eq_some_iff.1 h
  refine ⟨n, hn, ?_, ?_, e.symm⟩
  · have hm := List.mem_of_getElem? hn
    clear h hn e
    unfold toL at hm
    revert hm
    repeat' split
    all_goals (intro hm; simp only [List.mem_cons, List.not_mem_nil, or_false] at hm; omega)
  · have hm := List.mem_of_getElem? hn
    clear h hn e
    unfold toL at hm
    revert hm
    repeat' split
    all_goals (intro hm; simp only [List.mem_cons, List.not_mem_nil, or_false] at hm; omega)

theorem step_far {s k : Int} {b : Bool} (h : 5 < s ∨ (0 ≤ s ∧ 7 < k)) : stepR s k b = ⟨s, 2, true, false⟩ := by
  unfold stepR
  rcases h with h | ⟨h, h'⟩
  · rw [if_pos h]
  · by_cases h5 : 5 < s
    · rw [if_pos h5]
    · rw [if_neg h5, if_neg (by omega), if_neg (by omega), if_neg (by omega), if_neg (by omega), if_neg (by omega), if_neg (by omega), if_neg (by omega), if_neg (by omega)]

/-- An answer's state is a state; its code one of 0, 1, 2, 5. -/
theorem step_wf {s k : Int} {b : Bool} (hs : 0 ≤ s) (hk : 0 ≤ k) : 0 ≤ (stepR s k b).s ∧ (stepR s k b).s ≤ max s 5 ∧ 0 ≤ (stepR s k b).c ∧ (stepR s k b).c ≤ 5 := by
  by_cases h : 5 < s ∨ 7 < k
  · rw [step_far (by omega)]
    refine ⟨hs, ?_, by show (0:Int) ≤ 2; decide, by show (2:Int) ≤ 5; decide⟩
    show s ≤ max s 5
    omega
  · have h5 : s ≤ 5 := by omega
    obtain ⟨n, hn, h0, h11, e⟩ := step_fin (b := b) hs h5 hk (by omega)
    rw [e]
    unfold finR
    by_cases hn : n ≤ 5
    · repeat' split
      all_goals (refine ⟨?_, ?_, ?_, ?_⟩ <;> (simp only; omega))
    · repeat' split
      all_goals (refine ⟨?_, ?_, ?_, ?_⟩ <;> (simp only; omega))
end Go.Proofs.Ytpjggodcepiagaa
