/-
  Layer 22: controllers as plain data: what the calls answer, and their laws. No program here.
-/
import Derived.Test.YtjcibpefbfengaaKit
import Derived.IntWalk
namespace Go.Proofs.Ytjcibpefbfengaa
set_option linter.unusedSimpArgs false
set_option linter.unusedVariables false
open Go.RowKit

/-- A controller: limit, least, most, low, high, quiet, calm. -/
structure Hy where
  l : Int
  a : Int
  b : Int
  lo : Int
  hi : Int
  q : Int
  c : Int
deriving DecidableEq
/-- Its cells. -/
def Hy.cs (x : Hy) : Array Value := #[.int .i64 x.l, .int .i64 x.a, .int .i64 x.b, .int .i64 x.lo, .int .i64 x.hi, .int .i64 x.q, .int .i64 x.c]
theorem Hy.cs_one (x : Hy) : x.cs.all (·.oneCell') = true := by simp [Hy.cs, Value.oneCell']
/-- Does n lie from a to b? -/
def inI (a n b : Int) : Bool := decide (a ≤ n) && decide (n ≤ b)
theorem inI_yes {a n b : Int} : inI a n b = true ↔ a ≤ n ∧ n ≤ b := by simp [inI]
theorem inI_no {a n b : Int} : inI a n b = false ↔ ¬ (a ≤ n ∧ n ≤ b) := by rw [← inI_yes]; simp
/-- It may be. -/
def Hy.Ok (x : Hy) : Prop := 1 ≤ x.a ∧ x.a ≤ x.b ∧ x.b ≤ 16 ∧ x.a ≤ x.l ∧ x.l ≤ x.b ∧ 0 ≤ x.lo ∧ x.lo ≤ x.hi ∧ x.hi ≤ 1099511627776 ∧ 1 ≤ x.q ∧ x.q ≤ 1000 ∧ 0 ≤ x.c ∧ x.c ≤ x.q - 1
instance (x : Hy) : Decidable x.Ok := by unfold Hy.Ok; infer_instance
def okH (x : Hy) : Bool := decide x.Ok
theorem okH_iff {x : Hy} : okH x = true ↔ x.Ok := decide_eq_true_iff
theorem okH_no {x : Hy} : okH x = false ↔ ¬ x.Ok := decide_eq_false_iff_not
def chkH (x : Hy) : Int := if okH x then 0 else 8
theorem chkH_yes {x : Hy} (h : okH x = true) : chkH x = 0 := by rw [chkH, h]; rfl
theorem chkH_no {x : Hy} (h : okH x = false) : chkH x = 8 := by rw [chkH, h]; rfl
theorem chkH_zero {x : Hy} : chkH x = 0 ↔ x.Ok := by
  rw [← okH_iff]; unfold chkH; split <;> simp_all
/-- The zone of what waits. -/
def zonI (x : Hy) (k : Int) : Int := if x.hi < k then 1 else if k < x.lo then -1 else 0
theorem zonI_hi {x : Hy} {k : Int} (h : x.hi < k) : zonI x k = 1 := if_pos h
theorem zonI_lo {x : Hy} {k : Int} (h : ¬ x.hi < k) (h1 : k < x.lo) : zonI x k = -1 := by rw [zonI, if_neg h, if_pos h1]
theorem zonI_mid {x : Hy} {k : Int} (h : ¬ x.hi < k) (h1 : ¬ k < x.lo) : zonI x k = 0 := by rw [zonI, if_neg h, if_neg h1]
/-- One look more below Low. -/
def calH (x : Hy) : Hy := if x.c + 1 = x.q then ⟨min (x.l + 1) x.b, x.a, x.b, x.lo, x.hi, x.q, 0⟩ else ⟨x.l, x.a, x.b, x.lo, x.hi, x.q, x.c + 1⟩
theorem calH_yes {x : Hy} (h : x.c + 1 = x.q) : calH x = ⟨min (x.l + 1) x.b, x.a, x.b, x.lo, x.hi, x.q, 0⟩ := if_pos h
theorem calH_no {x : Hy} (h : ¬ x.c + 1 = x.q) : calH x = ⟨x.l, x.a, x.b, x.lo, x.hi, x.q, x.c + 1⟩ := if_neg h
/-- What a look makes of it. -/
def stpH (x : Hy) (k : Int) : Hy :=
  if okH x = false then x else if x.hi < k then ⟨max (x.l / 2) x.a, x.a, x.b, x.lo, x.hi, x.q, 0⟩ else if k < x.lo then calH x else ⟨x.l, x.a, x.b, x.lo, x.hi, x.q, 0⟩
theorem stpH_bad {x : Hy} {k : Int} (h : okH x = false) : stpH x k = x := if_pos h
theorem stpH_hi {x : Hy} {k : Int} (h : okH x = true) (h1 : x.hi < k) : stpH x k = ⟨max (x.l / 2) x.a, x.a, x.b, x.lo, x.hi, x.q, 0⟩ := by rw [stpH, if_neg (by rw [h]; simp), if_pos h1]
theorem stpH_lo {x : Hy} {k : Int} (h : okH x = true) (h1 : ¬ x.hi < k) (h2 : k < x.lo) : stpH x k = calH x := by rw [stpH, if_neg (by rw [h]; simp), if_neg h1, if_pos h2]
theorem stpH_mid {x : Hy} {k : Int} (h : okH x = true) (h1 : ¬ x.hi < k) (h2 : ¬ k < x.lo) : stpH x k = ⟨x.l, x.a, x.b, x.lo, x.hi, x.q, 0⟩ := by rw [stpH, if_neg (by rw [h]; simp), if_neg h1, if_neg h2]
/-- Did its limit change? -/
def chgB (x : Hy) (k : Int) : Bool := !decide ((stpH x k).l = x.l)
/-- All looks: the controllers behind each, and whether the limit changed. -/
def lksH (x : Hy) : List Int → List (Hy × Bool)
  | [] => []
  | k :: l => (stpH x k, chgB x k) :: lksH (stpH x k) l
/-- The controller behind all looks. -/
def endH (x : Hy) : List Int → Hy
  | [] => x
  | k :: l => endH (stpH x k) l
/-- How often its limit changed. -/
def cntH (x : Hy) : List Int → Int
  | [] => 0
  | k :: l => (if chgB x k then 1 else 0) + cntH (stpH x k) l
theorem endH_snoc (x : Hy) (l : List Int) (k : Int) : endH x (l ++ [k]) = stpH (endH x l) k := by
  induction l generalizing x with
  | nil => rfl
  | cons j l ih => exact ih _
theorem lksH_snoc (x : Hy) (l : List Int) (k : Int) : lksH x (l ++ [k]) = lksH x l ++ [(stpH (endH x l) k, chgB (endH x l) k)] := by
  induction l generalizing x with
  | nil => rfl
  | cons j l ih => rw [List.cons_append, lksH, ih]; rfl
theorem lksH_len (x : Hy) (l : List Int) : (lksH x l).length = l.length := by
  induction l generalizing x with
  | nil => rfl
  | cons j l ih => rw [lksH, List.length_cons, ih, List.length_cons]
theorem cntH_in (x : Hy) (l : List Int) : 0 ≤ cntH x l ∧ cntH x l ≤ l.length := by
  induction l generalizing x with
  | nil => exact ⟨Int.le_refl _, Int.le_refl _⟩
  | cons j l ih =>
    have := ih (stpH x j)
    rw [cntH, List.length_cons]
    split <;> omega
/-- What a caller keeps of what came: the last controller, and how many changed. -/
def lastH (x : Hy) (ys : List (Hy × Bool)) : Hy := ys.foldl (fun _ y => y.1) x
def numH (ys : List (Hy × Bool)) : Int := ys.foldl (fun n y => if y.2 then n + 1 else n) 0
theorem lastH_snoc (x : Hy) (ys : List (Hy × Bool)) (y : Hy × Bool) : lastH x (ys ++ [y]) = y.1 := by rw [lastH, List.foldl_append]; rfl
theorem numH_snoc (ys : List (Hy × Bool)) (y : Hy × Bool) : numH (ys ++ [y]) = if y.2 then numH ys + 1 else numH ys := by rw [numH, List.foldl_append]; rfl
theorem numH_in (ys : List (Hy × Bool)) : 0 ≤ numH ys ∧ numH ys ≤ ys.length := by
  have : ∀ n : Int, n ≤ ys.foldl (fun n y => if y.2 then n + 1 else n) n ∧ ys.foldl (fun n y => if y.2 then n + 1 else n) n ≤ n + ys.length := by
    induction ys with
    | nil => intro n; exact ⟨Int.le_refl _, by simp⟩
    | cons y ys ih =>
      intro n
      have h1 := ih n
      have h2 := ih (n + 1)
      rw [List.foldl_cons, List.length_cons]
      split <;> omega
  have := this 0
  unfold numH
  omega
theorem last_looks (x : Hy) (l : List Int) : lastH x (lksH x l) = endH x l := by
  induction l generalizing x with
  | nil => rfl
  | cons j l ih => exact ih (stpH x j)
theorem num_looks (x : Hy) (l : List Int) : numH (lksH x l) = cntH x l := by
  have : ∀ n : Int, (lksH x l).foldl (fun n y => if y.2 then n + 1 else n) n = n + cntH x l := by
    induction l generalizing x with
    | nil => intro n; simp [lksH, cntH]
    | cons j l ih =>
      intro n
      rw [lksH, List.foldl_cons, ih, cntH]
      cases chgB x j <;> simp <;> omega
  have := this 0
  unfold numH
  omega
/-- What may be still may be. -/
theorem stp_ok {x : Hy} (k : Int) (h : x.Ok) : (stpH x k).Ok := by
  have ho := okH_iff.2 h
  obtain ⟨a1, a2, a3, a4, a5, a6, a7, a8, a9, a10, a11, a12⟩ := h
  by_cases h1 : x.hi < k
  · rw [stpH_hi ho h1]; simp only [Hy.Ok]; omega
  by_cases h2 : k < x.lo
  · rw [stpH_lo ho h1 h2]
    by_cases h3 : x.c + 1 = x.q
    · rw [calH_yes h3]; simp only [Hy.Ok]; omega
    · rw [calH_no h3]; simp only [Hy.Ok]; omega
  · rw [stpH_mid ho h1 h2]; simp only [Hy.Ok]; omega
theorem stp_same (x : Hy) (k : Int) : (stpH x k).a = x.a ∧ (stpH x k).b = x.b ∧ (stpH x k).lo = x.lo ∧ (stpH x k).hi = x.hi ∧ (stpH x k).q = x.q := by
  cases ho : okH x with
  | false => rw [stpH_bad ho]; exact ⟨rfl, rfl, rfl, rfl, rfl⟩
  | true =>
    by_cases h1 : x.hi < k
    · rw [stpH_hi ho h1]; exact ⟨rfl, rfl, rfl, rfl, rfl⟩
    by_cases h2 : k < x.lo
    · rw [stpH_lo ho h1 h2]
      by_cases h3 : x.c + 1 = x.q
      · rw [calH_yes h3]; exact ⟨rfl, rfl, rfl, rfl, rfl⟩
      · rw [calH_no h3]; exact ⟨rfl, rfl, rfl, rfl, rfl⟩
    · rw [stpH_mid ho h1 h2]; exact ⟨rfl, rfl, rfl, rfl, rfl⟩
end Go.Proofs.Ytjcibpefbfengaa
