/-
  Layer 23: what becomes of a request, as plain data: what the calls answer, and their laws. No program here.
-/
import Derived.Test.YtgibhdbhagcpoaaBuWait
namespace Go.Proofs.Ytgibhdbhagcpoaa
set_option linter.unusedSimpArgs false
set_option linter.unusedVariables false
open Go.RowKit

/-- What is looked at: open, told, agreed, away, cost, backlog, cap, tick, second. -/
structure Lk where
  o : Int
  t : Int
  a : Int
  w : Bool
  c : Int
  b : Int
  k : Int
  i : Int
  s : Int
/-- Its cells. -/
def Lk.cs (x : Lk) : Array Value := #[.int .i64 x.o, .int .i64 x.t, .int .i64 x.a, .bool x.w, .int .i64 x.c, .int .i64 x.b, .int .i64 x.k, .int .i64 x.i, .int .i64 x.s]
theorem Lk.cs_one (x : Lk) : x.cs.all (·.oneCell') = true := by simp [Lk.cs, Value.oneCell']
theorem cells9 {w : World} {g : Nat} {t : TypeId} {x : Lk} (h : BlkIs w g t x.cs) : w.cell? ⟨g, 0, none⟩ = some (.int .i64 x.o) ∧ w.cell? ⟨g, 1, none⟩ = some (.int .i64 x.t) ∧ w.cell? ⟨g, 2, none⟩ = some (.int .i64 x.a) ∧ w.cell? ⟨g, 3, none⟩ = some (.bool x.w) ∧ w.cell? ⟨g, 4, none⟩ = some (.int .i64 x.c) ∧ w.cell? ⟨g, 5, none⟩ = some (.int .i64 x.b) ∧ w.cell? ⟨g, 6, none⟩ = some (.int .i64 x.k) ∧ w.cell? ⟨g, 7, none⟩ = some (.int .i64 x.i) ∧ w.cell? ⟨g, 8, none⟩ = some (.int .i64 x.s) :=
  ⟨(h.cell 0).trans rfl, (h.cell 1).trans rfl, (h.cell 2).trans rfl, (h.cell 3).trans rfl, (h.cell 4).trans rfl, (h.cell 5).trans rfl, (h.cell 6).trans rfl, (h.cell 7).trans rfl, (h.cell 8).trans rfl⟩

/-- There is room. -/
def Lk.Fit (x : Lk) : Prop := 1 ≤ x.c ∧ 0 ≤ x.b ∧ x.b ≤ x.k ∧ x.c ≤ x.k - x.b
instance (x : Lk) : Decidable x.Fit := by unfold Lk.Fit; infer_instance
def fitB (x : Lk) : Bool := decide x.Fit
theorem fitB_iff {x : Lk} : fitB x = true ↔ x.Fit := decide_eq_true_iff
theorem fitB_no {x : Lk} : fitB x = false ↔ ¬ x.Fit := decide_eq_false_iff_not
/-- Ticks in seconds of so many. -/
def secI (n s : Int) : Int := if 1 ≤ n then (n - 1) / (max 1 s) + 1 else 1
theorem secI_no {n s : Int} (h : ¬ 1 ≤ n) : secI n s = 1 := if_neg h
theorem secI_yes {n s : Int} (h : 1 ≤ n) : secI n s = (n - 1) / (max 1 s) + 1 := if_pos h
theorem secI_bd (n s : Int) : 1 ≤ secI n s ∧ secI n s ≤ max 1 n := by
  by_cases h : 1 ≤ n
  · rw [secI_yes h]
    have h1 : 0 ≤ (n - 1) / (max 1 s) := Int.ediv_nonneg (by omega) (by omega)
    have h2 : (n - 1) / (max 1 s) ≤ n - 1 := Int.ediv_le_self _ (by omega)
    omega
  · rw [secI_no h]; omega
/-- So many seconds are as many ticks at least, and one less is fewer. -/
theorem secI_up {n s : Int} (h : 1 ≤ n) (hs : 1 ≤ s) : n ≤ secI n s * s ∧ (secI n s - 1) * s ≤ n - 1 ∧ secI n s * s ≤ n + s - 1 := by
  rw [secI_yes h, show max 1 s = s by omega]
  have h2 := Int.emod_add_mul_ediv (n - 1) s
  have h3 := Int.emod_nonneg (n - 1) (show s ≠ 0 by omega)
  have h4 := Int.emod_lt_of_pos (n - 1) (show 0 < s by omega)
  have e : ((n - 1) / s + 1) * s = s * ((n - 1) / s) + s := by rw [Int.add_mul, Int.one_mul, Int.mul_comm]
  have e2 : ((n - 1) / s + 1 - 1) * s = s * ((n - 1) / s) := by rw [Int.add_sub_cancel, Int.mul_comm]
  omega
/-- What Wait tells is not far from nothing. -/
theorem waitB_bd (b : Bu) (t : Int) : -1 ≤ waitB b t ∧ waitB b t ≤ 2000 := by
  cases hok : okB (atB b t) with
  | false => rw [waitB_bad hok]; omega
  | true =>
    by_cases h1 : 0 < hasB (atB b t)
    · rw [waitB_has hok h1]; omega
    · by_cases h2 : (atB b t).r = 0
      · rw [waitB_none hok h1 h2]; omega
      · have ho := okB_iff.1 hok
        have hlt := has_lt ho h1
        obtain ⟨a1, a2, a3, a4, a5, a6, a7, a8, a9, a10⟩ := ho
        obtain ⟨q0, q1⟩ := wait_in a9 hlt a6 (show 1 ≤ (atB b t).r by omega) a4
        by_cases h3 : 1099511627776 < (atB b t).n + ((atB b t).p - (atB b t).l + (atB b t).r - 1) / (atB b t).r
        · rw [waitB_far hok h1 h2 h3]; omega
        · rw [waitB_near hok h1 h2 h3]; omega

/-- A request's fate, the bucket behind it, and how long to wait. -/
def decD (x : Lk) (b : Bu) : Int × Bu × Int :=
  if x.a ≤ x.o then (4, b, 0)
  else if x.t ≤ x.o ∨ x.w = true then (1, b, 0)
  else if fitB x = false then (3, b, 1)
  else if (takB b x.i).2 = false then (2, (takB b x.i).1, secI (waitB b x.i) x.s)
  else (0, (takB b x.i).1, 0)
theorem decD_wrong {x : Lk} {b : Bu} (h : x.a ≤ x.o) : decD x b = (4, b, 0) := if_pos h
theorem decD_refuse {x : Lk} {b : Bu} (h : ¬ x.a ≤ x.o) (h1 : x.t ≤ x.o ∨ x.w = true) : decD x b = (1, b, 0) := by rw [decD, if_neg h, if_pos h1]
theorem decD_busy {x : Lk} {b : Bu} (h : ¬ x.a ≤ x.o) (h1 : ¬ (x.t ≤ x.o ∨ x.w = true)) (h2 : fitB x = false) : decD x b = (3, b, 1) := by rw [decD, if_neg h, if_neg h1, if_pos h2]
theorem decD_many {x : Lk} {b : Bu} (h : ¬ x.a ≤ x.o) (h1 : ¬ (x.t ≤ x.o ∨ x.w = true)) (h2 : fitB x = true) (h3 : (takB b x.i).2 = false) : decD x b = (2, (takB b x.i).1, secI (waitB b x.i) x.s) := by
  rw [decD, if_neg h, if_neg h1, if_neg (by rw [h2]; simp), if_pos h3]
theorem decD_admit {x : Lk} {b : Bu} (h : ¬ x.a ≤ x.o) (h1 : ¬ (x.t ≤ x.o ∨ x.w = true)) (h2 : fitB x = true) (h3 : (takB b x.i).2 = true) : decD x b = (0, (takB b x.i).1, 0) := by
  rw [decD, if_neg h, if_neg h1, if_neg (by rw [h2]; simp), if_neg (by rw [h3]; simp)]
/-- Its status, its code. -/
def staI (n : Int) : Int := if n = 2 then 429 else if n = 3 then 503 else 0
def codI (n : Int) : Int := if n = 1 then 7 else if n = 4 then 1 else 0
end Go.Proofs.Ytgibhdbhagcpoaa
