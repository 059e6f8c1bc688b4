/-
  Layer 12: settings' values as plain data: what may be, what settings make of values, what is between two of them.
-/
import Derived.Test.YtlcnenkfineddaaPrMem
namespace Go.Proofs.Ytlcnenkfineddaa
set_option linter.unusedSimpArgs false
set_option linter.unusedVariables false
open Go.RowKit

/-- Values. -/
structure Vs where
  t : Int
  p : Int
  s : Int
  w : Int
  f : Int
  l : Int
deriving DecidableEq
/-- Their cells: as a struct, and by their numbers. -/
def Vs.cs (v : Vs) : Array Value := #[.int .i64 v.t, .int .i64 v.p, .int .i64 v.s, .int .i64 v.w, .int .i64 v.f, .int .i64 v.l]
def Vs.arr (v : Vs) : Array Value := #[.int .i64 0, .int .i64 v.t, .int .i64 v.p, .int .i64 v.s, .int .i64 v.w, .int .i64 v.f, .int .i64 v.l]
def Vs.zero : Vs := ⟨0, 0, 0, 0, 0, 0⟩
def Vs.first : Vs := ⟨4096, 1, 4294967295, 65535, 16384, 4294967295⟩
/-- The value of a number; what stands at one. -/
def Vs.at (v : Vs) (k : Nat) : Int := match k with
  | 1 => v.t | 2 => v.p | 3 => v.s | 4 => v.w | 5 => v.f | 6 => v.l | _ => 0
theorem Vs.arr_at (v : Vs) (k : Nat) (hk : k ≤ 6) : v.arr[k]? = some (.int .i64 (v.at k)) := by
  have h : k = 0 ∨ k = 1 ∨ k = 2 ∨ k = 3 ∨ k = 4 ∨ k = 5 ∨ k = 6 := by omega
  rcases h with rfl | rfl | rfl | rfl | rfl | rfl | rfl <;> rfl
theorem Vs.cs_at (v : Vs) (k : Nat) (hk : k ≤ 5) : v.cs[k]? = some (.int .i64 (v.at (k + 1))) := by
  have h : k = 0 ∨ k = 1 ∨ k = 2 ∨ k = 3 ∨ k = 4 ∨ k = 5 := by omega
  rcases h with rfl | rfl | rfl | rfl | rfl | rfl <;> rfl
theorem Vs.arr_one (v : Vs) : v.arr.all (·.oneCell') = true := by simp [Vs.arr, Value.oneCell']
theorem Vs.cs_one (v : Vs) : v.cs.all (·.oneCell') = true := by simp [Vs.cs, Value.oneCell']
theorem Vs.cs_inj {v w : Vs} (h : v.cs = w.cs) : v = w := by
  obtain ⟨a, b, c, d, e, f⟩ := v
  obtain ⟨a', b', c', d', e', f'⟩ := w
  simp only [Vs.cs, Array.mk.injEq, List.cons.injEq, Value.int.injEq, true_and, and_true] at h
  obtain ⟨rfl, rfl, rfl, rfl, rfl, rfl⟩ := h
  rfl

/-- What may be. -/
def okB (v : Vs) : Bool :=
  decide (0 ≤ v.t ∧ v.t ≤ 4294967295 ∧ 0 ≤ v.p ∧ v.p ≤ 1 ∧ 0 ≤ v.s ∧ v.s ≤ 4294967295 ∧ 0 ≤ v.w ∧ v.w ≤ 2147483647 ∧ 16384 ≤ v.f ∧ v.f ≤ 16777215 ∧ 0 ≤ v.l ∧ v.l ≤ 4294967295)
def chkV (v : Vs) : Int := if okB v then 0 else 8
theorem okB_iff (v : Vs) : okB v = true ↔ (0 ≤ v.t ∧ v.t ≤ 4294967295 ∧ 0 ≤ v.p ∧ v.p ≤ 1 ∧ 0 ≤ v.s ∧ v.s ≤ 4294967295 ∧ 0 ≤ v.w ∧ v.w ≤ 2147483647 ∧ 16384 ≤ v.f ∧ v.f ≤ 16777215 ∧ 0 ≤ v.l ∧ v.l ≤ 4294967295) := by simp [okB]
theorem chkV_yes {v : Vs} (h : okB v = true) : chkV v = 0 := by simp [chkV, h]
theorem chkV_no {v : Vs} (h : okB v = false) : chkV v = 8 := by simp [chkV, h]
theorem ok_first : okB Vs.first = true := by decide
theorem ok_at {v : Vs} (h : okB v = true) (k : Nat) : 0 ≤ v.at k ∧ v.at k ≤ 4294967295 := by
  have := (okB_iff v).1 h
  unfold Vs.at
  split <;> omega

/-- What one setting makes; its fault. -/
def Vs.set (v : Vs) (p : Pr) : Vs :=
  if p.i = 1 then { v with t := p.v } else if p.i = 2 then { v with p := p.v } else if p.i = 3 then { v with s := p.v } else if p.i = 4 then { v with w := p.v } else if p.i = 5 then { v with f := p.v } else if p.i = 6 then { v with l := p.v } else v
def fltC (p : Pr) : Int := if p.i = 2 ∧ 1 < p.v then 1 else if p.i = 4 ∧ 2147483647 < p.v then 3 else if p.i = 5 ∧ (p.v < 16384 ∨ 16777215 < p.v) then 1 else 0
def isN (i : Int) : Bool := decide (1 ≤ i) && decide (i ≤ 6)
theorem isN_yes {i : Int} : isN i = true ↔ (1 ≤ i ∧ i ≤ 6) := by simp [isN]
theorem isN_no {i : Int} : isN i = false ↔ (i < 1 ∨ 6 < i) := by simp [isN]; omega
theorem set_arr (v : Vs) (k : Nat) (x : Int) (h1 : 1 ≤ k) (h6 : k ≤ 6) : v.arr.setIfInBounds k (.int .i64 x) = (v.set ⟨(k : Int), x⟩).arr := by
  have h : k = 1 ∨ k = 2 ∨ k = 3 ∨ k = 4 ∨ k = 5 ∨ k = 6 := by omega
  rcases h with rfl | rfl | rfl | rfl | rfl | rfl <;> rfl
theorem set_other {v : Vs} {p : Pr} (h : isN p.i = false) : v.set p = v := by
  have := isN_no.1 h
  unfold Vs.set
  rw [if_neg (by omega), if_neg (by omega), if_neg (by omega), if_neg (by omega), if_neg (by omega), if_neg (by omega)]
theorem flt_other {p : Pr} (h : isN p.i = false) : fltC p = 0 := by
  have := isN_no.1 h
  unfold fltC
  rw [if_neg (by omega), if_neg (by omega), if_neg (by omega)]
theorem set_at (v : Vs) (k : Nat) (h1 : 1 ≤ k) (h6 : k ≤ 6) (x : Int) (j : Nat) : (v.set ⟨(k : Int), x⟩).at j = if j = k then x else v.at j := by
  have h : k = 1 ∨ k = 2 ∨ k = 3 ∨ k = 4 ∨ k = 5 ∨ k = 6 := by omega
  rcases h with rfl | rfl | rfl | rfl | rfl | rfl <;> (simp [Vs.set, Vs.at]; split <;> simp_all)
theorem set_ok {v : Vs} {p : Pr} (hv : okB v = true) (hp : p.ok) (h : isN p.i = true) : okB (v.set p) = decide (fltC p = 0) := by
  obtain ⟨i, x⟩ := p
  obtain ⟨h1, h6⟩ := isN_yes.1 h
  obtain ⟨_, _, x0, x1⟩ := hp
  have hv' := (okB_iff v).1 hv
  simp only at h1 h6 x0 x1
  have hi : i = 1 ∨ i = 2 ∨ i = 3 ∨ i = 4 ∨ i = 5 ∨ i = 6 := by omega
  rw [Bool.eq_iff_iff, okB_iff, decide_eq_true_iff]
  rcases hi with rfl | rfl | rfl | rfl | rfl | rfl <;> simp [Vs.set, fltC] <;> omega
theorem flt_code {p : Pr} (h : ¬ fltC p = 0) : fltC p = if p.i = 4 then 3 else 1 := by
  unfold fltC at h ⊢
  split
  · rw [if_neg (by omega)]
  · split
    · rw [if_pos (by omega)]
    · split
      · rw [if_neg (by omega)]
      · simp_all
theorem flt_ne {p : Pr} (h : ¬ fltC p = 0) : fltC p = 1 ∨ fltC p = 3 := by
  rw [flt_code h]; split <;> simp
theorem flt_3 (p : Pr) : 0 ≤ fltC p ∧ fltC p ≤ 3 := by
  unfold fltC; split <;> (try split) <;> (try split) <;> omega

/-- What settings make, one by one, up to a fault. -/
def runS : Vs → List Pr → Vs × Int
  | v, [] => (v, 0)
  | v, p :: l => if fltC p = 0 then runS (v.set p) l else (v, fltC p)
/-- What Apply answers. -/
def applyS (v : Vs) (l : List Pr) : Vs × Int := if okB v = true then (if (runS v l).2 = 0 then runS v l else (v, (runS v l).2)) else (v, 0)
theorem run_nil (v : Vs) : runS v [] = (v, 0) := rfl
theorem run_app (a : List Pr) : ∀ (v x : Vs) (b : List Pr), runS v a = (x, 0) → runS v (a ++ b) = runS x b := by
  induction a with
  | nil => intro v x b h; simp only [runS, Prod.mk.injEq, and_true] at h; rw [h]; rfl
  | cons p a ih =>
    intro v x b h
    rw [runS] at h
    rw [List.cons_append, runS]
    split at h
    · rw [if_pos ‹_›]; exact ih _ _ _ h
    · injection h with _ h; exact absurd h ‹_›
theorem run_snoc {v x : Vs} {a : List Pr} {p : Pr} (h : runS v a = (x, 0)) (hp : fltC p = 0) : runS v (a ++ [p]) = (x.set p, 0) := by
  rw [run_app _ _ _ _ h, runS, if_pos hp]; rfl
theorem run_fault {v x : Vs} {a b : List Pr} {p : Pr} (h : runS v a = (x, 0)) (hp : ¬ fltC p = 0) : runS v (a ++ p :: b) = (x, fltC p) := by
  rw [run_app _ _ _ _ h, runS, if_neg hp]
theorem ok_set {v : Vs} {p : Pr} (hv : okB v = true) (hp : p.ok) (h : fltC p = 0) : okB (v.set p) = true := by
  cases hn : isN p.i with
  | false => rw [set_other hn]; exact hv
  | true => rw [set_ok hv hp hn, decide_eq_true h]
theorem run_ok (l : List Pr) : ∀ v, okB v = true → AllP l → okB (runS v l).1 = true := by
  induction l with
  | nil => intro v hv _; exact hv
  | cons p l ih =>
    intro v hv hl
    rw [runS]
    split
    · exact ih _ (ok_set hv (hl p (List.mem_cons_self ..)) ‹_›) (fun q hq => hl q (List.mem_cons_of_mem _ hq))
    · exact hv
theorem apply_bad {v : Vs} (l : List Pr) (h : okB v = false) : applyS v l = (v, 0) := by rw [applyS, if_neg (by simp [h])]
theorem apply_all {v x : Vs} {l : List Pr} (h : okB v = true) (hr : runS v l = (x, 0)) : applyS v l = (x, 0) := by rw [applyS, if_pos h, hr, if_pos rfl]
theorem apply_fault {v x : Vs} {a b : List Pr} {p : Pr} (h : okB v = true) (hr : runS v a = (x, 0)) (hp : ¬ fltC p = 0) : applyS v (a ++ p :: b) = (v, fltC p) := by
  rw [applyS, if_pos h, run_fault hr hp, if_neg hp]
theorem apply_ok {v : Vs} {l : List Pr} (h : okB v = true) (hl : AllP l) : okB (applyS v l).1 = true := by
  rw [applyS, if_pos h]
  split
  · exact run_ok l v h hl
  · exact h
theorem run_code (l : List Pr) : ∀ v, 0 ≤ (runS v l).2 ∧ (runS v l).2 ≤ 4294967295 := by
  induction l with
  | nil => intro v; simp [runS]
  | cons p l ih =>
    intro v
    rw [runS]
    split
    · exact ih _
    · have := flt_3 p
      simp only
      omega
theorem apply_code (v : Vs) (l : List Pr) : 0 ≤ (applyS v l).2 ∧ (applyS v l).2 ≤ 4294967295 := by
  have := run_code l v
  unfold applyS
  split
  · split <;> simp_all
  · simp
theorem apply_one {v : Vs} {p : Pr} (h : okB v = true) : applyS v [p] = if fltC p = 0 then (v.set p, 0) else (v, fltC p) := by
  by_cases hp : fltC p = 0
  · rw [if_pos hp]; exact apply_all h (run_snoc (a := []) (run_nil v) hp)
  · rw [if_neg hp]; exact apply_fault (a := []) (b := []) h (run_nil v) hp
theorem take_pr {l : List Pr} {i : Nat} {p : Pr} (h : l[i]? = some p) : l = l.take i ++ p :: l.drop (i + 1) ∧ l.take (i + 1) = l.take i ++ [p] := by
  obtain ⟨hi, rfl⟩ := List.getElem?_eq_some_iff.1 h
  refine ⟨?_, ?_⟩
  · rw [← List.drop_eq_getElem_cons hi, List.take_append_drop]
  · rw [List.take_add_one, h]; rfl

/-- The second values' first numbers (below k), and the first values' others. -/
def mixV (v w : Vs) (k : Nat) : Vs := ⟨if 1 < k then w.t else v.t, if 2 < k then w.p else v.p, if 3 < k then w.s else v.s, if 4 < k then w.w else v.w, if 5 < k then w.f else v.f, if 6 < k then w.l else v.l⟩
theorem mix_one (v w : Vs) : mixV v w 1 = v := rfl
theorem mix_all (v w : Vs) : mixV v w 7 = w := rfl
theorem mix_at (v w : Vs) (k : Nat) : (mixV v w k).at k = v.at k := by
  unfold Vs.at mixV
  split <;> simp
theorem mix_set (v w : Vs) (k : Nat) (h1 : 1 ≤ k) (h6 : k ≤ 6) : (mixV v w k).set ⟨(k : Int), w.at k⟩ = mixV v w (k + 1) := by
  have h : k = 1 ∨ k = 2 ∨ k = 3 ∨ k = 4 ∨ k = 5 ∨ k = 6 := by omega
  rcases h with rfl | rfl | rfl | rfl | rfl | rfl <;> simp [Vs.set, Vs.at, mixV]
theorem mix_same (v w : Vs) (k : Nat) (h1 : 1 ≤ k) (h6 : k ≤ 6) (h : v.at k = w.at k) : mixV v w (k + 1) = mixV v w k := by
  have hk : k = 1 ∨ k = 2 ∨ k = 3 ∨ k = 4 ∨ k = 5 ∨ k = 6 := by omega
  rcases hk with rfl | rfl | rfl | rfl | rfl | rfl <;> (simp only [Vs.at] at h; simp [mixV, h])
theorem ok_mix {v w : Vs} (hv : okB v = true) (hw : okB w = true) (k : Nat) : okB (mixV v w k) = true := by
  have a := (okB_iff v).1 hv
  have b := (okB_iff w).1 hw
  rw [okB_iff]
  unfold mixV
  simp only
  refine ⟨?_, ?_, ?_, ?_, ?_, ?_, ?_, ?_, ?_, ?_, ?_, ?_⟩ <;> split <;> omega
/-- What is between two values, up to number k. -/
def dif (v w : Vs) : Nat → List Pr
  | 0 => []
  | k + 1 => dif v w k ++ (if v.at (k + 1) = w.at (k + 1) then [] else [⟨(k + 1 : Nat), w.at (k + 1)⟩])
theorem dif_same {v w : Vs} {k : Nat} (h : v.at (k + 1) = w.at (k + 1)) : dif v w (k + 1) = dif v w k := by rw [dif, if_pos h, List.append_nil]
theorem dif_more {v w : Vs} {k : Nat} (h : ¬ v.at (k + 1) = w.at (k + 1)) : dif v w (k + 1) = dif v w k ++ [⟨((k + 1 : Nat) : Int), w.at (k + 1)⟩] := by rw [dif, if_neg h]
theorem dif_len (v w : Vs) (k : Nat) : (dif v w k).length ≤ k := by
  induction k with
  | zero => exact Nat.le_refl _
  | succ k ih =>
    rw [dif]
    split
    · simpa using Nat.le_succ_of_le ih
    · simpa using ih
theorem dif_self (v : Vs) (k : Nat) : dif v v k = [] := by
  induction k with
  | zero => rfl
  | succ k ih => rw [dif_same rfl, ih]
theorem mix_eq_at {v w : Vs} {k : Nat} (h1 : 1 ≤ k) (h : mixV v w k = w) (j : Nat) (hj : k ≤ j) (h6 : j ≤ 6) : v.at j = w.at j := by
  obtain ⟨a, b, c, d, e, f⟩ := v
  obtain ⟨a', b', c', d', e', f'⟩ := w
  simp only [mixV, Vs.mk.injEq] at h
  obtain ⟨h1', h2, h3, h4, h5, h6'⟩ := h
  have hk : j = 1 ∨ j = 2 ∨ j = 3 ∨ j = 4 ∨ j = 5 ∨ j = 6 := by omega
  rcases hk with rfl | rfl | rfl | rfl | rfl | rfl <;> simp only [Vs.at]
  · rwa [if_neg (by omega)] at h1'
  · rwa [if_neg (by omega)] at h2
  · rwa [if_neg (by omega)] at h3
  · rwa [if_neg (by omega)] at h4
  · rwa [if_neg (by omega)] at h5
  · rwa [if_neg (by omega)] at h6'
theorem dif_end {v w : Vs} {k : Nat} (h1 : 1 ≤ k) (h : mixV v w k = w) (d : Nat) (hd : k - 1 + d ≤ 6) : dif v w (k - 1 + d) = dif v w (k - 1) := by
  induction d with
  | zero => rfl
  | succ d ih =>
    rw [← Nat.add_assoc, dif_same (mix_eq_at h1 h (k - 1 + d + 1) (by omega) (by omega)), ih (by omega)]
theorem dif_all {v w : Vs} {k : Nat} (h1 : 1 ≤ k) (h7 : k ≤ 7) (h : mixV v w k = w) : dif v w (k - 1) = dif v w 6 := by
  have := dif_end h1 h (6 - (k - 1)) (by omega)
  rw [show k - 1 + (6 - (k - 1)) = 6 by omega] at this
  exact this.symm
/-- What Pairs answers. -/
def pairsS (v w : Vs) : List Pr := if okB v = true ∧ okB w = true then dif v w 6 else []
theorem pairs_len (v w : Vs) : (pairsS v w).length ≤ 6 := by
  unfold pairsS
  split
  · exact dif_len v w 6
  · simp
theorem pairs_self (v : Vs) : pairsS v v = [] := by
  unfold pairsS
  split
  · exact dif_self v 6
  · rfl
theorem flt_of_ok {w : Vs} (hw : okB w = true) (k : Nat) (h1 : 1 ≤ k) (h6 : k ≤ 6) : fltC ⟨(k : Int), w.at k⟩ = 0 := by
  have a := (okB_iff w).1 hw
  have hk : k = 1 ∨ k = 2 ∨ k = 3 ∨ k = 4 ∨ k = 5 ∨ k = 6 := by omega
  rcases hk with rfl | rfl | rfl | rfl | rfl | rfl <;> simp [fltC, Vs.at] <;> omega
theorem run_dif {v w : Vs} (hw : okB w = true) (k : Nat) (h6 : k ≤ 6) : runS v (dif v w k) = (mixV v w (k + 1), 0) := by
  induction k with
  | zero => rfl
  | succ k ih =>
    by_cases h : v.at (k + 1) = w.at (k + 1)
    · rw [dif_same h, ih (by omega), mix_same v w (k + 1) (by omega) (by omega) h]
    · rw [dif_more h, run_snoc (ih (by omega)) (flt_of_ok hw (k + 1) (by omega) (by omega)), mix_set v w (k + 1) (by omega) (by omega)]
/-- What is between two values, applied to the first ones, makes the second ones. -/
theorem apply_pairs {v w : Vs} (hv : okB v = true) (hw : okB w = true) : applyS v (pairsS v w) = (w, 0) := by
  rw [pairsS, if_pos ⟨hv, hw⟩]
  exact apply_all hv (run_dif hw 6 (by omega))
/-- What this server sets first. -/
def ownN (n : Int) : Int := min (max n 0) 16
def ownS (n : Int) : List Pr := [⟨3, ownN n⟩, ⟨6, 1024⟩]
theorem ownN_bd (n : Int) : 0 ≤ ownN n ∧ ownN n ≤ 16 := by unfold ownN; omega
/-- A setting that is not known, ahead of each of a list. -/
def weave (p : Pr) : List Pr → List Pr
  | [] => []
  | a :: l => p :: a :: weave p l
theorem weave_snoc (p a : Pr) (l : List Pr) : weave p (l ++ [a]) = weave p l ++ [p, a] := by
  induction l with
  | nil => rfl
  | cons b l ih => rw [List.cons_append, weave, ih, weave]; rfl
theorem weave_len (p : Pr) (l : List Pr) : (weave p l).length = 2 * l.length := by
  induction l with
  | nil => rfl
  | cons b l ih => rw [weave, List.length_cons, List.length_cons, ih, List.length_cons]; omega
theorem run_weave {p : Pr} (h : isN p.i = false) (l : List Pr) : ∀ v, runS v (weave p l ++ [p]) = runS v l := by
  induction l with
  | nil => intro v; show runS v [p] = (v, 0); rw [runS, if_pos (flt_other h), set_other h]; rfl
  | cons a l ih =>
    intro v
    rw [weave, List.cons_append, runS, if_pos (flt_other h), set_other h, List.cons_append, runS, runS]
    split
    · exact ih _
    · rfl
theorem apply_weave {p : Pr} (h : isN p.i = false) (v : Vs) (l : List Pr) : applyS v (weave p l ++ [p]) = applyS v l := by
  unfold applyS
  rw [run_weave h]
end Go.Proofs.Ytlcnenkfineddaa
