/-
  Layer 2: the tree is planted: plain functions, and memory.
-/
import Derived.Test.YtjnjganmdbkpoaaHfMath
namespace Go.Proofs.Ytjnjganmdbkpoaa
open Go.RowKit

def setBit (t : List (Int × Int)) (p b : Nat) (v : Int) : List (Int × Int) := t.set p (if b = 0 then (v, (t.getD p (0, 0)).2) else ((t.getD p (0, 0)).1, v))
/-- One bit on the way: to the next node, which may be a new one. -/
def stepP (b p n : Nat) (t : List (Int × Int)) : Option (Nat × Nat × List (Int × Int)) :=
  let q := bitGet (t.getD p (0, 0)) b
  if q = 0 then (if n < 256 ∧ t.getD n (0, 0) = (0, 0) then some (n, n + 1, setBit t p b (n : Int)) else none)
  else if 0 < q ∧ q < (n : Int) then some (q.toNat, n, t) else none
def runP (x : Nat) : Nat → Nat → Nat → List (Int × Int) → Option (Nat × Nat × List (Int × Int))
  | 0, p, n, t => some (p, n, t)
  | k + 1, p, n, t => (stepP (x / 2 ^ (k + 1) % 2) p n t).bind fun r => runP x k r.1 r.2.1 r.2.2
def plantF (sign x l n : Nat) (t : List (Int × Int)) : Option (Nat × List (Int × Int)) :=
  (runP x (l - 1) 0 n t).map fun r => (r.2.1, setBit r.2.2 r.1 (x % 2) (-(sign : Int) - 1))
def buildP : Nat → Nat → Nat → List (Int × Int) → Option (Nat × List (Int × Int))
  | 0, _, n, t => some (n, t)
  | f + 1, c, n, t => (plantF c (bitsL.getD c 0) (lensL.getD c 0) n t).bind fun r => buildP f (c + 1) r.1 r.2

theorem setBit_len (t : List (Int × Int)) (p b : Nat) (v : Int) : (setBit t p b v).length = t.length := by simp [setBit]
theorem stepP_some {b p n : Nat} {t : List (Int × Int)} {r : Nat × Nat × List (Int × Int)} (h : stepP b p n t = some r) (ht : t.length = 256) (hn : n ≤ 256) :
    r.2.2.length = 256 ∧ r.2.1 ≤ 256 ∧ r.1 < r.2.1 ∧ n ≤ r.2.1 := by
  unfold stepP at h
  simp only [] at h
  split at h
  · split at h
    · rename_i h1
      cases h
      exact ⟨by rw [setBit_len]; exact ht, by simp; omega, by simp, by simp⟩
    · cases h
  · split at h
    · rename_i h1
      cases h
      exact ⟨ht, hn, by show (bitGet (t.getD p (0, 0)) b).toNat < n; omega, Nat.le_refl _⟩
    · cases h

/-- The tree's cells. -/
def treeA (t : List (Int × Int)) : Array Value := Array.ofFn (n := 512) fun i => .int .i16 (bitGet (t.getD (i.val / 2) (0, 0)) (i.val % 2))
theorem treeA_size (t : List (Int × Int)) : (treeA t).size = 512 := by simp [treeA]
theorem treeA_get (t : List (Int × Int)) (i : Nat) (h : i < 512) : (treeA t)[i]? = some (.int .i16 (bitGet (t.getD (i / 2) (0, 0)) (i % 2))) := by
  simp [treeA, Array.getElem?_ofFn, h]
theorem treeA_at (t : List (Int × Int)) (p b : Nat) (hp : p < 256) (hb : b < 2) : (treeA t)[p * 2 + b]? = some (.int .i16 (bitGet (t.getD p (0, 0)) b)) := by
  rw [treeA_get _ _ (by omega), show (p * 2 + b) / 2 = p by omega, show (p * 2 + b) % 2 = b by omega]
theorem bitGet_set (t : List (Int × Int)) (p b q c : Nat) (v : Int) (hp : p < t.length) (hb : b < 2) (hc : c < 2) :
    bitGet ((setBit t p b v).getD q (0, 0)) c = if p = q ∧ b = c then v else bitGet (t.getD q (0, 0)) c := by
  by_cases h : p = q
  · subst h
    have e : (setBit t p b v).getD p (0, 0) = if b = 0 then (v, (t.getD p (0, 0)).2) else ((t.getD p (0, 0)).1, v) := by
      simp [setBit, List.getD, hp]
    rw [e]
    match b, hb, c, hc with
    | 0, _, 0, _ => simp [bitGet]
    | 0, _, 1, _ => simp [bitGet]
    | 1, _, 0, _ => simp [bitGet]
    | 1, _, 1, _ => simp [bitGet]
  · have e : (setBit t p b v).getD q (0, 0) = t.getD q (0, 0) := by simp [setBit, List.getD, h]
    rw [e, if_neg (fun hh => h hh.1)]
theorem treeA_set (t : List (Int × Int)) (p b : Nat) (v : Int) (ht : t.length = 256) (hp : p < 256) (hb : b < 2) :
    (treeA t).setIfInBounds (p * 2 + b) (.int .i16 v) = treeA (setBit t p b v) := by
  apply Array.ext_getElem?
  intro i
  rw [Array.getElem?_setIfInBounds, treeA_size]
  by_cases hi : i < 512
  · rw [treeA_get _ _ hi, treeA_get _ _ hi, bitGet_set t p b (i / 2) (i % 2) v (by omega) hb (by omega)]
    by_cases h : p * 2 + b = i
    · rw [if_pos h, if_pos (by omega), if_pos (by omega)]
    · rw [if_neg h, if_neg (by omega)]
  · rw [Array.getElem?_eq_none (by rw [treeA_size]; omega), Array.getElem?_eq_none (by rw [treeA_size]; omega)]
    split <;> simp_all
theorem two_mid (l : List Value) (n : Nat) (x y : Value) (hx : l[n]? = some x) (hy : l[n + 1]? = some y) : l.take n ++ [x, y] ++ l.drop (n + 2) = l := by
  obtain ⟨h1, rfl⟩ := List.getElem?_eq_some_iff.1 hx
  obtain ⟨h2, rfl⟩ := List.getElem?_eq_some_iff.1 hy
  rw [List.append_assoc]
  have e1 : l.drop n = l[n] :: l.drop (n + 1) := List.drop_eq_getElem_cons h1
  have e2 : l.drop (n + 1) = l[n + 1] :: l.drop (n + 2) := List.drop_eq_getElem_cons h2
  have := List.take_append_drop n l
  rw [e1, e2] at this
  exact this
theorem treeA_room (t : List (Int × Int)) (n : Nat) (hn : n < 256) (h0 : t.getD n (0, 0) = (0, 0)) :
    ((treeA t).toList.take (n * 2) ++ [Value.int .i16 0, Value.int .i16 0] ++ (treeA t).toList.drop (n * 2 + 2)).toArray = treeA t := by
  have e1 := treeA_at t n 0 hn (by omega)
  have e2 := treeA_at t n 1 hn (by omega)
  rw [h0] at e1 e2
  rw [two_mid _ (n * 2) (.int .i16 0) (.int .i16 0) (by simpa [bitGet] using e1) (by simpa [bitGet] using e2)]

/-- A coder in memory. -/
def coderA (d m b : Int) (T : Value) : Array Value := #[.int .u32 d, .int .i32 m, .int .u32 0, .int .i64 b, T]
theorem hf_zero_coder : (Try.prog.info? 68).bind (·.zero) = some (.agg (coderA 0 0 0 (.slice none 0 0))) := by kernel_rfl
theorem hf_zero_node : (Try.prog.info? 72).map (fun i => (i.zero, i.size, i.bytes)) = some (some (.agg #[.int .i16 0, .int .i16 0]), 2, 4) := by kernel_rfl
end Go.Proofs.Ytjnjganmdbkpoaa
