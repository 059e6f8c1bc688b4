/-
  Layer 11: header blocks out of frames, as plain functions: what Check, On and Parts answer.
-/
import Derived.Test.YtighhdgaaelcdaaFrMem
import Derived.Test.YtighhdgaaelcdaaFhMath
import Derived.Test.YtighhdgaaelcdaaFrStr
namespace Go.Proofs.Ytighhdgaaelcdaa
set_option linter.unusedSimpArgs false
set_option linter.unusedVariables false
open Go.RowKit

/-- A block that is open, or whole. -/
structure Bk where
  s : Int
  d : ByteArray
  e : Bool
def Bk.zero : Bk := ⟨0, ⟨#[]⟩, false⟩
def Bk.cs (b : Bk) : Array Value := #[.int .i64 b.s, .string b.d, .bool b.e]
def Bk.chk (b : Bk) : Int :=
  if b.s < 0 ∨ 2147483647 < b.s then 8 else if b.s = 0 ∧ (b.d.size ≠ 0 ∨ b.e = true) then 4 else if 4096 < b.d.size then 5 else 0
/-- What On answers. -/
structure OnR where
  st : Bk
  wh : Bk
  is : Bool
  c : Int
def Bk.grow (b : Bk) (F : Fr) : Bk := ⟨F.st, b.d ++ F.data, if F.ty = 1 then hasB F.fl 1 else b.e⟩
def onB (b : Bk) (F : Fr) : OnR :=
  if b.chk ≠ 0 ∨ ((F.ty = 1 ∨ F.ty = 9) ∧ (F.st < 1 ∨ 2147483647 < F.st)) then ⟨b, Bk.zero, false, 0⟩
  else if b.s ≠ 0 ∧ (F.ty ≠ 9 ∨ F.st ≠ b.s) then ⟨b, Bk.zero, false, 1⟩
  else if b.s = 0 ∧ F.ty = 9 then ⟨b, Bk.zero, false, 1⟩
  else if ¬ (F.ty = 1 ∨ F.ty = 9) then ⟨b, Bk.zero, false, 0⟩
  else if 4096 < b.d.size + F.data.size then ⟨b, Bk.zero, false, 11⟩
  else if hasB F.fl 4 = true then ⟨Bk.zero, b.grow F, true, 0⟩
  else ⟨b.grow F, Bk.zero, false, 0⟩

theorem ba_list (a b : ByteArray) : a.toList = b.toList ↔ a = b := by
  have := str_eq a b
  by_cases h : a = b
  · simp [h]
  · simp only [h, iff_false]
    intro e
    rw [e] at this
    simp [h] at this
def sameB (s : Int) (d : ByteArray) (e : Bool) (s' : Int) (d' : ByteArray) (e' : Bool) : Bool := decide (s = s') && decide (d = d') && decide (e = e')
theorem has_four_fin : ∀ a : Fin 256, (bits .and .u8 (a.val : Int) 4 != 0) = hasB (a.val : Int) 4 := by decide +kernel
theorem has_one_fin : ∀ a : Fin 256, (bits .and .u8 (a.val : Int) 1 != 0) = hasB (a.val : Int) 1 := by decide +kernel
theorem has_four {f : Int} (h0 : 0 ≤ f) (h1 : f ≤ 255) : (bits .and .u8 f 4 != 0) = hasB f 4 := by
  have := has_four_fin ⟨f.toNat, by omega⟩
  rwa [show ((f.toNat : Nat) : Int) = f by omega] at this
theorem has_one {f : Int} (h0 : 0 ≤ f) (h1 : f ≤ 255) : (bits .and .u8 f 1 != 0) = hasB f 1 := by
  have := has_one_fin ⟨f.toNat, by omega⟩
  rwa [show ((f.toNat : Nat) : Int) = f by omega] at this

/-- Bytes cut into pieces of m; k: enough rounds. -/
def chunks (m : Nat) : Nat → List Int → List (List Int)
  | 0, xs => [xs]
  | k + 1, xs => if m < xs.length then xs.take m :: chunks m k (xs.drop m) else [xs]
theorem chunks_ne (m k : Nat) (xs : List Int) : chunks m k xs ≠ [] := by
  cases k with
  | zero => simp [chunks]
  | succ k => rw [chunks]; split <;> simp
theorem chunks_more {m k : Nat} {xs : List Int} (h : m < xs.length) (hk : xs.length ≤ k) : ∃ k', k = k' + 1 ∧ chunks m k xs = xs.take m :: chunks m k' (xs.drop m) := by
  cases k with
  | zero => omega
  | succ k => exact ⟨k, rfl, by rw [chunks, if_pos h]⟩
theorem chunks_last {m k : Nat} {xs : List Int} (h : ¬ m < xs.length) : chunks m k xs = [xs] := by
  cases k with
  | zero => rfl
  | succ k => rw [chunks, if_neg h]
theorem chunks_all {m : Nat} (k : Nat) : ∀ {xs : List Int}, AllB xs → ∀ p ∈ chunks m k xs, AllB p ∧ p.length ≤ xs.length := by
  induction k with
  | zero => intro xs hx p hp; simp [chunks] at hp; subst hp; exact ⟨hx, Nat.le_refl _⟩
  | succ k ih =>
    intro xs hx p hp
    rw [chunks] at hp
    split at hp
    · simp only [List.mem_cons] at hp
      rcases hp with rfl | hp
      · exact ⟨fun x h => hx x (List.mem_of_mem_take h), by rw [List.length_take]; omega⟩
      · have := ih (xs := xs.drop m) (fun x h => hx x (List.mem_of_mem_drop h)) p hp
        exact ⟨this.1, by have := this.2; rw [List.length_drop] at this; omega⟩
    · simp at hp; subst hp; exact ⟨hx, Nat.le_refl _⟩
theorem chunks_most {m : Nat} (hm : 1 ≤ m) (k : Nat) : ∀ {xs : List Int}, xs.length ≤ k → ∀ p ∈ chunks m k xs, p.length ≤ m := by
  induction k with
  | zero => intro xs hx p hp; simp [chunks] at hp; subst hp; omega
  | succ k ih =>
    intro xs hx p hp
    rw [chunks] at hp
    split at hp
    · simp only [List.mem_cons] at hp
      rcases hp with rfl | hp
      · rw [List.length_take]; omega
      · exact ih (xs := xs.drop m) (by rw [List.length_drop]; omega) p hp
    · simp at hp; subst hp; omega
theorem chunks_len {m : Nat} (hm : 1 ≤ m) (k : Nat) : ∀ {xs : List Int}, xs.length ≤ k → (chunks m k xs).length ≤ xs.length + 1 := by
  induction k with
  | zero => intro xs hx; simp [chunks]
  | succ k ih =>
    intro xs hx
    rw [chunks]
    split
    · have := ih (xs := xs.drop m) (by rw [List.length_drop]; omega)
      rw [List.length_drop] at this
      simp only [List.length_cons]
      omega
    · simp
theorem chunks_join {m : Nat} (k : Nat) : ∀ (xs : List Int), (chunks m k xs).flatten = xs := by
  induction k with
  | zero => intro xs; simp [chunks]
  | succ k ih =>
    intro xs
    rw [chunks]
    split
    · simp only [List.flatten_cons, ih]; exact List.take_append_drop m xs
    · simp

/-- A frame of a part. -/
def mkF (s ty fl : Int) (p : List Int) : Fr := ⟨ty, fl, s, strOfNums p, 0, 0, false, 0, 0, 0, 0⟩
/-- The frames of pieces: the first one of type ty with the flags fl, the last one with the flag 4. -/
def genC (s ty fl : Int) : List (List Int) → List Fr
  | [] => []
  | [p] => [mkF s ty (fl + 4) p]
  | p :: q :: l => mkF s ty fl p :: genC s 9 0 (q :: l)
theorem genC_len (s : Int) : ∀ (l : List (List Int)) (ty fl : Int), (genC s ty fl l).length = l.length
  | [], _, _ => rfl
  | [_], _, _ => rfl
  | _ :: q :: l, _, _ => by simp only [genC, List.length_cons, genC_len s (q :: l)]
theorem genC_more {s ty fl : Int} {p : List Int} {l : List (List Int)} (h : l ≠ []) : genC s ty fl (p :: l) = mkF s ty fl p :: genC s 9 0 l := by
  cases l with
  | nil => exact absurd rfl h
  | cons q l => rfl
/-- The last frame's flags, with 4. -/
def endF (l : List Fr) (f : Int) : List Fr := l.set (l.length - 1) { (l.getD (l.length - 1) Fr.zero) with fl := f }
theorem endF_cons (F : Fr) (l : List Fr) (h : l ≠ []) (f : Int) : endF (F :: l) f = F :: endF l f := by
  obtain ⟨n, hn⟩ : ∃ n, l.length = n + 1 := ⟨l.length - 1, by have := List.length_pos_iff.2 h; omega⟩
  simp [endF, hn]
theorem endF_map (s : Int) : ∀ (l : List (List Int)), l ≠ [] → endF (l.map (mkF s 9 0)) 4 = genC s 9 0 l
  | [], h => absurd rfl h
  | [p], _ => rfl
  | p :: q :: l, _ => by
    rw [List.map_cons, endF_cons _ _ (by simp), endF_map s (q :: l) (by simp)]
    rfl
/-- What Parts answers. -/
def partsF (s : Int) (e : Bool) (m : Nat) (xs : List Int) : List Fr := genC s 1 (if e then 1 else 0) (chunks m xs.length xs)
/-- What the program builds: all of type 9, and then the first and the last one changed. -/
theorem built_one (s : Int) (p : List Int) (f : Int) : endF [mkF s 1 f p] (f + 4) = genC s 1 f [p] := rfl
theorem built_more (s : Int) (p : List Int) (l : List (List Int)) (h : l ≠ []) (f : Int) : endF (mkF s 1 f p :: l.map (mkF s 9 0)) 4 = genC s 1 f (p :: l) := by
  rw [endF_cons _ _ (by simpa using h), endF_map s l h, genC_more h]
end Go.Proofs.Ytighhdgaaelcdaa
