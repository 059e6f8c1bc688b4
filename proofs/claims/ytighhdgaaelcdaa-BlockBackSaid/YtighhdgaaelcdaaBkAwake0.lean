/-
  Layer 11: words for the laws: On and Parts with their answers written out; what a call of On leaves in two variables.
-/
import Derived.Test.YtighhdgaaelcdaaBkOn
import Derived.Test.YtighhdgaaelcdaaBkParts
import Derived.Test.YtighhdgaaelcdaaStrRow
import Derived.Deep.Cut
import Derived.Deep.CutRange
import Derived.Deep.DeepCutAuto
import Derived.Lib.SlBytesConst
import Derived.Lib.SmallJoins
namespace Go.Proofs.Ytighhdgaaelcdaa
set_option linter.unusedSimpArgs false
set_option linter.unusedVariables false
open Go.RowKit

theorem on_is {s : Int} {d : ByteArray} {e : Bool} {F : Fr} {s1 : Int} {d1 : ByteArray} {e1 : Bool} {s2 : Int} {d2 : ByteArray} {e2 : Bool} {i : Bool} {c : Int}
    (h : onB ⟨s, d, e⟩ F = ⟨⟨s1, d1, e1⟩, ⟨s2, d2, e2⟩, i, c⟩) (f0 : 0 ≤ F.fl) (f1 : F.fl ≤ 255) (hf : (F.data.size : Int) ≤ 5000) (w : World) :
    Calls Try.prog 7 #[.agg #[.int .i64 s, .string d, .bool e], .agg F.cl.toArray] w fun r w' =>
      r = .returned (.tuple #[.agg #[.int .i64 s1, .string d1, .bool e1], .agg #[.int .i64 s2, .string d2, .bool e2], .bool i, .int .u32 c]) ∧ Below w.heap.size w w' := by
  have := bk_On s d e F none 0 0 f0 f1 hf w
  rw [h] at this
  exact this
theorem on_is' {s : Int} {d : ByteArray} {e : Bool} {F : Fr} {s1 : Int} {d1 : ByteArray} {e1 : Bool} {s2 : Int} {d2 : ByteArray} {e2 : Bool} {i : Bool} {c : Int}
    (h : onB ⟨s, d, e⟩ F = ⟨⟨s1, d1, e1⟩, ⟨s2, d2, e2⟩, i, c⟩) (f0 : 0 ≤ F.fl) (f1 : F.fl ≤ 255) (hf : (F.data.size : Int) ≤ 5000) (A : Option Addr) (n m : Nat) (w : World) :
    Calls Try.prog 7 #[.agg #[.int .i64 s, .string d, .bool e], .agg (F.cs A n m)] w fun r w' =>
      r = .returned (.tuple #[.agg #[.int .i64 s1, .string d1, .bool e1], .agg #[.int .i64 s2, .string d2, .bool e2], .bool i, .int .u32 c]) ∧ Below w.heap.size w w' := by
  have := bk_On s d e F A n m f0 f1 hf w
  rw [h] at this
  exact this
/-- What 'x, y, is, c := On(..)' leaves. -/
def On2R (W wx : World) (st wh : Array Value) (i : Bool) (c : Int) (s1 s2 s3 s4 : Value) : Prop :=
  ∃ x y, s1 = .pointer (some ⟨x, 0, none⟩) ∧ s2 = .pointer (some ⟨y, 0, none⟩) ∧ s3 = .bool i ∧ s4 = .int .u32 c ∧ BlkIs wx x 29 st ∧ BlkIs wx y 30 wh ∧ Below W.heap.size W wx ∧ W.heap.size ≤ x ∧ W.heap.size ≤ y
/-- A frame of a row. -/
def RowF (w : World) (g o : Nat) (F : Fr) : Prop := g < w.heap.size ∧ w.rangeAt g o F.cl
theorem RowF.keep {w w' : World} {g o : Nat} {F : Fr} (h : RowF w g o F) (hb : Below w.heap.size w w') : RowF w' g o F := ⟨Nat.lt_of_lt_of_le h.1 hb.size, range_keep h.2 h.1 hb⟩
theorem RowF.alloc {w : World} {g o : Nat} {F : Fr} (h : RowF w g o F) (x : Obj) : RowF (w.alloc x) g o F := h.keep ((Below.refl _ _).alloc (Nat.le_refl _) x)
theorem RowF.cell {w : World} {g o : Nat} {F : Fr} (h : RowF w g o F) (j : Nat) (u : Value) (hu : F.cl[j]? = some u) : w.cell? ⟨g, o + j, none⟩ = some u := h.2 j u hu
theorem QL.lone2 {w : World} {g c : Nat} {F G : Fr} (h : QL w (some ⟨g, 0, none⟩) 2 c [F, G]) : RowF w g 0 F ∧ RowF w g 12 G := by
  obtain ⟨b, e, hlt, hr⟩ := h.at_ 0 F rfl
  obtain ⟨b', e', hlt', hr'⟩ := h.at_ 1 G rfl
  injection e with e
  injection e with e
  injection e' with e'
  injection e' with e'
  subst e e'
  exact ⟨⟨hlt, by simpa using hr⟩, ⟨hlt', by simpa using hr'⟩⟩
theorem rb_mark (w : World) (t : TypeId) (fr : Nat × Nat) (xs : List Int) (n : Nat) (hn : xs.length = n) (hb : AllB xs) : RB (w.alloc (.cells (u8s xs).toArray t fr)) (some ⟨w.heap.size, 0, none⟩) n xs := by
  refine ⟨hn, fun h => ⟨w.heap.size, 0, rfl, by simp, fun i hi => ?_⟩, fun i => hb.getD i⟩
  rw [Nat.zero_add, World.cell?_alloc_mark]
  simp [u8s, List.getD, show i < xs.length by omega]
theorem allb_of {l : List Int} (h : l.all (fun x => decide (0 ≤ x ∧ x ≤ 255)) = true) : AllB l := fun x hx => by simpa using List.all_eq_true.1 h x hx
theorem strB_yes' {n : Int} : strB n = true ↔ (1 ≤ n ∧ n ≤ 2147483647) := by simp [strB]
/-- Parts, all ways. -/
def partsR (s m : Int) (e : Bool) (xs : List Int) : List Fr × Int :=
  if (s < 1 ∨ 2147483647 < s) ∨ (m < 1 ∨ 16384 < m) then ([], 8) else if 4096 < xs.length then ([], 5) else (genC s 1 (if e then 1 else 0) (chunks m.toNat xs.length xs), 0)
theorem bk_Parts (s m : Int) (A : Option Addr) (n cap : Nat) (e : Bool) (xs : List Int) (hnc : n ≤ cap) (hnil : A = none → cap = 0) (w : World) (hr : RB w A n xs) :
    Calls Try.prog 13 #[.int .i64 s, .slice A n cap, .bool e, .int .i64 m] w (GivesParts 34 (partsR s m e xs).1 (partsR s m e xs).1.length (partsR s m e xs).2 w) := by
  have hl := hr.1
  unfold partsR
  split
  · rename_i h
    by_cases hs : strB s = false
    · exact bk_Parts_stream s m A n cap e hs w
    · have hs' : strB s = true := by simpa using hs
      have h1 := strB_yes'.1 hs'
      exact bk_Parts_most s m A n cap e hs' (by omega) w
  · rename_i h
    have hs' : strB s = true := strB_yes'.2 (by omega)
    split
    · rename_i h2
      exact bk_Parts_long s m A n cap e hs' (by omega) (by omega) (by omega) w
    · rename_i h2
      obtain ⟨k, rfl⟩ : ∃ k : Nat, m = (k : Int) := ⟨m.toNat, by omega⟩
      have := bk_Parts_good s k A n cap e xs hs' (by omega) (by omega) (by omega) hnc hnil w hr
      rw [show ((k : Int)).toNat = k by omega, hl]
      simp only [genC_len]
      exact this
end Go.Proofs.Ytighhdgaaelcdaa
