/-
  Layer 9: the fields of a payload (fill): what it leaves.
-/
import Derived.Test.YtefdhbljcnpggaaFrPairs
import Derived.Test.YtefdhbljcnpggaaFrLength
import Derived.Deep.RegionHeld3
import Derived.Deep.DeepCutAuto
namespace Go.Proofs.Ytefdhbljcnpggaa
open Go.RowKit

def fillD (d : Bool) (F : Fr) (xs : List Int) : Fr := if d then { F with dep := numL (xs.take 4) % 2147483648, sole := decide (2147483648 ≤ numL (xs.take 4)), wt := xs.getD 4 0 } else F
def fillL (b : Bool) (F : Fr) (xs : List Int) : Fr := if b then { F with last := numL (xs.take 4) % 2147483648 } else F
def fillC (b : Bool) (F : Fr) (xs : List Int) : Fr := if b then { F with code := numL (xs.take 4) } else F
def fillI (b : Bool) (F : Fr) (xs : List Int) : Fr := if b then { F with inc := numL (xs.take 4) % 2147483648 } else F
def fillX (b : Bool) (F : Fr) (xs : List Int) : Fr := if b then { F with data := strOfNums xs } else F
def cutB (b : Bool) (k : Nat) (xs : List Int) : List Int := if b then xs.drop k else xs

/-- What stands between fill's statements. -/
structure FillS (g : Nat) (sh : Array Value) (w w' : World) (s2 : Value) (F : Fr) (xs : List Int) : Prop where
  str : ∃ t, s2 = .string t ∧ bts t = xs
  fr : BlkIs w' g 28 (F.cs none 0 0)
  sh : BlkIs w' (g + 1) 62 sh
  res : BlkIs w' (g + 2) 28 (Fr.zero.cs none 0 0)
  bel : Below g w w'
section
variable {g : Nat} {sh : Array Value} {w w' w'' : World} {s2 s3 : Value} {F F' : Fr} {xs xs' : List Int}
theorem FillS.keep (h : FillS g sh w w' s2 F xs) (hb : Below w'.heap.size w' w'') : FillS g sh w w'' s2 F xs :=
  ⟨h.str, h.fr.keep hb, h.sh.keep hb, h.res.keep hb, h.bel.trans (hb.mono (Nat.le_of_lt h.fr.lt))⟩
theorem FillS.drew (h : FillS g sh w w' s2 F xs) : FillS g sh w w'.drew s2 F xs := ⟨h.str, h.fr, h.sh, h.res, h.bel.drew⟩
theorem FillS.store (h : FillS g sh w w' s2 F xs) (i : Nat) (u : Value) (he : (F.cs none 0 0).setIfInBounds i u = F'.cs none 0 0) : FillS g sh w (w'.setCell ⟨g, i, none⟩ u) s2 F' xs :=
  ⟨h.str, by have := h.fr.put i u; rwa [he] at this, h.sh.far (p := ⟨g, i, none⟩) (by simp) u, h.res.far (p := ⟨g, i, none⟩) (by simp) u, h.bel.setCell (p := ⟨g, i, none⟩) (Nat.le_refl _) u⟩
theorem FillS.move (h : FillS g sh w w' s2 F xs) (t : ByteArray) (he : s3 = .string t) (ht : bts t = xs') : FillS g sh w w' s3 F xs' := ⟨⟨t, he, ht⟩, h.fr, h.sh, h.res, h.bel⟩
theorem FillS.eq (h : FillS g sh w w' s2 F xs) (hF : F = F') (hx : xs = xs') : FillS g sh w w' s2 F' xs' := hF ▸ hx ▸ h
end
theorem fill_start (w : World) (F : Fr) (sh : Array Value) (s : ByteArray) :
    FillS w.heap.size sh w (((w.alloc (.cells (F.cs none 0 0) 28)).alloc (.cells sh 62)).alloc (.cells (Fr.zero.cs none 0 0) 28)) (.string s) F (bts s) := by
  refine ⟨⟨s, rfl, rfl⟩, ((BlkIs.new w _ _).alloc _).alloc _, blk_mid, ?_, below_three⟩
  have := BlkIs.new ((w.alloc (.cells (F.cs none 0 0) 28)).alloc (.cells sh 62)) 28 (Fr.zero.cs none 0 0)
  simpa using this
/-- What fill leaves. -/
def GivesFr (F : Fr) (l : List Pr) (w : World) (e : Ending) (w' : World) : Prop := ∃ A c, e = .returned (.agg (F.cs A l.length c)) ∧ PL w' A l.length c l ∧ Below w.heap.size w w'
theorem results_fr1 {fn : Func} {p : Tmp} (tmps : Array Value) (w : World) (h : fn.results = #[.cell p 28]) (g : Nat) (F : Fr) (A : Option Addr) (n c : Nat) (hp : tmps.getD p undef = .pointer (some ⟨g, 0, none⟩)) (hg : BlkIs w g 28 (F.cs A n c)) :
    (results fn tmps).run Try.prog w = .ok (.agg (F.cs A n c)) w := results_cell_blk h tmps w g _ _ _ hp hg Try.underlying28 rfl fr_sz
/-- All that fill reads. -/
def fillF (d l c i x : Bool) (F : Fr) (xs : List Int) : Fr :=
  let x1 := cutB d 5 xs; let x2 := cutB l 4 x1; let x3 := cutB c 4 x2; let x4 := cutB i 4 x3
  fillX x (fillI i (fillC c (fillL l (fillD d F xs) x1) x2) x3) x4
def restF (d l c i : Bool) (xs : List Int) : List Int := cutB i 4 (cutB c 4 (cutB l 4 (cutB d 5 xs)))
def prsR (r : Bool) (xs : List Int) (m : Nat) : List Pr := if r then prsL xs m else []
theorem cutB_len (b : Bool) (k : Nat) (xs : List Int) : (cutB b k xs).length = xs.length - (if b then k else 0) := by cases b <;> simp [cutB]
theorem fr_no16 (F : Fr) : ∀ (i : Nat) (x : Int), (F.cs none 0 0)[i]? ≠ some (Value.int .u16 x) := by
  intro i x
  match i with
  | 0 | 1 | 2 | 3 | 4 | 5 | 6 | 7 | 8 | 9 | 10 | 11 => simp [Fr.cs]
  | k + 12 => simp [Fr.cs]
theorem fr_no16' (F : Fr) (A : Option Addr) (n c : Nat) : ∀ (i : Nat) (x : Int), (F.cs A n c)[i]? ≠ some (Value.int .u16 x) := by
  intro i x
  match i with
  | 0 | 1 | 2 | 3 | 4 | 5 | 6 | 7 | 8 | 9 | 10 | 11 => simp [Fr.cs]
  | k + 12 => simp [Fr.cs]
theorem PL.farRow {w : World} {A : Option Addr} {n c g : Nat} {l : List Pr} {t : TypeId} {cs : Array Value} (h : PL w A n c l) (hk : BlkIs w g t cs) (hne : ∀ (i : Nat) (x : Int), cs[i]? ≠ some (Value.int .u16 x)) (cs' : Array Value) : PL (w.setRow g cs') A n c l :=
  ⟨h.len, h.le, h.max, h.nil_, fun k f hf => by
    obtain ⟨b, off, rfl, hlt, c0, c1⟩ := h.at_ k f hf
    have hb : b ≠ g := h.apart hk hne b off rfl (by have := (List.getElem?_eq_some_iff.1 hf).1; rw [h.len] at this; omega)
    have hkb : KB (· = g) w (w.setRow g cs') := (KB.refl (· = g) w).setRow (fun _ => rfl) cs'
    exact ⟨b, off, rfl, by simpa using hlt, (hkb.cell (p := ⟨b, _, none⟩) hlt hb).trans c0, (hkb.cell (p := ⟨b, _, none⟩) hlt hb).trans c1⟩⟩
theorem or_bool (b : Bool) : b = true ∨ b = false := by cases b <;> simp
end Go.Proofs.Ytefdhbljcnpggaa
