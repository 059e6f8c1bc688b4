/-
  Layer 9: the bytes of a payload put behind a head (lay).
-/
import Derived.Test.YtefdhbljcnpggaaFrCheck
import Derived.Test.YtefdhbljcnpggaaFrRow
import Derived.Test.YtefdhbljcnpggaaFrEq
import Derived.Test.YtefdhbljcnpggaaFrNum
import Derived.Deep.RegionHeld3
import Derived.Deep.AppendLies
import Derived.Deep.DeepCutAuto
namespace Go.Proofs.Ytefdhbljcnpggaa
open Go.RowKit

def ifB (b : Bool) (l : List Int) : List Int := if b then l else []
/-- The bytes of settings. -/
def prB : List Pr → List Int
  | [] => []
  | q :: k => q.i / 256 % 256 :: q.i % 256 :: (num4 q.v ++ prB k)
theorem prB_snoc (l : List Pr) (q : Pr) : prB (l ++ [q]) = prB l ++ ([q.i / 256 % 256, q.i % 256] ++ num4 q.v) := by
  induction l with
  | nil => simp [prB]
  | cons a l ih => simp only [List.cons_append, prB, ih]; simp
theorem prB_len (l : List Pr) : (prB l).length = l.length * 6 := by
  induction l with
  | nil => rfl
  | cons a l ih => simp only [prB, List.length_cons, List.length_append, num4_len, ih]; omega
theorem prB_take_succ (l : List Pr) (k : Nat) (q : Pr) (h : l[k]? = some q) : prB (l.take (k + 1)) = prB (l.take k) ++ ([q.i / 256 % 256, q.i % 256] ++ num4 q.v) := by
  rw [List.take_add_one, h, ← prB_snoc]
  rfl
theorem prB_all (l : List Pr) : AllB (prB l) := by
  induction l with
  | nil => intro x hx; cases hx
  | cons a l ih =>
    intro x hx
    simp only [prB, List.mem_cons, List.mem_append] at hx
    rcases hx with rfl | rfl | hx | hx
    · omega
    · omega
    · exact num4_all _ x hx
    · exact ih x hx
/-- Dep and Sole as one number. -/
def Fr.top (F : Fr) : Int := if F.sole then F.dep + 2147483648 else F.dep

theorem PL.keepB {w w' : World} {A : Option Addr} {n c B : Nat} {l : List Pr} (h : PL w A n c l) (hb : Below B w w') (hA : ∀ (k : Nat) (p : Pr), l[k]? = some p → ∀ b off, A = some ⟨b, off, none⟩ → b < B) : PL w' A n c l :=
  ⟨h.len, h.le, h.max, h.nil_, fun k f hf => by
    obtain ⟨b, off, rfl, hlt, c0, c1⟩ := h.at_ k f hf
    have hB := hA k f hf b off rfl
    exact ⟨b, off, rfl, Nat.lt_of_lt_of_le hlt hb.size, (hb.cell hB).trans c0, (hb.cell hB).trans c1⟩⟩

theorem PL.lts {w : World} {A : Option Addr} {n c B : Nat} {l : List Pr} (h : PL w A n c l) (hB : w.heap.size ≤ B) : ∀ (k : Nat) (p : Pr), l[k]? = some p → ∀ b off, A = some ⟨b, off, none⟩ → b < B := fun k p hp b off hA => by
  obtain ⟨b', off', e, hlt, _⟩ := h.at_ k p hp
  rw [hA] at e
  injection e with e
  injection e with e1 e2
  omega
/-- What stands between lay's statements. -/
structure LayS (B g : Nat) (cs sh : Array Value) (A : Option Addr) (n c : Nat) (l : List Pr) (w w' : World) (v : Value) (ys : List Int) : Prop where
  own : w'.ownsRow B 5 1 v ys.length (u8s ys)
  fr : BlkIs w' g 28 cs
  sh : BlkIs w' (g + 1) 62 sh
  pl : PL w' A n c l
  bel : Below B w w'
  base : B ≤ w'.heap.size
  old : B ≤ w.heap.size
  lt : ∀ (k : Nat) (p : Pr), l[k]? = some p → ∀ b off, A = some ⟨b, off, none⟩ → b < B
section
variable {B g : Nat} {cs sh : Array Value} {A : Option Addr} {n c : Nat} {l : List Pr} {w w' w'' : World} {v v' : Value} {ys ys' : List Int}
theorem LayS.grow (h : LayS B g cs sh A n c l w w' v ys) (ho : w''.ownsRow B 5 1 v' ys'.length (u8s ys')) (hg : w'.grownBy w'' v.ownBlock) : LayS B g cs sh A n c l w w'' v' ys' :=
  ⟨ho, h.fr.grown hg (own_apart h.own h.fr (by decide)), h.sh.grown hg (own_apart h.own h.sh (by decide)), h.pl.keepB (own_below' h.own (Below.refl B w') (Nat.le_refl _) h.base hg) h.lt, own_below' h.own h.bel (Nat.le_refl _) h.old hg, Nat.le_trans h.base hg.size, h.old, h.lt⟩
theorem LayS.drew (h : LayS B g cs sh A n c l w w' v ys) : LayS B g cs sh A n c l w w'.drew v ys := ⟨h.own, h.fr, h.sh, h.pl.drew, h.bel.drew, h.base, h.old, h.lt⟩
theorem LayS.alloc (h : LayS B g cs sh A n c l w w' v ys) (o : Obj) : LayS B g cs sh A n c l w (w'.alloc o) v ys := ⟨h.own.alloc o, h.fr.alloc o, h.sh.alloc o, h.pl.alloc o, h.bel.alloc h.base o, by rw [World.size_alloc]; have := h.base; omega, h.old, h.lt⟩
theorem LayS.list (h : LayS B g cs sh A n c l w w' v ys) (e : ys = ys') : LayS B g cs sh A n c l w w' v ys' := e ▸ h
end
theorem lay_start {B : Nat} {A : Option Addr} {n c : Nat} {l : List Pr} (w : World) (v : Value) (ys : List Int) (cs sh : Array Value) (hB : B ≤ w.heap.size) (ho : w.ownsRow B 5 1 v ys.length (u8s ys)) (hp : PL w A n c l) (hlt : ∀ (k : Nat) (p : Pr), l[k]? = some p → ∀ b off, A = some ⟨b, off, none⟩ → b < B) :
    LayS B w.heap.size cs sh A n c l w ((w.alloc (.cells cs 28)).alloc (.cells sh 62)) v ys :=
  ⟨(ho.alloc _).alloc _, (BlkIs.new w _ cs).alloc _, blk_two, (hp.alloc _).alloc _, ((Below.refl B w).alloc hB _).alloc (by simp; omega) _, by simp; omega, hB, hlt⟩
theorem ifB_len (b : Bool) (l : List Int) : (ifB b l).length ≤ l.length := by cases b <;> simp [ifB]
theorem own_not {w : World} {B n : Nat} {e : TypeId} {v : Value} {xs : List Value} (h : w.ownsRow B e 1 v n xs) : some w.heap.size ≠ v.ownBlock := fun he => by
  have := (h.lt _ he.symm).2
  omega
theorem row_one {w : World} {B : Nat} {v : Value} {Y : List Int} {t : Int} (h : w.ownsRow B 5 1 v (Y.length + 1) (u8s Y ++ [.int .u8 t])) : w.ownsRow B 5 1 v (Y ++ [t]).length (u8s (Y ++ [t])) := by
  have e : u8s (Y ++ [t]) = u8s Y ++ [.int .u8 t] := by simp [u8s]
  rw [e, show (Y ++ [t]).length = Y.length + 1 by simp]
  exact h
theorem row_two {w : World} {B : Nat} {v : Value} {Y : List Int} {s t : Int} (h : w.ownsRow B 5 1 v (Y.length + 2) (u8s Y ++ [.int .u8 s, .int .u8 t])) : w.ownsRow B 5 1 v (Y ++ [s, t]).length (u8s (Y ++ [s, t])) := by
  have e : u8s (Y ++ [s, t]) = u8s Y ++ [.int .u8 s, .int .u8 t] := by simp [u8s]
  rw [e, show (Y ++ [s, t]).length = Y.length + 2 by simp]
  exact h
theorem row_str {w : World} {B : Nat} {v : Value} {Y : List Int} {s : ByteArray} (h : w.ownsRow B 5 1 v (Y.length + s.size) (u8s Y ++ Lib.strCells s)) : w.ownsRow B 5 1 v (Y ++ bts s).length (u8s (Y ++ bts s)) := by
  have e : u8s (Y ++ bts s) = u8s Y ++ Lib.strCells s := by rw [strCells_u8s]; simp [u8s]
  rw [e, show (Y ++ bts s).length = Y.length + s.size by rw [List.length_append, bts_len]]
  exact h
theorem lenx0 {xs : List Int} {p d l c0 i : Bool} {F : Fr} (h : (xs.length : Int) ≤ 100) : (xs).length ≤ 100 + 0 := by
  (try simp only [List.length_append, num4_len, List.length_cons, List.length_nil] at *)
  omega
theorem len0 {xs : List Int} {p d l c0 i : Bool} {F : Fr} (h : (xs.length : Int) ≤ 100) : ((xs).length : Int) ≤ 500000 := by
  have := lenx0 (p := p) (d := d) (l := l) (c0 := c0) (i := i) (F := F) h
  omega
theorem lenx1 {xs : List Int} {p d l c0 i : Bool} {F : Fr} (h : (xs.length : Int) ≤ 100) : ((xs ++ ifB p [F.pad])).length ≤ 100 + 1 := by
  have h0 := ifB_len p [F.pad]
  (try simp only [List.length_append, num4_len, List.length_cons, List.length_nil] at *)
  omega
theorem len1 {xs : List Int} {p d l c0 i : Bool} {F : Fr} (h : (xs.length : Int) ≤ 100) : (((xs ++ ifB p [F.pad])).length : Int) ≤ 500000 := by
  have := lenx1 (p := p) (d := d) (l := l) (c0 := c0) (i := i) (F := F) h
  omega
theorem lenx2 {xs : List Int} {p d l c0 i : Bool} {F : Fr} (h : (xs.length : Int) ≤ 100) : (((xs ++ ifB p [F.pad]) ++ ifB d (num4 F.top ++ [F.wt]))).length ≤ 100 + 6 := by
  have h0 := ifB_len p [F.pad]
  have h1 := ifB_len d (num4 F.top ++ [F.wt])
  (try simp only [List.length_append, num4_len, List.length_cons, List.length_nil] at *)
  omega
theorem len2 {xs : List Int} {p d l c0 i : Bool} {F : Fr} (h : (xs.length : Int) ≤ 100) : ((((xs ++ ifB p [F.pad]) ++ ifB d (num4 F.top ++ [F.wt]))).length : Int) ≤ 500000 := by
  have := lenx2 (p := p) (d := d) (l := l) (c0 := c0) (i := i) (F := F) h
  omega
theorem lenx3 {xs : List Int} {p d l c0 i : Bool} {F : Fr} (h : (xs.length : Int) ≤ 100) : ((((xs ++ ifB p [F.pad]) ++ ifB d (num4 F.top ++ [F.wt])) ++ ifB l (num4 F.last))).length ≤ 100 + 10 := by
  have h0 := ifB_len p [F.pad]
  have h1 := ifB_len d (num4 F.top ++ [F.wt])
  have h2 := ifB_len l (num4 F.last)
  (try simp only [List.length_append, num4_len, List.length_cons, List.length_nil] at *)
  omega
theorem len3 {xs : List Int} {p d l c0 i : Bool} {F : Fr} (h : (xs.length : Int) ≤ 100) : (((((xs ++ ifB p [F.pad]) ++ ifB d (num4 F.top ++ [F.wt])) ++ ifB l (num4 F.last))).length : Int) ≤ 500000 := by
  have := lenx3 (p := p) (d := d) (l := l) (c0 := c0) (i := i) (F := F) h
  omega
theorem lenx4 {xs : List Int} {p d l c0 i : Bool} {F : Fr} (h : (xs.length : Int) ≤ 100) : (((((xs ++ ifB p [F.pad]) ++ ifB d (num4 F.top ++ [F.wt])) ++ ifB l (num4 F.last)) ++ ifB c0 (num4 F.code))).length ≤ 100 + 14 := by
  have h0 := ifB_len p [F.pad]
  have h1 := ifB_len d (num4 F.top ++ [F.wt])
  have h2 := ifB_len l (num4 F.last)
  have h3 := ifB_len c0 (num4 F.code)
  (try simp only [List.length_append, num4_len, List.length_cons, List.length_nil] at *)
  omega
theorem len4 {xs : List Int} {p d l c0 i : Bool} {F : Fr} (h : (xs.length : Int) ≤ 100) : ((((((xs ++ ifB p [F.pad]) ++ ifB d (num4 F.top ++ [F.wt])) ++ ifB l (num4 F.last)) ++ ifB c0 (num4 F.code))).length : Int) ≤ 500000 := by
  have := lenx4 (p := p) (d := d) (l := l) (c0 := c0) (i := i) (F := F) h
  omega
theorem lenx5 {xs : List Int} {p d l c0 i : Bool} {F : Fr} (h : (xs.length : Int) ≤ 100) : ((((((xs ++ ifB p [F.pad]) ++ ifB d (num4 F.top ++ [F.wt])) ++ ifB l (num4 F.last)) ++ ifB c0 (num4 F.code)) ++ ifB i (num4 F.inc))).length ≤ 100 + 18 := by
  have h0 := ifB_len p [F.pad]
  have h1 := ifB_len d (num4 F.top ++ [F.wt])
  have h2 := ifB_len l (num4 F.last)
  have h3 := ifB_len c0 (num4 F.code)
  have h4 := ifB_len i (num4 F.inc)
  (try simp only [List.length_append, num4_len, List.length_cons, List.length_nil] at *)
  omega
theorem len5 {xs : List Int} {p d l c0 i : Bool} {F : Fr} (h : (xs.length : Int) ≤ 100) : (((((((xs ++ ifB p [F.pad]) ++ ifB d (num4 F.top ++ [F.wt])) ++ ifB l (num4 F.last)) ++ ifB c0 (num4 F.code)) ++ ifB i (num4 F.inc))).length : Int) ≤ 500000 := by
  have := lenx5 (p := p) (d := d) (l := l) (c0 := c0) (i := i) (F := F) h
  omega
theorem or_top32 (n : Int) (h0 : 0 ≤ n) (h1 : n ≤ 2147483647) : bits .or .u32 n 2147483648 = n + 2147483648 := by
  have h := u32_or_nat n.toNat 2147483648 (by omega) (by omega)
  have h' := u32_or_nat 2147483648 n.toNat (by omega) (by omega)
  rw [Nat.or_comm] at h
  rw [show ((n.toNat : Nat) : Int) = n by omega] at h h'
  have hj := or32 2147483648 n 2147483648 31 (by decide) (by omega) (by omega) (by omega) h0 (by omega) (by omega)
  have e : bits .or .u32 n 2147483648 = bits .or .u32 2147483648 n := h.trans h'.symm
  rw [e, hj]
  omega

end Go.Proofs.Ytefdhbljcnpggaa
