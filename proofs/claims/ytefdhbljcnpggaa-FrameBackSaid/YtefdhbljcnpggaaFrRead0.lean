/-
  Layer 9: a frame read (Read, the program's): what it answers.
-/
import Derived.Test.YtefdhbljcnpggaaFrFill
import Derived.Test.YtefdhbljcnpggaaFrUnpad
namespace Go.Proofs.Ytefdhbljcnpggaa
open Go.RowKit

theorem results_cell_cell_blk {P : Program} {fn : Func} {p q : Tmp} {tp tq : TypeId} (h : fn.results = #[.cell p tp, .cell q tq]) (tmps : Array Value) (w : World) (g k : Nat) (t u : TypeId) (cs ds : Array Value) (d e : TypeDesc)
    (hp : tmps.getD p undef = .pointer (some ⟨g, 0, none⟩)) (hq : tmps.getD q undef = .pointer (some ⟨k, 0, none⟩)) (hg : BlkIs w g t cs) (hk : BlkIs w k u ds)
    (hu : P.underlying tp = some d) (hd : (match d with | .struct _ | .array _ _ => true | _ => false) = true) (hi : (P.info? tp).map (·.size) = some cs.size)
    (hu' : P.underlying tq = some e) (hd' : (match e with | .struct _ | .array _ _ => true | _ => false) = true) (hi' : (P.info? tq).map (·.size) = some ds.size) :
    (results fn tmps).run P w = .ok (.tuple #[.agg cs, .agg ds]) w := by
  have l1 := run_loadVar_row w g t tp cs (0, 0) d hg hu hd hi
  have l2 := run_loadVar_row w k u tq ds (0, 0) e hk hu' hd' hi'
  have hp' : tmps[p]?.getD undef = .pointer (some ⟨g, 0, none⟩) := by simpa using hp
  have hq' : tmps[q]?.getD undef = .pointer (some ⟨k, 0, none⟩) := by simpa using hq
  simp only [results, h]
  simp [Sem.run_bind, Result.andThen, hp', hq', asAddr, l1, l2]
theorem results_frfa {fn : Func} {p q : Tmp} (h : fn.results = #[.cell p 28, .cell q 31]) (tmps : Array Value) (w : World) (g k : Nat) (F : Fr) (A : Option Addr) (n c : Nat) (x y : Value)
    (hp : tmps.getD p undef = .pointer (some ⟨g, 0, none⟩)) (hq : tmps.getD q undef = .pointer (some ⟨k, 0, none⟩)) (hg : BlkIs w g 28 (F.cs A n c)) (hk : BlkIs w k 31 #[x, y]) :
    (results fn tmps).run Try.prog w = .ok (.tuple #[.agg (F.cs A n c), .agg #[x, y]]) w :=
  results_cell_cell_blk h tmps w g k _ _ _ _ _ _ hp hq hg hk Try.underlying28 rfl fr_sz Try.underlying31 rfl fa_size

/-- A frame with its head's type, flags and stream. -/
def Fr.start (t f s pad : Int) : Fr := ⟨t, f, s, ⟨#[]⟩, pad, 0, false, 0, 0, 0, 0⟩
/-- What is read. -/
structure Rd where
  F : Fr
  l : List Pr
  code : Int
  st : Int
def Rd.fault (c s : Int) : Rd := ⟨Fr.zero, [], c, s⟩
/-- The payload without its padding. -/
def bodyR (t f : Int) (xs : List Int) : List Int := if shP t f then (xs.drop 1).take (xs.length - 1 - (xs.getD 0 0).toNat) else xs
def padR (t f : Int) (xs : List Int) : Int := if shP t f then xs.getD 0 0 else 0
def fillR (t f s : Int) (xs : List Int) : Fr := fillF (shD t f) (shL t) (shC t) (shI t) (shX t) (Fr.start t f s (padR t f xs)) (bodyR t f xs)
def prsRd (t f : Int) (xs : List Int) : List Pr := prsR (shR t f) (bodyR t f xs) ((bodyR t f xs).length / 6)
def readR (t f s : Int) (xs : List Int) : Rd :=
  if misB t s then Rd.fault 1 0
  else if shP t f = true ∧ xs.length = 0 then Rd.fault 6 0
  else if shP t f = true ∧ (xs.length : Int) - 1 < xs.getD 0 0 then Rd.fault 1 0
  else if rightB t f (bodyR t f xs).length = false then Rd.fault 6 (if t = 2 then s else 0)
  else if shI t = true ∧ (fillR t f s xs).inc = 0 then Rd.fault 1 s
  else ⟨fillR t f s xs, prsRd t f xs, 0, 0⟩
/-- What Read leaves. -/
def GivesRd (R : Rd) (w : World) (e : Ending) (w' : World) : Prop :=
  ∃ A c, e = .returned (.tuple #[.agg (R.F.cs A R.l.length c), .agg #[.int .u32 R.code, .int .i64 R.st]]) ∧ PL w' A R.l.length c R.l ∧ Below w.heap.size w w'

/-- What stands in Read all through. -/
structure RdS (h a b : Nat) (ln t f s : Int) (w w' : World) : Prop where
  hd : BlkIs w' h 34 #[.int .i64 ln, .int .u8 t, .int .u8 f, .int .i64 s]
  fr : BlkIs w' a 28 (Fr.zero.cs none 0 0)
  fa : BlkIs w' b 31 #[.int .u32 0, .int .i64 0]
  bel : Below w.heap.size w w'
  ha : w.heap.size ≤ a
  hb : w.heap.size ≤ b
section
variable {h a b : Nat} {ln t f s : Int} {w w' w'' : World}
theorem RdS.keep (k : RdS h a b ln t f s w w') (hb : Below w'.heap.size w' w'') : RdS h a b ln t f s w w'' :=
  ⟨k.hd.keep hb, k.fr.keep hb, k.fa.keep hb, k.bel.trans (hb.mono k.bel.size), k.ha, k.hb⟩
theorem RdS.drew (k : RdS h a b ln t f s w w') : RdS h a b ln t f s w w'.drew := ⟨k.hd, k.fr, k.fa, k.bel.drew, k.ha, k.hb⟩
theorem RdS.alloc (k : RdS h a b ln t f s w w') (o : Obj) : RdS h a b ln t f s w (w'.alloc o) := k.keep ((Below.refl _ _).alloc (Nat.le_refl _) o)
end
theorem RdS.row {h a b u : Nat} {ln t f s : Int} {w w' : World} (k : RdS h a b ln t f s w w') (h1 : h ≠ u) (h2 : a ≠ u) (h3 : b ≠ u) (h4 : w.heap.size ≤ u) (cs : Array Value) : RdS h a b ln t f s w (w'.setRow u cs) :=
  ⟨k.hd.row_other h1 cs, k.fr.row_other h2 cs, k.fa.row_other h3 cs, below_setRow k.bel h4 cs, k.ha, k.hb⟩
theorem RdS.cell {h a b : Nat} {ln t f s : Int} {w w' : World} (k : RdS h a b ln t f s w w') (u : Nat) (hau : a ≠ u) (hub : w.heap.size ≤ u) {cs : Array Value} (hu : BlkIs w' u 28 cs) (i : Nat) (x : Value) : RdS h a b ln t f s w (w'.setCell ⟨u, i, none⟩ x) :=
  ⟨k.hd.far (p := ⟨u, i, none⟩) (k.hd.ne_ hu (by decide)) x, k.fr.far (p := ⟨u, i, none⟩) hau x, k.fa.far (p := ⟨u, i, none⟩) (k.fa.ne_ hu (by decide)) x, k.bel.setCell (p := ⟨u, i, none⟩) hub x, k.ha, k.hb⟩
theorem step_store_blk {P : Program} {ops : Array Oper} {o : Oper} {a : Act} {w : World} {K : Act → World → Prop} {Q : Exit → Act → World → Prop} {E : Prop} (hgd : o.guard = none) (ty : TypeId) (x y : Operand) (ho : o.op = .store ty x y)
    (g : Nat) (cells z : Array Value) (t : TypeId) (hx : a.eval x = .pointer (some ⟨g, 0, none⟩)) (hy : a.eval y = .agg cells) (hg : BlkIs w g t z)
    (hi : (P.info? ty).map (·.size) = some cells.size) (hold : z.size = cells.size) (h1 : cells.all (·.oneCell') = true)
    (h : K (a.put o.dst undef) (w.setRow g cells)) : if Region.wanted o (yielded ops a.tmps) = true then Oper.wp P o a w K Q else E := by
  have hw : Region.wanted o (yielded ops a.tmps) = true := by simp [Region.wanted, hgd]
  rw [if_pos hw]
  exact wp_store_row ty x y ho g cells hx hy t z hg hi hold h1 h
theorem rd_start (w : World) (ln t f s : Int) :
    RdS w.heap.size (w.heap.size + 1) (w.heap.size + 1 + 1) ln t f s w (((w.alloc (.cells #[.int .i64 ln, .int .u8 t, .int .u8 f, .int .i64 s] 34)).alloc (.cells (Fr.zero.cs none 0 0) 28)).alloc (.cells #[.int .u32 0, .int .i64 0] 31)) := by
  refine ⟨((BlkIs.new w _ _).alloc _).alloc _, blk_mid, ?_, below_three, by omega, by omega⟩
  have := BlkIs.new ((w.alloc (.cells #[.int .i64 ln, .int .u8 t, .int .u8 f, .int .i64 s] 34)).alloc (.cells (Fr.zero.cs none 0 0) 28)) 31 #[.int .u32 0, .int .i64 0]
  simpa using this
theorem rightB_fix {t f : Int} {n : Nat} (t0 : 0 ≤ t) (h : rightB t f (n : Int) = true) : fixN (shD t f) (shL t) (shC t) (shI t) ≤ (n : Int) := by
  unfold rightB at h
  split at h
  · rename_i h6
    subst h6
    have : fixN (shD 6 f) (shL 6) (shC 6) (shI 6) = 0 := rfl
    rw [this]; omega
  · split at h
    · rename_i hr
      have h4 : t = 4 := by
        unfold shR at hr
        rw [Bool.and_eq_true] at hr
        simpa using hr.1
      subst h4
      have : fixN (shD 4 f) (shL 4) (shC 4) (shI 4) = 0 := rfl
      rw [this]; omega
    · split at h
      · exact of_decide_eq_true h
      · have : (n : Int) = fixT t f := by simpa using h
        rw [this]; exact Int.le_refl _
theorem rightB_prs {t f : Int} {n : Nat} (t0 : 0 ≤ t) (h : rightB t f (n : Int) = true) : shR t f = true → n = 6 * (n / 6) ∧ shD t f = false ∧ shL t = false ∧ shC t = false ∧ shI t = false := by
  intro hr
  have h4 : t = 4 := by
    unfold shR at hr
    rw [Bool.and_eq_true] at hr
    simpa using hr.1
  subst h4
  refine ⟨?_, rfl, rfl, rfl, rfl⟩
  unfold rightB at h
  rw [if_neg (by decide), if_pos hr] at h
  have : (n : Int) % 6 = 0 := by simpa using h
  omega
theorem fa_one (x y : Value) (hx : x.oneCell' = true) (hy : y.oneCell' = true) : (#[x, y] : Array Value).all (·.oneCell') = true := by simp [hx, hy]
/-- The end of Read: both answers stored. -/
theorem rd_done {h a b : Nat} {ln t f s : Int} {w w' : World} (k : RdS h a b ln t f s w w') (R : Rd) (A : Option Addr) (c : Nat) (hp : PL w' A R.l.length c R.l) (hab : a ≠ b) :
    BlkIs ((w'.setRow a (R.F.cs A R.l.length c)).setRow b #[.int .u32 R.code, .int .i64 R.st]) a 28 (R.F.cs A R.l.length c) ∧
    BlkIs ((w'.setRow a (R.F.cs A R.l.length c)).setRow b #[.int .u32 R.code, .int .i64 R.st]) b 31 #[.int .u32 R.code, .int .i64 R.st] ∧
    GivesRd R w (.returned (.tuple #[.agg (R.F.cs A R.l.length c), .agg #[.int .u32 R.code, .int .i64 R.st]])) ((w'.setRow a (R.F.cs A R.l.length c)).setRow b #[.int .u32 R.code, .int .i64 R.st]) := by
  have h1 := k.fr.row (R.F.cs A R.l.length c)
  have h2 := k.fa.row_other (Ne.symm hab) (R.F.cs A R.l.length c)
  refine ⟨h1.row_other hab _, h2.row _, ⟨A, c, rfl, ?_, below_setRow (below_setRow k.bel k.ha _) k.hb _⟩⟩
  exact (hp.farRow k.fr (fr_no16' Fr.zero none 0 0) _).farRow h2 (by intro i x; match i with | 0 | 1 => simp | k + 2 => simp) _
end Go.Proofs.Ytefdhbljcnpggaa
