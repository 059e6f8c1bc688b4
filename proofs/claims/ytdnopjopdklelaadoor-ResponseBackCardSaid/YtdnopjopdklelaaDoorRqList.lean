/-
  Layer 17: a request's fields as plain data: what Read, Trailers, Fields answer.
-/
import Derived.Test.YtdnopjopdklelaaDoorRqMath
import Derived.Test.YtdnopjopdklelaaDoorRqPref
import Derived.Test.YtdnopjopdklelaaDoorFdMem
namespace Go.Proofs.YtdnopjopdklelaaDoor
set_option linter.unusedSimpArgs false
set_option linter.unusedVariables false
open Go.RowKit

def nM : ByteArray := ⟨#[58, 109, 101, 116, 104, 111, 100]⟩
def nS : ByteArray := ⟨#[58, 115, 99, 104, 101, 109, 101]⟩
def nP : ByteArray := ⟨#[58, 112, 97, 116, 104]⟩
def nA : ByteArray := ⟨#[58, 97, 117, 116, 104, 111, 114, 105, 116, 121]⟩
def nHost : ByteArray := ⟨#[104, 111, 115, 116]⟩
def nPrio : ByteArray := ⟨#[112, 114, 105, 111, 114, 105, 116, 121]⟩
def nTe : ByteArray := ⟨#[116, 101]⟩
def nLen : ByteArray := ⟨#[99, 111, 110, 116, 101, 110, 116, 45, 108, 101, 110, 103, 116, 104]⟩
def vTrail : ByteArray := ⟨#[116, 114, 97, 105, 108, 101, 114, 115]⟩
def bColon : ByteArray := ⟨#[58]⟩
def bSlash : ByteArray := ⟨#[47]⟩
def bStar : ByteArray := ⟨#[42]⟩
def bHttp : ByteArray := ⟨#[104, 116, 116, 112]⟩
def bHttps : ByteArray := ⟨#[104, 116, 116, 112, 115]⟩
def bOpt : ByteArray := ⟨#[79, 80, 84, 73, 79, 78, 83]⟩
def bNil : ByteArray := ⟨#[]⟩
def nConn : ByteArray := ⟨#[99, 111, 110, 110, 101, 99, 116, 105, 111, 110]⟩
def nKeep : ByteArray := ⟨#[107, 101, 101, 112, 45, 97, 108, 105, 118, 101]⟩
def nProxy : ByteArray := ⟨#[112, 114, 111, 120, 121, 45, 99, 111, 110, 110, 101, 99, 116, 105, 111, 110]⟩
def nTrans : ByteArray := ⟨#[116, 114, 97, 110, 115, 102, 101, 114, 45, 101, 110, 99, 111, 100, 105, 110, 103]⟩
def nUp : ByteArray := ⟨#[117, 112, 103, 114, 97, 100, 101]⟩

/-- Does a field's name begin with a colon? -/
def psF (f : Fd) : Bool := prefB bColon f.n
def isN (nm : ByteArray) (f : Fd) : Bool := decide (f.n = nm)
/-- All values of a name. -/
def vals (nm : ByteArray) (l : List Fd) : List ByteArray := (l.filter (isN nm)).map (·.v)
/-- The first one; nothing, if there is none. -/
def fst' (nm : ByteArray) (l : List Fd) : ByteArray := (vals nm l).headD bNil
def connB (n : ByteArray) : Bool := decide (n = nConn) || (decide (n = nKeep) || (decide (n = nProxy) || (decide (n = nTrans) || decide (n = nUp))))
def rightF (f : Fd) : Bool := tokB f.n && (!connB f.n && valB f.v)
def rightL (l : List Fd) : Bool := l.all rightF
def teF (f : Fd) : Bool := decide (f.n = nTe) && !decide (f.v = vTrail)
def teB (l : List Fd) : Bool := l.any teF
/-- The content's length out of its values; n: what was told so far. -/
def lenK : Int → List ByteArray → Option Int
  | n, [] => some n
  | n, v :: vs => if numB v = true ∧ ¬ (0 ≤ n ∧ numI v ≠ n) then lenK (numI v) vs else none
def lenR (l : List Fd) : Option Int := lenK (-1) (vals nLen l)

structure Rq where
  m : ByteArray
  s : ByteArray
  p : ByteArray
  h : ByteArray
  n : Int
  r : Int
deriving DecidableEq
def noRq : Rq := ⟨bNil, bNil, bNil, bNil, 0, 0⟩
def Rq.cs (q : Rq) : Array Value := #[.string q.m, .string q.s, .string q.p, .string q.h, .int .i64 q.n, .int .i64 q.r]

def headB (hd : List Fd) : Bool := decide ((vals nM hd).length = 1) && (decide ((vals nS hd).length = 1) && (decide ((vals nP hd).length = 1) && (decide ((vals nA hd).length ≤ 1) && decide (hd.length = 3 + (vals nA hd).length))))
def schB (s : ByteArray) : Bool := decide (s = bHttp) || decide (s = bHttps)
def pathB (q : Rq) : Bool := (prefB bSlash q.p && valB q.p) || (decide (q.p = bStar) && decide (q.m = bOpt))
def tgtB (q : Rq) : Bool := metB q.m && (schB q.s && (pathB q && valB q.h))
def hostV (hd tl : List Fd) : ByteArray := if (vals nA hd).length = 0 then fst' nHost tl else fst' nA hd
def mkQ (hd tl : List Fd) (n : Int) : Rq := ⟨fst' nM hd, fst' nS hd, fst' nP hd, hostV hd tl, n, rankI (fst' nPrio tl)⟩
def hdL (l : List Fd) : List Fd := l.takeWhile psF
def tlL (l : List Fd) : List Fd := l.dropWhile psF
/-- Is it right, if the content has n bytes? -/
def okB (hd tl : List Fd) (e : Bool) (n : Int) : Bool := !(e && decide (0 < n)) && (headB hd && (tgtB (mkQ hd tl n) && (rightL tl && !teB tl)))
/-- What Read answers. -/
def readR (l : List Fd) (e : Bool) : Option Rq := match lenR (tlL l) with
  | none => none
  | some n => if okB (hdL l) (tlL l) e n = true then some (mkQ (hdL l) (tlL l) n) else none
def ansV (r : Option Rq) : Value := .tuple #[.agg (r.getD noRq).cs, .bool r.isSome]
def trailB (l : List Fd) : Bool := rightL l && decide ((vals nTe l).length = 0)

/-- Lists that are not too great. -/
def Mod (l : List Fd) : Prop := (l.length : Int) ≤ 1000 ∧ ∀ f ∈ l, (f.n.size : Int) ≤ 100000 ∧ (f.v.size : Int) ≤ 100000
theorem Mod.sub {l l' : List Fd} (h : Mod l) (hs : l'.Sublist l) : Mod l' := ⟨by have := hs.length_le; have := h.1; omega, fun f hf => h.2 f (hs.subset hf)⟩
theorem Mod.take {l : List Fd} (h : Mod l) (k : Nat) : Mod (l.take k) := h.sub (List.take_sublist _ _)
theorem Mod.drop {l : List Fd} (h : Mod l) (k : Nat) : Mod (l.drop k) := h.sub (List.drop_sublist _ _)
theorem Mod.hd {l : List Fd} (h : Mod l) : Mod (hdL l) := h.sub (List.takeWhile_sublist _)
theorem Mod.tl {l : List Fd} (h : Mod l) : Mod (tlL l) := h.sub (List.dropWhile_sublist _)
theorem Mod.at {l : List Fd} (h : Mod l) {k : Nat} {f : Fd} (hf : l[k]? = some f) : (f.n.size : Int) ≤ 100000 ∧ (f.v.size : Int) ≤ 100000 := h.2 f (List.mem_of_getElem? hf)
theorem Mod.val {l : List Fd} (h : Mod l) {nm v : ByteArray} (hv : v ∈ vals nm l) : (v.size : Int) ≤ 100000 := by
  unfold vals at hv
  obtain ⟨f, hf, rfl⟩ := List.mem_map.1 hv
  exact (h.2 f (List.mem_filter.1 hf).1).2
theorem Mod.fst {l : List Fd} (h : Mod l) (nm : ByteArray) : ((fst' nm l).size : Int) ≤ 100000 := by
  unfold fst'
  cases hv : vals nm l with
  | nil => decide
  | cons v vs => exact h.val (nm := nm) (by rw [hv]; exact List.mem_cons_self)

theorem tw_take {l : List Fd} : l.takeWhile psF = l.take (l.takeWhile psF).length := (List.prefix_iff_eq_take.1 (List.takeWhile_prefix psF))
theorem dw_drop {l : List Fd} : l.dropWhile psF = l.drop (l.takeWhile psF).length := by
  have h := List.takeWhile_append_dropWhile (p := psF) (l := l)
  have h2 := congrArg (List.drop (l.takeWhile psF).length) h
  rw [List.drop_left] at h2
  exact h2
end Go.Proofs.YtdnopjopdklelaaDoor
