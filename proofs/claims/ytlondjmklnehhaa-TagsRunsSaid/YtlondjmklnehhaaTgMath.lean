/-
  Layer 25 as plain functions: tags, whose turn it is, and why each two are near. No program here.
-/
import Derived.Test.YtlondjmklnehhaaKit
import Derived.IntWalk
namespace Go.Proofs.Ytlondjmklnehhaa
set_option linter.unusedSimpArgs false
set_option linter.unusedVariables false
open Go.RowKit

/-- A tag: weight, start, finish, work. -/
structure Tg where
  w : Int
  s : Int
  f : Int
  k : Int
deriving DecidableEq, Inhabited
/-- Its cells. -/
def Tg.cs (t : Tg) : Array Value := #[.int .i64 t.w, .int .i64 t.s, .int .i64 t.f, .int .i64 t.k]
theorem Tg.cs_one (t : Tg) : t.cs.all (·.oneCell') = true := by simp [Tg.cs, Value.oneCell']
def nilT : Tg := ⟨0, 0, 0, 0⟩

/-! ## The calls -/
def WtI (n : Int) : Prop := 1 ≤ n ∧ n ≤ 16
def WkI (n : Int) : Prop := 0 ≤ n ∧ n ≤ 1099511627776
def TmI (n : Int) : Prop := 0 ≤ n ∧ n ≤ 2305843009213693952
instance (n : Int) : Decidable (WtI n) := by unfold WtI; infer_instance
instance (n : Int) : Decidable (WkI n) := by unfold WkI; infer_instance
instance (n : Int) : Decidable (TmI n) := by unfold TmI; infer_instance
def Tg.Ok (t : Tg) : Prop := WtI t.w ∧ TmI t.s ∧ TmI t.f ∧ WkI t.k
instance (t : Tg) : Decidable t.Ok := by unfold Tg.Ok; infer_instance
/-- What Check answers. -/
def chkT (t : Tg) : Int := if t.Ok then 0 else 8
theorem chkT_yes {t : Tg} (h : t.Ok) : chkT t = 0 := if_pos h
theorem chkT_no {t : Tg} (h : ¬ t.Ok) : chkT t = 8 := if_neg h
/-- A charge. -/
def chg (c w : Int) : Int := c * 720720 / w
def chgI (c w : Int) : Int × Int := if WkI c ∧ WtI w then (chg c w, 0) else (0, 8)
theorem chgI_yes {c w : Int} (h : WkI c) (h' : WtI w) : chgI c w = (chg c w, 0) := if_pos ⟨h, h'⟩
theorem chgI_no {c w : Int} (h : ¬ (WkI c ∧ WtI w)) : chgI c w = (0, 8) := if_neg h
theorem chg_in {c w : Int} (h : WkI c) (h' : WtI w) : 0 ≤ chg c w ∧ chg c w ≤ 792440020370718720 ∧ chg c w ≤ c * 720720 := by
  obtain ⟨a, b⟩ := h
  obtain ⟨a', b'⟩ := h'
  unfold chg
  have h0 : 0 ≤ c * 720720 := by omega
  have := Int.ediv_nonneg h0 (show 0 ≤ w by omega)
  have := Int.ediv_le_self w h0
  omega
/-- New. -/
def newT (w : Int) : Tg × Int := if WtI w then (⟨w, 0, 0, 0⟩, 0) else (nilT, 8)
theorem newT_yes {w : Int} (h : WtI w) : newT w = (⟨w, 0, 0, 0⟩, 0) := if_pos h
theorem newT_no {w : Int} (h : ¬ WtI w) : newT w = (nilT, 8) := if_neg h
theorem new_ok (w : Int) : (Tg.mk w 0 0 0).Ok ↔ WtI w := by simp [Tg.Ok, TmI, WkI]
/-- Wake. -/
def wakT (v : Int) (t : Tg) : Tg := if t.Ok ∧ TmI v then ⟨t.w, max v t.f, t.f, t.k⟩ else t
theorem wakT_yes {v : Int} {t : Tg} (h : t.Ok) (h' : TmI v) : wakT v t = ⟨t.w, max v t.f, t.f, t.k⟩ := if_pos ⟨h, h'⟩
theorem wakT_no {v : Int} {t : Tg} (h : ¬ (t.Ok ∧ TmI v)) : wakT v t = t := if_neg h
/-- Serve: virtual time, the tag, the error. -/
def Fits (t : Tg) (c : Int) : Prop := t.k + c ≤ 1099511627776 ∧ t.s + chg c t.w ≤ 2305843009213693952
instance (t : Tg) (c : Int) : Decidable (Fits t c) := by unfold Fits; infer_instance
def srvT (v : Int) (t : Tg) (c : Int) : Int × Tg × Int :=
  if ¬ t.Ok then (v, t, 8) else if ¬ WkI c then (v, t, 8) else if ¬ Fits t c then (v, t, 7) else (t.s, ⟨t.w, t.s + chg c t.w, t.s + chg c t.w, t.k + c⟩, 0)
theorem srvT_bad {v : Int} {t : Tg} {c : Int} (h : ¬ t.Ok) : srvT v t c = (v, t, 8) := if_pos h
theorem srvT_cost {v : Int} {t : Tg} {c : Int} (h : t.Ok) (h1 : ¬ WkI c) : srvT v t c = (v, t, 8) := by rw [srvT, if_neg (fun q => q h), if_pos h1]
theorem srvT_full {v : Int} {t : Tg} {c : Int} (h : t.Ok) (h1 : WkI c) (h2 : ¬ Fits t c) : srvT v t c = (v, t, 7) := by rw [srvT, if_neg (fun q => q h), if_neg (fun q => q h1), if_pos h2]
theorem srvT_yes {v : Int} {t : Tg} {c : Int} (h : t.Ok) (h1 : WkI c) (h2 : Fits t c) : srvT v t c = (t.s, ⟨t.w, t.s + chg c t.w, t.s + chg c t.w, t.k + c⟩, 0) := by rw [srvT, if_neg (fun q => q h), if_neg (fun q => q h1), if_neg (fun q => q h2)]
/-- Near. -/
def apartT (a b : Tg) (f g : Int) : Int := (a.k - f) * b.w - (b.k - g) * a.w
def NearP (a b : Tg) (f g q : Int) : Prop := (a.Ok ∧ WkI f ∧ f ≤ a.k) ∧ (b.Ok ∧ WkI g ∧ g ≤ b.k) ∧ WkI q ∧ -(q * (a.w + b.w)) ≤ apartT a b f g ∧ apartT a b f g ≤ q * (a.w + b.w)
instance (a b : Tg) (f g q : Int) : Decidable (NearP a b f g q) := by unfold NearP; infer_instance
def nearB (a b : Tg) (f g q : Int) : Bool := decide (NearP a b f g q)
theorem nearB_yes {a b : Tg} {f g q : Int} (h : NearP a b f g q) : nearB a b f g q = true := decide_eq_true h
theorem nearB_no {a b : Tg} {f g q : Int} (h : ¬ NearP a b f g q) : nearB a b f g q = false := decide_eq_false h
theorem prod_in {x w : Int} (h0 : 0 ≤ x) (h1 : x ≤ 1099511627776) (h2 : 0 ≤ w) (h3 : w ≤ 32) : 0 ≤ x * w ∧ x * w ≤ 35184372088832 := by
  refine ⟨Int.mul_nonneg h0 h2, ?_⟩
  have : x * w ≤ 1099511627776 * 32 := Int.mul_le_mul h1 h3 h2 (by omega)
  omega

/-! ## Whose turn it is -/
/-- What stands at a place. -/
def gtT (l : List Tg) (i : Nat) : Tg := l[i]?.getD ⟨0, 0, 0, 0⟩
theorem gtT_some {l : List Tg} {i : Nat} {x : Tg} (h : l[i]? = some x) : gtT l i = x := by rw [gtT, h]; rfl
theorem gtT_get {l : List Tg} {i : Nat} (h : i < l.length) : l[i]? = some (gtT l i) := by rw [gtT, List.getElem?_eq_getElem h]; rfl
theorem gtT_lt {l : List Tg} {i : Nat} (h : i < l.length) : l[i] = gtT l i := by rw [gtT, List.getElem?_eq_getElem h]; rfl
theorem gtT_set (l : List Tg) (i j : Nat) (x : Tg) (h : i < l.length) : gtT (l.set i x) j = if j = i then x else gtT l j := by
  unfold gtT
  rw [List.getElem?_set]
  split
  · next e => subst e; simp [h]
  · next e => rw [if_neg (fun q => e q.symm)]
theorem gtT_map (l : List Int) (f : Int → Tg) (i : Nat) (h : i < l.length) : gtT (l.map f) i = f l[i] := gtT_some (by simp [h])
theorem ext_gtT {a b : List Tg} (h : a.length = b.length) (k : ∀ i, i < a.length → gtT a i = gtT b i) : a = b := by
  apply List.ext_getElem? 
  intro i
  by_cases hi : i < a.length
  · rw [gtT_get hi, gtT_get (by omega), k i hi]
  · rw [List.getElem?_eq_none (by omega), List.getElem?_eq_none (by omega)]

/-- The place of the least Start among the first i ones (0 ahead of the first one). -/
def fsN (l : List Tg) : Nat → Nat
  | 0 => 0
  | i + 1 => if (gtT l i).s < (gtT l (fsN l i)).s then i else fsN l i
theorem fsN_one (l : List Tg) : fsN l 1 = 0 := by
  rw [fsN]; split <;> rfl
theorem fsN_lt (l : List Tg) : ∀ i, 0 < i → fsN l i < i := by
  intro i
  induction i with
  | zero => intro h; omega
  | succ i ih =>
    intro _
    rw [fsN]
    split
    · omega
    · rcases Nat.eq_zero_or_pos i with rfl | h
      · rw [fsN]; omega
      · have := ih h; omega
theorem fsN_le (l : List Tg) : ∀ i j, j < i → (gtT l (fsN l i)).s ≤ (gtT l j).s := by
  intro i
  induction i with
  | zero => intro j h; omega
  | succ i ih =>
    intro j hj
    rw [fsN]
    split
    · next h =>
      by_cases e : j = i
      · subst e; omega
      · have := ih j (by omega); omega
    · next h =>
      by_cases e : j = i
      · subst e; omega
      · exact ih j (by omega)
theorem fsN_yes {l : List Tg} {i : Nat} (h : (gtT l i).s < (gtT l (fsN l i)).s) : fsN l (i + 1) = i := by rw [fsN, if_pos h]
theorem fsN_no {l : List Tg} {i : Nat} (h : ¬ (gtT l i).s < (gtT l (fsN l i)).s) : fsN l (i + 1) = fsN l i := by rw [fsN, if_neg h]
/-- First, so far. -/
def fsP (l : List Tg) (i : Nat) : Int := if i = 0 then -1 else (fsN l i : Int)
theorem fsP_zero (l : List Tg) : fsP l 0 = -1 := rfl
theorem fsP_pos {l : List Tg} {i : Nat} (h : 0 < i) : fsP l i = (fsN l i : Int) := if_neg (by omega)
theorem fsP_one (l : List Tg) : fsP l 1 = 0 := by rw [fsP_pos (by omega), fsN_one]; rfl
/-- First. -/
def fstI (l : List Tg) : Int := fsP l l.length
theorem fstI_nil : fstI [] = -1 := rfl
theorem fstI_pos {l : List Tg} (h : 0 < l.length) : fstI l = (fsN l l.length : Int) := fsP_pos h

/-! ## Again and again -/
/-- One turn: the tags then, and who was served. -/
def turnT (l : List Tg) (c : Int) : List Tg × Int :=
  if l.length = 0 ∨ c < 1 then (l, -1)
  else if (srvT (gtT l (fsN l l.length)).s (gtT l (fsN l l.length)) c).2.2 = 0 then (l.set (fsN l l.length) (srvT (gtT l (fsN l l.length)).s (gtT l (fsN l l.length)) c).2.1, (fsN l l.length : Int))
  else (l, -1)
theorem turn_no {l : List Tg} {c : Int} (h : l.length = 0 ∨ c < 1) : turnT l c = (l, -1) := if_pos h
theorem turn_err {l : List Tg} {c : Int} (h : ¬ (l.length = 0 ∨ c < 1)) (v : Int) (k : ¬ (srvT v (gtT l (fsN l l.length)) c).2.2 = 0) : turnT l c = (l, -1) := by
  have e : ∀ u, (srvT u (gtT l (fsN l l.length)) c).2.2 = (srvT v (gtT l (fsN l l.length)) c).2.2 := by
    intro u; unfold srvT; (repeat' split) <;> rfl
  rw [turnT, if_neg h, if_neg (by rw [e]; exact k)]
theorem turn_yes {l : List Tg} {c : Int} (h : ¬ (l.length = 0 ∨ c < 1)) (v : Int) (k : (srvT v (gtT l (fsN l l.length)) c).2.2 = 0) :
    turnT l c = (l.set (fsN l l.length) (srvT v (gtT l (fsN l l.length)) c).2.1, (fsN l l.length : Int)) := by
  have e : ∀ u, (srvT u (gtT l (fsN l l.length)) c).2 = (srvT v (gtT l (fsN l l.length)) c).2 ∨ ¬ (srvT u (gtT l (fsN l l.length)) c).2.2 = 0 := by
    intro u; unfold srvT; (repeat' split) <;> first | exact .inl rfl | (exact .inr (by simp))
  have e2 : ∀ u, (srvT u (gtT l (fsN l l.length)) c).2.2 = (srvT v (gtT l (fsN l l.length)) c).2.2 := by
    intro u; unfold srvT; (repeat' split) <;> rfl
  rw [turnT, if_neg h, if_pos (by rw [e2]; exact k)]
  rcases e (gtT l (fsN l l.length)).s with e | e
  · rw [e]
  · exact absurd (by rw [e2]; exact k) e
theorem turn_len (l : List Tg) (c : Int) : (turnT l c).1.length = l.length := by
  unfold turnT; (repeat' split) <;> simp
/-- All turns. -/
def runT : List Tg → List Int → List Tg × List Int
  | l, [] => (l, [])
  | l, c :: cs => ((runT (turnT l c).1 cs).1, (turnT l c).2 :: (runT (turnT l c).1 cs).2)
theorem run_nil (l : List Tg) : runT l [] = (l, []) := rfl
theorem run_cons (l : List Tg) (c : Int) (cs : List Int) : runT l (c :: cs) = ((runT (turnT l c).1 cs).1, (turnT l c).2 :: (runT (turnT l c).1 cs).2) := rfl
theorem run_len : ∀ (cs : List Int) (l : List Tg), (runT l cs).1.length = l.length ∧ (runT l cs).2.length = cs.length
  | [], l => ⟨rfl, rfl⟩
  | c :: cs, l => by
    obtain ⟨a, b⟩ := run_len cs (turnT l c).1
    rw [run_cons]
    exact ⟨by rw [a, turn_len], by simp [b]⟩
theorem run_app : ∀ (a b : List Int) (l : List Tg), runT l (a ++ b) = ((runT (runT l a).1 b).1, (runT l a).2 ++ (runT (runT l a).1 b).2)
  | [], b, l => rfl
  | c :: a, b, l => by
    rw [List.cons_append, run_cons, run_app a b, run_cons]
    rfl
/-- One more turn. -/
theorem run_snoc (l : List Tg) (a : List Int) (c : Int) : runT l (a ++ [c]) = ((turnT (runT l a).1 c).1, (runT l a).2 ++ [(turnT (runT l a).1 c).2]) := by
  rw [run_app]; rfl
end Go.Proofs.Ytlondjmklnehhaa
