/-
  Layer 9: the bytes of a number (the document's Wide), of up to 32 bits; a cell stored into a row of the call's own.
-/
import Derived.Test.YtefdhbljcnpggaaRpExtra
import Derived.Test.YtefdhbljcnpggaaFrLay0
import Derived.Deep.RegionHeld3
import Derived.Deep.AppendLies
import Derived.Lib.AppendStr
namespace Go.Proofs.Ytefdhbljcnpggaa
open Go.RowKit

set_option maxHeartbeats 800000 in
theorem rp_Wide0 (n : Int) (m : Nat) (M : Int) (hM : M = m) (h0 : 0 ≤ n) (h1 : n ≤ 4294967295) (hm : m ≤ 4) (B : Nat) (w : World) (hB : B ≤ w.heap.size) :
    Calls Try.prog 59 #[.int .i64 n, .int .i64 M] w (GivesRow B (wideL n m) w) := by
  subst hM
  obtain ⟨i0, hi0, hz0, hz1, hz2⟩ := info_parts u8_info
  have hm' : (m : Int) ≤ 4 := by omega
  obtain ⟨W, hW⟩ : ∃ W, W = wideL n m := ⟨_, rfl⟩
  rw [← hW]
  have HW := hide hW
  clear hW
  go_enter Try.func59, Try.ntmps59
  go_wp2
  go_loopw [0, 5, 6] (fun x v i wr => ∃ (k : Nat) (q : Int) (ys : List Int), i = .int .i64 (k : Int) ∧ k ≤ m ∧ x = .int .i64 q ∧ 0 ≤ q ∧ q ≤ 4294967295 ∧ ys.length = k ∧ wr.ownsRow B 5 1 v ys.length (u8s ys) ∧ AllB ys ∧ W = wideL q (m - k) ++ ys ∧ Below B w wr) (fun _ _ i _ => m - (intOf i).toNat)
  case atStart => exact ⟨0, n, [], rfl, by omega, rfl, h0, h1, rfl, World.ownsRow_nil _ _ _ _, fun x hx => by simp at hx, by rw [HW.out]; simp, Below.refl _ _⟩
  case round =>
    obtain ⟨k, q, ys, rfl, hk, rfl, q0, q1, hy, hown, hall, hw, hbel⟩ := hrel
    obtain ⟨A, c, rfl⟩ := own_form hown
    have HR := hide (rb_of_own hown hall)
    have HY := hide hy
    have HO := hide hown
    have HA := hide hall
    have HV := hide hw
    have HB := hide hbel
    clear hy hown hall hw hbel
    by_cases hlt : k < m
    · have hlt' : (k : Int) < (m : Int) := by omega
      have hBr : B ≤ wr.heap.size := Nat.le_trans hB HB.out.size
      have hnil : Hid (A = none → ys.length = 0 ∧ c = 0) := hide (by
        intro hA
        subst hA
        rcases HO.out.2 with ⟨e, _⟩ | ⟨g, cap, cur, e, _⟩
        · injection e with e1 e2 e3; exact ⟨e2, e3⟩
        · injection e with e1; cases e1)
      go_wp2_with (at_builtin; refine wpList_append_rb _ rfl (.tmp 15) (.tmp 16) 44 rfl B 5 i0 Try.underlying44 hi0 hz0 hz1 hz2 _ [q % 256] rfl (own_one wr B (q % 256) hBr) A ys.length c ys rfl (HR.out.1.below ((Below.refl _ _).alloc (Nat.le_refl _) _)) hnil.out (by have := HY.out; simp; omega) (by simp; omega) ?_; intro v1 w1 hown1 hg1; have HO1 := hide hown1; have HG1 := hide (own_below (own_one wr B (q % 256) hBr) (HB.out.alloc hBr _) hB hg1); clear hown1 hg1)
      go_roundw
      case rel =>
        refine ⟨k + 1, q / 256, [q % 256] ++ ys, by go_num, by omega, rfl, by omega, by omega, by simp [HY.out], HO1.out, ?_, ?_, HG1.out⟩
        · intro x hx
          rcases List.mem_append.1 hx with hx | hx
          · simp at hx; omega
          · exact HA.out x hx
        · rw [HV.out, show m - k = (m - (k + 1)) + 1 by omega, wideL]
          simp
      case measure => simp [intOf]; omega
    · obtain rfl : k = m := by omega
      go_wp2
      go_ret
      refine ⟨_, rfl, ?_, HB.out⟩
      rw [HV.out]
      simpa [wideL] using HO.out

/-- What Wide leaves. -/
def WideIs (m : Nat) (l : List Int) (w : World) (e : Ending) (w' : World) : Prop :=
  ∃ g c, e = .returned (.slice (some ⟨g, 0, none⟩) m c) ∧ w'.ownsRow w.heap.size 5 1 (.slice (some ⟨g, 0, none⟩) m c) m (u8s l) ∧ Below w.heap.size w w'
theorem own_some' {w : World} {B n : Nat} {e : TypeId} {v : Value} {xs : List Value} (h : w.ownsRow B e 1 v n xs) (hn : 0 < n) : ∃ g c, v = .slice (some ⟨g, 0, none⟩) n c := by
  rcases h.2 with ⟨_, h0⟩ | ⟨g, cap, cur, he, _⟩
  · omega
  · exact ⟨g, cap, he⟩
def num2L (x : Int) : List Int := [x / 256 % 256, x % 256]
theorem num2L_all (x : Int) : AllB (num2L x) := by
  intro y hy
  simp only [num2L, List.mem_cons, List.not_mem_nil, or_false] at hy
  omega
theorem rp_Wide4 (x : Int) (h0 : 0 ≤ x) (h1 : x ≤ 4294967295) (w : World) : Calls Try.prog 59 #[.int .i64 x, .int .i64 4] w (WideIs 4 (num4 x) w) :=
  (rp_Wide0 x 4 4 rfl h0 h1 (by omega) w.heap.size w (Nat.le_refl _)).mono fun e w' ⟨v, he, ho, hb⟩ => by
    have e4 : wideL x 4 = num4 x := by simp [wideL, num4]; omega
    rw [e4] at ho
    obtain ⟨g, c, rfl⟩ := own_some' ho (by simp [num4])
    exact ⟨g, c, he, ho, hb⟩
theorem rp_Wide2 (x : Int) (h0 : 0 ≤ x) (h1 : x ≤ 4294967295) (w : World) : Calls Try.prog 59 #[.int .i64 x, .int .i64 2] w (WideIs 2 (num2L x) w) :=
  (rp_Wide0 x 2 2 rfl h0 h1 (by omega) w.heap.size w (Nat.le_refl _)).mono fun e w' ⟨v, he, ho, hb⟩ => by
    have e4 : wideL x 2 = num2L x := by simp [wideL, num2L]
    rw [e4] at ho
    obtain ⟨g, c, rfl⟩ := own_some' ho (by simp [num2L])
    exact ⟨g, c, he, ho, hb⟩

/-- A cell of a row of the call's own is stored. -/
theorem own_set {w : World} {B n c g : Nat} {e : TypeId} {xs : List Value} (h : w.ownsRow B e 1 (.slice (some ⟨g, 0, none⟩) n c) n xs) (i : Nat) (hi : i < n) (u : Value) :
    (w.setCell ⟨g, i, none⟩ u).ownsRow B e 1 (.slice (some ⟨g, 0, none⟩) n c) n (xs.set i u) := by
  refine ⟨by rw [List.length_set]; exact h.1, ?_⟩
  rcases h.2 with ⟨he, _⟩ | ⟨g', cap, cur, he, hb, hg, hn, hm, hs, ht⟩
  · cases he
  · injection he with e1 e2 e3
    injection e1 with e1
    injection e1 with e1
    subst e1 e3
    refine .inr ⟨g, c, cur.setIfInBounds i u, rfl, hb, BlkIs.put (show BlkIs w g e cur from hg) i u, hn, hm, by simpa using hs, ?_⟩
    rw [Array.toList_setIfInBounds, ← ht, List.take_set]
theorem own_frozen {w : World} {B n c g : Nat} {e : TypeId} {xs : List Value} (h : w.ownsRow B e 1 (.slice (some ⟨g, 0, none⟩) n c) n xs) (i : Nat) : w.frozen? ⟨g, i, none⟩ = false := by
  rcases h.2 with ⟨he, _⟩ | ⟨g', cap, cur, he, hb, hg, _⟩
  · cases he
  · injection he with e1 e2 e3
    injection e1 with e1
    injection e1 with e1
    subst e1
    exact BlkIs.frozen (show BlkIs w g e cur from hg) i
theorem own_lt {w : World} {B n c g : Nat} {e : TypeId} {xs : List Value} (h : w.ownsRow B e 1 (.slice (some ⟨g, 0, none⟩) n c) n xs) : B ≤ g ∧ g < w.heap.size := by
  have := h.lt g rfl
  exact this
theorem row_app {w : World} {B m : Nat} {v : Value} {Y Z : List Int} (h : w.ownsRow B 5 1 v (Y.length + m) (u8s Y ++ u8s Z)) (hz : Z.length = m) : w.ownsRow B 5 1 v (Y ++ Z).length (u8s (Y ++ Z)) := by
  have e : u8s (Y ++ Z) = u8s Y ++ u8s Z := by simp [u8s]
  rw [e, List.length_append, hz]
  exact h

section
variable {P : Program} (w : World)
theorem step_append_str {ops : Array Oper} {o : Oper} {a : Act} {K : Act → World → Prop} {Q : Exit → Act → World → Prop} {E : Prop} (hgd : o.guard = none) (sl x : Operand) (t u : TypeId)
    (ho : o.op = .call { callee := .builtin .append, args := #[sl, x], argTypes := #[t, u] })
    (base : Nat) (e : TypeId) (i : TypeInfo) (ht : P.underlying t = some (.slice e)) (hu : P.underlying u = some .string) (hi : P.info? e = some i) (hz : i.zero = some (.int .u8 0)) (hsize : i.size = 1) (hby : i.bytes = 1)
    (v : Value) (xs : List Int) (hs : a.eval sl = v) (hown : w.ownsRow base e 1 v xs.length (u8s xs)) (s : ByteArray) (hx : a.eval x = .string s) (h63 : xs.length + s.size ≤ 100000000) (hbase : base ≤ w.heap.size)
    (h : ∀ v' w', w'.ownsRow base e 1 v' (xs.length + s.size) (u8s xs ++ Lib.strCells s) → w.grownBy w' v.ownBlock → K (a.put o.dst v') w') :
    if Region.wanted o (yielded ops a.tmps) = true then Oper.wp P o a w K Q else E := by
  rw [if_pos (by simp [Region.wanted, hgd])]
  obtain ⟨v', w', hr, h2, h3, _⟩ := Lib.run_append_own_string (P := P) w base t u o.type e i ht hu hi hz hsize hby v xs.length (u8s xs) hown s (by unfold maxLen; omega) (by omega) hbase
  unfold Oper.wp execOp
  simp only [ho, resolve, invoke, builtin, Sem.run_bind, Sem.run_pure, Result.andThen_ok, List.map_toArray, List.map_cons, List.map_nil, hs, hx, hr]
  exact h v' w' h2 h3
theorem step_append_zs {ops : Array Oper} {o : Oper} {a : Act} {K : Act → World → Prop} {Q : Exit → Act → World → Prop} {E : Prop} (hgd : o.guard = none) (sl x : Operand) (t tn : TypeId)
    (ho : o.op = .call { callee := .builtin .append, args := #[sl, x], argTypes := #[t, tn] })
    (base : Nat) (e : TypeId) (i : TypeInfo) (ht : P.underlying t = some (.slice e)) (htn : P.underlying tn = some (.int .i64)) (hi : P.info? e = some i) (hz : i.zero = some (.int .u8 0)) (hsize : i.size = 1) (hby : i.bytes = 1)
    (v : Value) (xs : List Int) (hs : a.eval sl = v) (hown : w.ownsRow base e 1 v xs.length (u8s xs)) (k : Nat) (hx : a.eval x = .int .i64 (k : Int)) (h63 : xs.length + k ≤ 1000000000) (hbase : base ≤ w.heap.size)
    (h : ∀ v' w', w'.ownsRow base e 1 v' (xs.length + k) (u8s (xs ++ zs k)) → w.grownBy w' v.ownBlock → K (a.put o.dst v') w') :
    if Region.wanted o (yielded ops a.tmps) = true then Oper.wp P o a w K Q else E := by
  rw [if_pos (by simp [Region.wanted, hgd])]
  obtain ⟨v', w', hr, h2, h3⟩ := run_append_own_zeros (P := P) w base t tn o.type e i ht htn hi hz hsize hby v xs.length xs hown k h63 hbase
  unfold Oper.wp execOp
  simp only [ho, resolve, invoke, builtin, Sem.run_bind, Sem.run_pure, Result.andThen_ok, List.map_toArray, List.map_cons, List.map_nil, hs, hx, hr]
  exact h v' w' h2 h3
end

/-- What stands between payload's statements. -/
structure PayS (B g : Nat) (cs : Array Value) (A : Option Addr) (n c : Nat) (l : List Pr) (w w' : World) (v : Value) (ys : List Int) : Prop where
  own : w'.ownsRow B 5 1 v ys.length (u8s ys)
  fr : BlkIs w' g 35 cs
  pl : PL w' A n c l
  bel : Below B w w'
  base : B ≤ w'.heap.size
  old : B ≤ w.heap.size
  lt : ∀ (k : Nat) (p : Pr), l[k]? = some p → ∀ b off, A = some ⟨b, off, none⟩ → b < B
section
variable {B g : Nat} {cs : Array Value} {A : Option Addr} {n c : Nat} {l : List Pr} {w w' w'' : World} {v v' : Value} {ys ys' : List Int}
theorem PayS.grow (h : PayS B g cs A n c l w w' v ys) (ho : w''.ownsRow B 5 1 v' ys'.length (u8s ys')) (hg : w'.grownBy w'' v.ownBlock) : PayS B g cs A n c l w w'' v' ys' :=
  ⟨ho, h.fr.grown hg (own_apart h.own h.fr (by decide)), h.pl.keepB (own_below' h.own (Below.refl B w') (Nat.le_refl _) h.base hg) h.lt, own_below' h.own h.bel (Nat.le_refl _) h.old hg, Nat.le_trans h.base hg.size, h.old, h.lt⟩
theorem PayS.drew (h : PayS B g cs A n c l w w' v ys) : PayS B g cs A n c l w w'.drew v ys := ⟨h.own, h.fr, h.pl.drew, h.bel.drew, h.base, h.old, h.lt⟩
theorem PayS.keep (h : PayS B g cs A n c l w w' v ys) (hb : Below w'.heap.size w' w'') : PayS B g cs A n c l w w'' v ys :=
  ⟨own_keep h.own hb, h.fr.keep hb, h.pl.keep hb, h.bel.trans (hb.mono h.base), Nat.le_trans h.base hb.size, h.old, h.lt⟩
theorem PayS.alloc (h : PayS B g cs A n c l w w' v ys) (o : Obj) : PayS B g cs A n c l w (w'.alloc o) v ys := h.keep ((Below.refl _ _).alloc (Nat.le_refl _) o)
theorem PayS.list (h : PayS B g cs A n c l w w' v ys) (e : ys = ys') : PayS B g cs A n c l w w' v ys' := e ▸ h
end
theorem pay_start {A : Option Addr} {n c : Nat} {l : List Pr} (w : World) (cs : Array Value) (hp : PL w A n c l) :
    PayS w.heap.size w.heap.size cs A n c l w (w.alloc (.cells cs 35)) (.slice none 0 0) [] :=
  ⟨World.ownsRow_nil _ _ _ _, BlkIs.new w _ cs, hp.alloc _, (Below.refl _ w).alloc (Nat.le_refl _) _, by simp, Nat.le_refl _, hp.lts (Nat.le_refl _)⟩
/-- What the loop's round loads. -/
def PayC (g b off n c k : Nat) (f : Pr) (w : World) : Prop :=
  w.cell? ⟨g, 11, none⟩ = some (.slice (some ⟨b, off, none⟩) n c) ∧ w.cell? ⟨b, off + k * 2, none⟩ = some (.int .u16 f.i) ∧ w.cell? ⟨b, off + k * 2 + 1, none⟩ = some (.int .u32 f.v)
theorem PayS.cells {B g : Nat} {cs : Array Value} {b off n c k : Nat} {l : List Pr} {w w' : World} {v : Value} {ys : List Int} {f : Pr} (h : PayS B g cs (some ⟨b, off, none⟩) n c l w w' v ys)
    (q : cs[11]? = some (.slice (some ⟨b, off, none⟩) n c)) (hf : l[k]? = some f) : PayC g b off n c k f w' := by
  obtain ⟨b', off', e, _, c0, c1⟩ := h.pl.at_ k f hf
  injection e with e
  injection e with e1 e2
  subst e1 e2
  exact ⟨(h.fr.cell 11).trans q, c0, c1⟩
end Go.Proofs.Ytefdhbljcnpggaa
