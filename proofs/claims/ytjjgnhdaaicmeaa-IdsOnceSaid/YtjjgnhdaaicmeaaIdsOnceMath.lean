/-
  IdsOnce: what the walk knows of begins and ends (written by gen15once.py).
-/
import Derived.Test.YtjjgnhdaaicmeaaIdAwake
import Derived.Test.YtjjgnhdaaicmeaaAcOpen
namespace Go.Proofs.Ytjjgnhdaaicmeaa.idsOnce
set_option linter.unusedSimpArgs false
set_option linter.unusedVariables false
open Go.RowKit

/-- The state of a round: the table lies in block g, may be, and its last number is small. -/
structure St (w : World) (g : Nat) (wr : World) (L : Int) (op cu : List Int) (A : Option Addr) (n c : Nat) (B : Option Addr) (m d : Nat) : Prop where
  blk : BlkIs wr g 28 #[.int .i64 L, .slice A n c, .slice B m d]
  tl : TL wr ⟨L, op, cu⟩ A n c B m d
  ap : ApT g ⟨L, op, cu⟩ A B
  ok : OkT ⟨L, op, cu⟩
  bd : 0 ≤ L ∧ L ≤ 255
  bel : Below w.heap.size w wr
theorem St.keep {w wr w' : World} {g : Nat} {L : Int} {op cu : List Int} {A : Option Addr} {n c : Nat} {B : Option Addr} {m d : Nat} (h : St w g wr L op cu A n c B m d) (hb : Below wr.heap.size wr w') : St w g w' L op cu A n c B m d :=
  ⟨h.blk.keep hb, h.tl.keep hb, h.ap, h.ok, h.bd, h.bel.trans (hb.mono h.bel.size)⟩
theorem St.n16 {w wr : World} {g : Nat} {L : Int} {op cu : List Int} {A : Option Addr} {n c : Nat} {B : Option Addr} {m d : Nat} (h : St w g wr L op cu A n c B m d) : (n : Int) ≤ 16 := by
  have h1 := h.ok.nop
  have h2 := h.tl.op.len
  simp only at h1 h2
  omega
theorem St.m8 {w wr : World} {g : Nat} {L : Int} {op cu : List Int} {A : Option Addr} {n c : Nat} {B : Option Addr} {m d : Nat} (h : St w g wr L op cu A n c B m d) : (m : Int) ≤ 8 := by
  have h1 := h.ok.ncu
  have h2 := h.tl.cu.len
  simp only at h1 h2
  omega
theorem St.chk {w wr : World} {g : Nat} {L : Int} {op cu : List Int} {A : Option Addr} {n c : Nat} {B : Option Addr} {m d : Nat} (h : St w g wr L op cu A n c B m d) :
    Calls Try.prog 9 #[.agg #[.int .i64 L, .slice A n c, .slice B m d]] wr fun e w' => e = .returned (.int .i64 0) ∧ Below wr.heap.size wr w' := by
  have := id_Check ⟨L, op, cu⟩ A n c B m d wr h.tl (by have := h.n16; omega) (by have := h.m8; omega)
  rwa [chk_ok.2 h.ok] at this
theorem St.cls {w wr : World} {g : Nat} {L : Int} {op cu : List Int} {A : Option Addr} {n c : Nat} {B : Option Addr} {m d : Nat} (h : St w g wr L op cu A n c B m d) (k : Int) {u : Int} (hu : clsI ⟨L, op, cu⟩ k = u) :
    Calls Try.prog 7 #[.agg #[.int .i64 L, .slice A n c, .slice B m d], .int .i64 k] wr fun e w' => e = .returned (.int .i64 u) ∧ Below wr.heap.size wr w' := by
  have := id_Class ⟨L, op, cu⟩ A n c B m d k wr h.tl (by have := h.n16; omega) (by have := h.m8; omega)
  rwa [hu] at this
theorem end_l {T : Tb} {id : Int} {cut : Bool} : (endI T id cut).l = T.l := by unfold endI; split <;> rfl
theorem end_ok {T : Tb} {id : Int} {cut : Bool} (h : OkT T) : OkT (endI T id cut) := by
  by_cases h2 : clsI T id = 2
  · have := end_keeps cut h (cls_inv.2 h2).2.2
    cases cut with
    | true => rw [end_yes (chk_ok.2 h) h2]; exact this
    | false => rw [end_no (chk_ok.2 h) h2]; exact this
  · rw [end_was (.inr h2)]; exact h
/-- The three ways of an end. -/
theorem end_ways {T : Tb} {id : Int} {cut : Bool} (h : OkT T) {u v : Int} (hu : clsI T id = u) (hv : clsI (endI T id cut) id = v) : (u = 2 ∧ cut = true ∧ v = 4) ∨ (u = 2 ∧ cut = false ∧ v = 3) ∨ (¬ u = 2 ∧ v = u) := by
  by_cases h2 : clsI T id = 2
  · have := end_class cut h h2
    cases cut with
    | true => exact .inl ⟨hu.symm.trans h2, rfl, hv.symm.trans this⟩
    | false => exact .inr (.inl ⟨hu.symm.trans h2, rfl, hv.symm.trans this⟩)
  · rw [end_was (.inr h2)] at hv
    exact .inr (.inr ⟨fun e => h2 (hu.trans e), hv.symm.trans hu⟩)
/-- What End answers, in the walk's form. -/
theorem St.end_ {w wr : World} {g : Nat} {L : Int} {op cu : List Int} {A : Option Addr} {n c : Nat} {B : Option Addr} {m d : Nat} (h : St w g wr L op cu A n c B m d) (k : Int) (cut : Bool) (h0 : 0 ≤ k) (h1 : k ≤ 255) {op2 cu2 : List Int} (he : endI ⟨L, op, cu⟩ k cut = ⟨L, op2, cu2⟩) :
    Calls Try.prog 13 #[.agg #[.int .i64 L, .slice A n c, .slice B m d], .int .i64 k, .bool cut] wr fun e w' => (∃ A2 n2 c2 B2 m2 d2, e = .returned (.agg #[.int .i64 L, .slice A2 n2 c2, .slice B2 m2 d2]) ∧ TL w' ⟨L, op2, cu2⟩ A2 n2 c2 B2 m2 d2 ∧ ∀ g, g < wr.heap.size → ApT g ⟨L, op, cu⟩ A B → ApT g ⟨L, op2, cu2⟩ A2 B2) ∧ Below wr.heap.size wr w' := by
  have := id_End ⟨L, op, cu⟩ A n c B m d k cut wr h.tl (by have := h.n16; omega) (by have := h.m8; omega) (wf_small h0 h1)
  rw [he] at this
  exact this.mono fun e w' hh => by
    obtain ⟨A2, n2, c2, B2, m2, d2, rfl, ht, hb, ha⟩ := hh
    exact ⟨⟨A2, n2, c2, B2, m2, d2, rfl, ht, ha⟩, hb⟩
/-- What Begin answers, in the walk's form. -/
theorem St.beg_ {w wr : World} {g : Nat} {L : Int} {op cu : List Int} {A : Option Addr} {n c : Nat} {B : Option Addr} {m d : Nat} (h : St w g wr L op cu A n c B m d) (k : Int) (h0 : 0 ≤ k) (h1 : k ≤ 255) {L2 cd : Int} {op2 cu2 : List Int} (he : begI ⟨L, op, cu⟩ k = (⟨L2, op2, cu2⟩, cd)) :
    Calls Try.prog 14 #[.agg #[.int .i64 L, .slice A n c, .slice B m d], .int .i64 k] wr fun e w' => (∃ A2 n2 c2 B2 m2 d2, e = .returned (.tuple #[.agg #[.int .i64 L2, .slice A2 n2 c2, .slice B2 m2 d2], .int .u32 cd]) ∧ TL w' ⟨L2, op2, cu2⟩ A2 n2 c2 B2 m2 d2 ∧ ∀ g, g < wr.heap.size → ApT g ⟨L, op, cu⟩ A B → ApT g ⟨L2, op2, cu2⟩ A2 B2) ∧ Below wr.heap.size wr w' := by
  have := id_Begin ⟨L, op, cu⟩ A n c B m d k wr h.tl (by have := h.n16; omega) (by have := h.m8; omega) (wf_small h0 h1)
  rw [he] at this
  exact this.mono fun e w' hh => by
    obtain ⟨A2, n2, c2, B2, m2, d2, rfl, ht, hb, ha⟩ := hh
    exact ⟨⟨A2, n2, c2, B2, m2, d2, rfl, ht, ha⟩, hb⟩
/-- The ways of a begin. -/
theorem beg_ways {L k : Int} {op cu : List Int} (h : OkT ⟨L, op, cu⟩) (h0 : 0 ≤ k) (h1 : k ≤ 255) :
    (k % 2 = 1 ∧ L < k ∧ op.length < 16 ∧ begI ⟨L, op, cu⟩ k = (⟨k, op ++ [k], cu⟩, 0) ∧ OkT ⟨k, op ++ [k], cu⟩ ∧ clsI ⟨k, op ++ [k], cu⟩ k = 2) ∨
    ∃ cd, begI ⟨L, op, cu⟩ k = (⟨L, op, cu⟩, cd) ∧ ¬ cd = 0 ∧ (k % 2 = 0 ∨ (k % 2 = 1 ∧ ¬ L < k) ∨ (k % 2 = 1 ∧ L < k ∧ ¬ op.length < 16)) := by
  have hck := chk_ok.2 h
  by_cases ho : k % 2 = 1
  · have hod : oddB k = true := oddB_yes.2 ⟨by omega, by omega, ho⟩
    by_cases hl : L < k
    · have hcl : clsI ⟨L, op, cu⟩ k = 1 := cls_1 hod hl
      by_cases hn : op.length < 16
      · exact .inl ⟨ho, hl, hn, beg_0 hck hcl (by show op.length ≠ 16; omega), beg_keeps h hod hl hn, beg_class (T := ⟨L, op, cu⟩) hod⟩
      · have hno := h.nop
        simp only at hno
        exact .inr ⟨11, beg_11 hck hcl (by show op.length = 16; omega), by decide, .inr (.inr ⟨ho, hl, hn⟩)⟩
    · refine .inr ⟨1, beg_1 hck (fun e => hl (cls_inv.1 e).2), by decide, .inr (.inl ⟨ho, hl⟩)⟩
  · refine .inr ⟨1, beg_1 hck (fun e => ho (oddB_yes.1 (cls_inv.1 e).1).2.2), by decide, .inl (by omega)⟩
end Go.Proofs.Ytjjgnhdaaicmeaa.idsOnce
