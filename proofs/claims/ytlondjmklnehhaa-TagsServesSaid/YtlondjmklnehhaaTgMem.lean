/-
  Layer 25: lists of tags in memory, of both packages.
-/
import Derived.Test.YtlondjmklnehhaaTgMath
import Derived.Test.YtlondjmklnehhaaShape
import Derived.Test.YtlondjmklnehhaaRows
import Derived.Test.YtlondjmklnehhaaChecked
namespace Go.Proofs.Ytlondjmklnehhaa
set_option linter.unusedSimpArgs false
set_option linter.unusedVariables false
open Go.RowKit

/-- How a tag lies. -/
def tgF : Shp Tg := ⟨4, fun t => [.int .i64 t.w, .int .i64 t.s, .int .i64 t.f, .int .i64 t.k], fun t => rfl, fun t u h => by
  simp only [List.mem_cons, List.not_mem_nil, or_false] at h
  rcases h with rfl | rfl | rfl | rfl <;> rfl, by decide⟩
theorem isTg : IsS Try.prog tgF 47 24 := ⟨Try.underlying47, by kernel_rfl, .agg #[.int .i64 0, .int .i64 0, .int .i64 0, .int .i64 0], 32, by kernel_rfl, rfl, by decide⟩
section
variable {w w' : World} {A : Option Addr} {n c : Nat} {l : List Tg}
theorem tg_round (h : SL tgF w A n c l) {i : Nat} (hi : i < n) : ∃ x b off, gtT l i = x ∧ A = some ⟨b, off, none⟩ ∧ b < w.heap.size ∧ w.cell? ⟨b, off + i * 4, none⟩ = some (.int .i64 x.w) ∧ w.cell? ⟨b, off + i * 4 + 1, none⟩ = some (.int .i64 x.s) ∧ w.cell? ⟨b, off + i * 4 + 2, none⟩ = some (.int .i64 x.f) ∧ w.cell? ⟨b, off + i * 4 + 3, none⟩ = some (.int .i64 x.k) := by
  obtain ⟨x, b, off, hx, hA, hb, hc⟩ := h.round hi
  exact ⟨x, b, off, gtT_some hx, hA, hb, hc 0 _ rfl, hc 1 _ rfl, hc 2 _ rfl, hc 3 _ rfl⟩
theorem tg_new1 {g : Nat} {t : TypeId} {x : Tg} (h : BlkIs w g t #[.int .i64 x.w, .int .i64 x.s, .int .i64 x.f, .int .i64 x.k]) : SL tgF w (some ⟨g, 0, none⟩) 1 1 [x] := sl_new1 (F := tgF) (x := x) h
theorem tg_own1 {g B : Nat} {t : TypeId} {x : Tg} (h : BlkIs w g t #[.int .i64 x.w, .int .i64 x.s, .int .i64 x.f, .int .i64 x.k]) (hB : B ≤ g) : w.ownsRow B t 4 (.slice (some ⟨g, 0, none⟩) 1 1) 1 (flc tgF [x]) :=
  ⟨rfl, .inr ⟨g, 1, _, rfl, hB, h, Nat.le_refl _, by unfold maxLen; omega, rfl, rfl⟩⟩
end
/-- One tag is stored into a row of the call's own. -/
theorem tg_elem {w : World} {B n c g : Nat} {e : TypeId} {l : List Tg} (h : w.ownsRow B e 4 (.slice (some ⟨g, 0, none⟩) n c) n (flc tgF l)) (i : Nat) (hi : i < n) (x : Tg) :
    ((((w.setCell ⟨g, i * 4, none⟩ (.int .i64 x.w)).setCell ⟨g, i * 4 + 1, none⟩ (.int .i64 x.s)).setCell ⟨g, i * 4 + 2, none⟩ (.int .i64 x.f)).setCell ⟨g, i * 4 + 3, none⟩ (.int .i64 x.k)).ownsRow B e 4 (.slice (some ⟨g, 0, none⟩) n c) n (flc tgF (l.set i x)) := own_elem (F := tgF) h i hi x
theorem tg_cells {w : World} {B n c g : Nat} {e : TypeId} {l : List Tg} (h : w.ownsRow B e 4 (.slice (some ⟨g, 0, none⟩) n c) n (flc tgF l)) {i : Nat} (hi : i < n) {x : Tg} (hx : gtT l i = x) :
    w.cell? ⟨g, i * 4, none⟩ = some (.int .i64 x.w) ∧ w.cell? ⟨g, i * 4 + 1, none⟩ = some (.int .i64 x.s) ∧ w.cell? ⟨g, i * 4 + 2, none⟩ = some (.int .i64 x.f) ∧ w.cell? ⟨g, i * 4 + 3, none⟩ = some (.int .i64 x.k) := by
  obtain ⟨y, b, off, hy, hA, hb, c0, c1, c2, c3⟩ := tg_round (SL.of_own (F := tgF) h) hi
  injection hA with e
  injection e with e1 e2
  subst e1 e2
  obtain rfl : x = y := hx.symm.trans hy
  simp only [Nat.zero_add] at c0 c1 c2 c3
  exact ⟨c0, c1, c2, c3⟩
theorem kb_tag {S : Nat → Prop} {a w : World} (h : KB S a w) {g : Nat} (hg : g < a.heap.size → S g) (i j k m : Nat) (p q r s : Value) : KB S a ((((w.setCell ⟨g, i, none⟩ p).setCell ⟨g, j, none⟩ q).setCell ⟨g, k, none⟩ r).setCell ⟨g, m, none⟩ s) :=
  (((h.setCell (p := ⟨g, i, none⟩) hg p).setCell (p := ⟨g, j, none⟩) hg q).setCell (p := ⟨g, k, none⟩) hg r).setCell (p := ⟨g, m, none⟩) hg s
theorem kb_belowT {B g : Nat} {a w w' : World} (h : Below B a w) (hg : B ≤ g) (hk : KB (· = g) w w') (hB : B ≤ w.heap.size) : Below B a w' :=
  ⟨hk.os.trans h.os, hk.tape.trans h.tape, hk.output.trans h.output, Nat.le_trans h.size hk.size, fun i hi => (hk.block i (by omega) (by omega)).trans (h.block i hi)⟩
end Go.Proofs.Ytlondjmklnehhaa
