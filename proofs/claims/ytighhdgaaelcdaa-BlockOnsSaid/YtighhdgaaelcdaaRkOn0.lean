/-
  Layer 11: On (the document's).
-/
import Derived.Test.YtighhdgaaelcdaaBkOn0
import Derived.BigGuardPart
namespace Go.Proofs.Ytighhdgaaelcdaa
set_option linter.unusedSimpArgs false
set_option linter.unusedVariables false
open Go.RowKit

/-- What the document's On knows of memory. -/
structure OnN (B : Nat) (w0 w : World) (g : Nat) (s : Int) (d : ByteArray) (e : Bool) (cs : Array Value) : Prop where
  on : OnS B 23 27 23 w0 w g s d e cs
  nn : BlkIs w (g + 4) 23 #[.int .i64 0, .string ⟨#[]⟩, .bool false]
section
variable {B : Nat} {w0 w w' : World} {g : Nat} {s : Int} {d : ByteArray} {e : Bool} {cs : Array Value}
theorem OnN.keep (h : OnN B w0 w g s d e cs) (hb : Below w.heap.size w w') (hB : w0.heap.size = B) : OnN B w0 w' g s d e cs := ⟨h.on.keep hb hB, h.nn.keep hb⟩
theorem OnN.alloc (h : OnN B w0 w g s d e cs) (hB : w0.heap.size = B) (o : Obj) : OnN B w0 (w.alloc o) g s d e cs := ⟨h.on.alloc hB o, h.nn.alloc o⟩
theorem OnN.far (h : OnN B w0 w g s d e cs) {p : Addr} (hp : g + 4 < p.block) (u : Value) : OnN B w0 (w.setCell p u) g s d e cs := by
  have hl := h.on.le
  exact ⟨⟨h.on.st.far (by omega) u, h.on.fr.far (by omega) u, h.on.r4.far (by omega) u, h.on.r5.far (by omega) u, h.on.bl.setCell (by omega) u, hl⟩, h.nn.far (by omega) u⟩
theorem OnN.start (w : World) (s : Int) (d : ByteArray) (e : Bool) (cs : Array Value) :
    OnN w.heap.size w (((((w.alloc (.cells #[.int .i64 s, .string d, .bool e] 23)).alloc (.cells cs 27)).alloc (.cells #[.int .i64 0, .string ⟨#[]⟩, .bool false] 23)).alloc (.cells #[.int .i64 0, .string ⟨#[]⟩, .bool false] 23)).alloc (.cells #[.int .i64 0, .string ⟨#[]⟩, .bool false] 23)) w.heap.size s d e cs := by
  have h := OnS.start w 23 27 23 s d e cs
  refine ⟨h.alloc rfl _, ?_⟩
  have := BlkIs.new ((((w.alloc (.cells #[.int .i64 s, .string d, .bool e] 23)).alloc (.cells cs 27)).alloc (.cells #[.int .i64 0, .string ⟨#[]⟩, .bool false] 23)).alloc (.cells #[.int .i64 0, .string ⟨#[]⟩, .bool false] 23)) 23 #[.int .i64 0, .string ⟨#[]⟩, .bool false]
  simpa using this
/-- What the pairs' regions ask. -/
theorem OnN.r4s (h : OnN B w0 w g s d e cs) : (w.cell? ⟨g + 2, 0, none⟩ = some (.int .i64 0) ∧ w.cell? ⟨g + 2, 1, none⟩ = some (.string ⟨#[]⟩) ∧ w.cell? ⟨g + 2, 2, none⟩ = some (.bool false)) ∧ w.frozen? ⟨g + 2, 0, none⟩ = false ∧ w.frozen? ⟨g + 2, 1, none⟩ = false ∧ w.frozen? ⟨g + 2, 2, none⟩ = false :=
  ⟨bk_cells h.on.r4, h.on.r4.frozen 0, h.on.r4.frozen 1, h.on.r4.frozen 2⟩
theorem OnN.r5s (h : OnN B w0 w g s d e cs) : (w.cell? ⟨g + 3, 0, none⟩ = some (.int .i64 0) ∧ w.cell? ⟨g + 3, 1, none⟩ = some (.string ⟨#[]⟩) ∧ w.cell? ⟨g + 3, 2, none⟩ = some (.bool false)) ∧ w.frozen? ⟨g + 3, 0, none⟩ = false ∧ w.frozen? ⟨g + 3, 1, none⟩ = false ∧ w.frozen? ⟨g + 3, 2, none⟩ = false :=
  ⟨bk_cells h.on.r5, h.on.r5.frozen 0, h.on.r5.frozen 1, h.on.r5.frozen 2⟩
end
theorem bk_size9 : (Try.prog.info? 23).map (·.size) = some 3 := rs_size
end Go.Proofs.Ytighhdgaaelcdaa
