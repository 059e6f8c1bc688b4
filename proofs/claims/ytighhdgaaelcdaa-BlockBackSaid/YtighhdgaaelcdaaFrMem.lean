/-
  Frames as plain data: their cells, and what is loaded of them.
-/
import Derived.Test.YtighhdgaaelcdaaBytes2
namespace Go.Proofs.Ytighhdgaaelcdaa
set_option linter.unusedSimpArgs false
set_option linter.unusedVariables false
open Go.RowKit

/-- A frame, but for its settings. -/
structure Fr where
  ty : Int
  fl : Int
  st : Int
  data : ByteArray
  pad : Int
  dep : Int
  sole : Bool
  wt : Int
  code : Int
  last : Int
  inc : Int
def Fr.zero : Fr := ⟨0, 0, 0, ⟨#[]⟩, 0, 0, false, 0, 0, 0, 0⟩
def Fr.cs (F : Fr) (A : Option Addr) (n c : Nat) : Array Value :=
  #[.int .u8 F.ty, .int .u8 F.fl, .int .i64 F.st, .string F.data, .int .i64 F.pad, .int .i64 F.dep, .bool F.sole, .int .u8 F.wt, .int .u32 F.code, .int .i64 F.last, .int .i64 F.inc, .slice A n c]
theorem Fr.cs_size (F : Fr) (A : Option Addr) (n c : Nat) : (F.cs A n c).size = 12 := rfl
theorem Fr.cs_one (F : Fr) (A : Option Addr) (n c : Nat) : (F.cs A n c).all (·.oneCell') = true := by simp [Fr.cs, Value.oneCell']
theorem Fr.cells_ {w : World} {g : Nat} {t : TypeId} {F : Fr} {A : Option Addr} {n c : Nat} (h : BlkIs w g t (F.cs A n c)) :
    w.cell? ⟨g, 0, none⟩ = some (.int .u8 F.ty) ∧ w.cell? ⟨g, 1, none⟩ = some (.int .u8 F.fl) ∧ w.cell? ⟨g, 2, none⟩ = some (.int .i64 F.st) ∧ w.cell? ⟨g, 3, none⟩ = some (.string F.data) ∧
    w.cell? ⟨g, 4, none⟩ = some (.int .i64 F.pad) ∧ w.cell? ⟨g, 5, none⟩ = some (.int .i64 F.dep) ∧ w.cell? ⟨g, 6, none⟩ = some (.bool F.sole) ∧ w.cell? ⟨g, 7, none⟩ = some (.int .u8 F.wt) ∧
    w.cell? ⟨g, 8, none⟩ = some (.int .u32 F.code) ∧ w.cell? ⟨g, 9, none⟩ = some (.int .i64 F.last) ∧ w.cell? ⟨g, 10, none⟩ = some (.int .i64 F.inc) ∧ w.cell? ⟨g, 11, none⟩ = some (.slice A n c) :=
  ⟨h.cell 0, h.cell 1, h.cell 2, h.cell 3, h.cell 4, h.cell 5, h.cell 6, h.cell 7, h.cell 8, h.cell 9, h.cell 10, h.cell 11⟩

/-- A head's cells. -/
def hdC (l t f s : Int) : Array Value := #[.int .i64 l, .int .u8 t, .int .u8 f, .int .i64 s]
end Go.Proofs.Ytighhdgaaelcdaa
