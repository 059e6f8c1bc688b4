/-
  Layer 9: the program's small functions.
-/
import Derived.Test.YtighhdgaaelcdaaFrMath
import Derived.Test.YtighhdgaaelcdaaFhHas
namespace Go.Proofs.Ytighhdgaaelcdaa
set_option linter.unusedSimpArgs false
set_option linter.unusedVariables false
open Go.RowKit

theorem sh_size : (Try.prog.info? 65).map (·.size) = some 7 := by kernel_rfl

theorem beqI (a b : Int) : (a == b) = decide (a = b) := by by_cases h : a = b <;> simp [h]
theorem bneI (a b : Int) : (a != b) = !decide (a = b) := by by_cases h : a = b <;> simp [h]

section
variable {fn : Func} {p q : Tmp} (tmps : Array Value) (w : World)
theorem results_hd1 (h : fn.results = #[.cell p 68]) (g : Nat) (a b c d : Value) (hp : tmps.getD p undef = .pointer (some ⟨g, 0, none⟩)) (hg : BlkIs w g 68 #[a, b, c, d]) :
    (results fn tmps).run Try.prog w = .ok (.agg #[a, b, c, d]) w := results_cell_blk h tmps w g _ _ _ hp hg Try.underlying68 rfl hd_size
theorem results_sh1 (h : fn.results = #[.cell p 65]) (g : Nat) (a b c d x y z : Value) (hp : tmps.getD p undef = .pointer (some ⟨g, 0, none⟩)) (hg : BlkIs w g 65 #[a, b, c, d, x, y, z]) :
    (results fn tmps).run Try.prog w = .ok (.agg #[a, b, c, d, x, y, z]) w := results_cell_blk h tmps w g _ _ _ hp hg Try.underlying65 rfl sh_size
end
theorem blk_two {w : World} {t t' : TypeId} {cs cs' : Array Value} : BlkIs ((w.alloc (.cells cs t)).alloc (.cells cs' t')) (w.heap.size + 1) t' cs' := by
  have := BlkIs.new (w.alloc (.cells cs t)) t' cs'
  simpa using this
theorem below_two {w : World} {o o' : Obj} : Below w.heap.size w ((w.alloc o).alloc o') := ((Below.refl _ _).alloc (Nat.le_refl _) _).alloc (by simp) _

set_option maxHeartbeats 400000 in
theorem fr_head (F : Fr) (A : Option Addr) (n c : Nat) (w : World) :
    Calls Try.prog 26 #[.agg (F.cs A n c)] w fun e w' => e = .returned (.agg #[.int .i64 0, .int .u8 F.ty, .int .u8 F.fl, .int .i64 F.st]) ∧ Below w.heap.size w w' := by
  have q0 : (F.cs A n c)[0]? = some (.int .u8 F.ty) := rfl
  have q1 : (F.cs A n c)[1]? = some (.int .u8 F.fl) := rfl
  have q2 : (F.cs A n c)[2]? = some (.int .i64 F.st) := rfl
  generalize F.cs A n c = cs at *
  go_enter Try.func26, Try.ntmps26
  go_wp2
  exact bodyPost_ret (results_hd1 _ _ rfl (w.heap.size + 1) _ _ _ _ rfl blk_two) rfl ⟨rfl, below_two⟩
end Go.Proofs.Ytighhdgaaelcdaa
