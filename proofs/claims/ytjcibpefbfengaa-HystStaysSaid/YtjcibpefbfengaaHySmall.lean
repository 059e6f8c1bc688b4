/-
  Layer 22: isFrom, Check: the program's; in, Check, New: the document's.
-/
import Derived.Test.YtjcibpefbfengaaHyMath
import Derived.Test.YtjcibpefbfengaaMem
import Derived.Test.YtjcibpefbfengaaOps
import Derived.Test.YtjcibpefbfengaaRows
import Derived.Test.YtjcibpefbfengaaChecked
import Derived.Lib.MinMax
import Derived.Laws.StructEq
namespace Go.Proofs.Ytjcibpefbfengaa
set_option linter.unusedSimpArgs false
set_option linter.unusedVariables false
open Go.RowKit

theorem hy_size : (Try.prog.info? 24).map (·.size) = some 7 := by kernel_rfl
theorem rh_size : (Try.prog.info? 28).map (·.size) = some 7 := by kernel_rfl

theorem cells7 {w : World} {g : Nat} {t : TypeId} {x : Hy} (h : BlkIs w g t x.cs) : w.cell? ⟨g, 0, none⟩ = some (.int .i64 x.l) ∧ w.cell? ⟨g, 1, none⟩ = some (.int .i64 x.a) ∧ w.cell? ⟨g, 2, none⟩ = some (.int .i64 x.b) ∧ w.cell? ⟨g, 3, none⟩ = some (.int .i64 x.lo) ∧ w.cell? ⟨g, 4, none⟩ = some (.int .i64 x.hi) ∧ w.cell? ⟨g, 5, none⟩ = some (.int .i64 x.q) ∧ w.cell? ⟨g, 6, none⟩ = some (.int .i64 x.c) :=
  ⟨(h.cell 0).trans rfl, (h.cell 1).trans rfl, (h.cell 2).trans rfl, (h.cell 3).trans rfl, (h.cell 4).trans rfl, (h.cell 5).trans rfl, (h.cell 6).trans rfl⟩

theorem hy_isFrom (a n b : Int) (w : World) : Calls Try.prog 14 #[.int .i64 a, .int .i64 n, .int .i64 b] w fun e w' => e = .returned (.bool (inI a n b)) ∧ w = w' := by
  unfold inI
  go_enter Try.func14, Try.ntmps14
  go_wp2
  all_goals
    go_ret
    exact ⟨by simp_all <;> omega, rfl⟩
theorem rh_in (n a b : Int) (w : World) : Calls Try.prog 17 #[.int .i64 n, .int .i64 a, .int .i64 b] w fun e w' => e = .returned (.bool (inI a n b)) ∧ w = w' := by
  unfold inI
  go_enter Try.func17, Try.ntmps17
  go_wp2
  all_goals
    go_ret
    exact ⟨by simp_all <;> omega, rfl⟩
end Go.Proofs.Ytjcibpefbfengaa
