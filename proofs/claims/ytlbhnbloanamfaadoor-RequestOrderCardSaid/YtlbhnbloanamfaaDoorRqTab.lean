/-
  Layer 17: the table of the library's that the rows list stands as strconv.Itoa's contract asks.
-/
import Derived.Test.YtlbhnbloanamfaaDoorRows
import Derived.Test.YtlbhnbloanamfaaDoorLbItoa
import Derived.Lib.LaidTab
import Derived.LaidMore
import Derived.Lay
import Derived.Stop.Joined
import Derived.Stop.LaidErr
import Derived.ProofKit
namespace Go.Proofs.YtlbhnbloanamfaaDoor
open Go.RowKit

theorem tab_is : Rows.laid_internal_strconv_uint64pow10 (H := Unit) = Lib.tabData .u64 Lib.pow10Tab := by kernel_rfl

set_option maxRecDepth 100000 in
theorem tab_of_laid {W : World} (h : laidMetH Tryd.prog Rows.requestTextsRow.laid W) : TabOk W := by
  rw [MakeChecks.laidMetH_plain _ _ _ (by kernel_rfl)] at h
  obtain ⟨x0, x1, nm, r, e, hn⟩ : ∃ x0 x1 nm r, Rows.requestTextsRow.laid = x0 :: x1 :: (nm, Rows.laid_internal_strconv_uint64pow10) :: r ∧ ((Tryd.prog.globals[(1 : Nat)]?.map (·.name)).getD default) = nm := ⟨_, _, _, _, rfl, by kernel_rfl⟩
  rw [e, tab_is] at h
  have hg : Tryd.prog.globalNamed nm = some 1 := by rw [← hn]; kernel_rfl
  have hL := h.tail.tail
  have hty : (Tryd.prog.globals[(1 : Nat)]?).map (·.type) = some 99 := by kernel_rfl
  have := Lib.tabIs_of_head hg hty Tryd.underlying99 Tryd.underlying85 (by kernel_rfl) (by kernel_rfl) hL
  unfold TabOk
  rw [hn]
  exact this
end Go.Proofs.YtlbhnbloanamfaaDoor
