/-
  Layer 18: the table of the library's that the rows list stands as strconv.Itoa's contract asks.
-/
import Derived.Test.YtdnopjopdklelaaDoorRows
import Derived.Test.YtdnopjopdklelaaDoorLbItoa
import Derived.Lib.LaidTab
import Derived.LaidMore
import Derived.Lay
import Derived.Stop.Joined
import Derived.Stop.LaidErr
import Derived.ProofKit
namespace Go.Proofs.YtdnopjopdklelaaDoor
open Go.RowKit

theorem tab_is : Rows.laid_internal_strconv_uint64pow10 (H := Unit) = Lib.tabData .u64 Lib.pow10Tab := by kernel_rfl

set_option maxRecDepth 100000 in
theorem tab_of_laid {W : World} (h : laidMetH Tryd.prog Rows.responseFieldsRow.laid W) : TabOk W := by
  rw [MakeChecks.laidMetH_plain _ _ _ (by kernel_rfl)] at h
  obtain ⟨x0, x1, nm, r, e, hn⟩ : ∃ x0 x1 nm r, Rows.responseFieldsRow.laid = x0 :: x1 :: (nm, Rows.laid_internal_strconv_uint64pow10) :: r ∧ ((Tryd.prog.globals[(0 : Nat)]?.map (·.name)).getD default) = nm := ⟨_, _, _, _, rfl, by kernel_rfl⟩
  rw [e, tab_is] at h
  have hg : Tryd.prog.globalNamed nm = some 0 := by rw [← hn]; kernel_rfl
  have hL := h.tail.tail
  have hty : (Tryd.prog.globals[(0 : Nat)]?).map (·.type) = some 75 := by kernel_rfl
  have := Lib.tabIs_of_head hg hty Tryd.underlying75 Tryd.underlying68 (by kernel_rfl) (by kernel_rfl) hL
  unfold TabOk
  rw [hn]
  exact this
end Go.Proofs.YtdnopjopdklelaaDoor
