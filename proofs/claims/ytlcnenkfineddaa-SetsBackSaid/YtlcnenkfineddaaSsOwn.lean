/-
  Layer 12: Own: the program's and the document's.
-/
import Derived.Test.YtlcnenkfineddaaSsSmall
import Derived.Lib.MinMax
import Derived.IntWalk
namespace Go.Proofs.Ytlcnenkfineddaa
set_option linter.unusedSimpArgs false
set_option linter.unusedVariables false
open Go.RowKit

/-- A call that answers a list of settings. -/
def GivesPrs (l : List Pr) (w : World) (e : Ending) (w' : World) : Prop := ∃ A c, e = .returned (.slice A l.length c) ∧ PL w' A l.length c l ∧ Below w.heap.size w w'
/-- A block that is a list of settings. -/
theorem pl_blk {w : World} {g : Nat} {t : TypeId} {l : List Pr} (h : BlkIs w g t (pcs l).toArray) (hm : l.length ≤ maxLen) : PL w (some ⟨g, 0, none⟩) l.length l.length l :=
  ⟨rfl, Nat.le_refl _, hm, (fun e => by cases e), fun k p hp => by
    obtain ⟨q0, q1⟩ := pcs_get l k p hp
    refine ⟨g, 0, rfl, h.lt, ?_, ?_⟩
    · rw [Nat.zero_add, h.cell]; simpa using q0
    · rw [Nat.zero_add, h.cell]; simpa using q1⟩

set_option maxHeartbeats 1600000 in
theorem ss_Own (n : Int) (w : World) : Calls Try.prog 17 #[.int .i64 n] w (GivesPrs (ownS n) w) := by
  obtain ⟨h0, h1⟩ := ownN_bd n
  have HE := hide (show ownN n = min (max n 0) 16 from rfl)
  have HX := hide (show GivesPrs (ownS n) w = GivesPrs [⟨3, ownN n⟩, ⟨6, 1024⟩] w from rfl)
  rw [HX.out]
  generalize ownN n = x at *
  have e1 : IntKind.u32.wrap x = x := IntWalk.u32_in _ (by omega)
  have hm : min (max n 0) 16 = x := HE.out.symm
  have HP := hide (pl_blk (l := [⟨3, x⟩, ⟨6, 1024⟩]) (BlkIs.new w 47 #[.int .u16 3, .int .u32 x, .int .u16 6, .int .u32 1024]) (by unfold maxLen; simp))
  have HB := hide (bel1 w (.cells #[.int .u16 3, .int .u32 x, .int .u16 6, .int .u32 1024] 47))
  go_enter Try.func17, Try.ntmps17
  go_wp2
  go_ret
  exact ⟨_, _, rfl, HP.out, HB.out⟩
set_option maxHeartbeats 1600000 in
theorem rs_Own (n : Int) (w : World) : Calls Try.prog 18 #[.int .i64 n] w (GivesPrs (ownS n) w) := by
  obtain ⟨h0, h1⟩ := ownN_bd n
  have HE := hide (show ownN n = min (max n 0) 16 from rfl)
  have HX := hide (show GivesPrs (ownS n) w = GivesPrs [⟨3, ownN n⟩, ⟨6, 1024⟩] w from rfl)
  rw [HX.out]
  generalize ownN n = x at *
  have e1 : IntKind.u32.wrap x = x := IntWalk.u32_in _ (by omega)
  have hm : min (max n 0) 16 = x := HE.out.symm
  have HP := hide (pl_blk (l := [⟨3, x⟩, ⟨6, 1024⟩]) (BlkIs.new w 47 #[.int .u16 3, .int .u32 x, .int .u16 6, .int .u32 1024]) (by unfold maxLen; simp))
  have HB := hide (bel1 w (.cells #[.int .u16 3, .int .u32 x, .int .u16 6, .int .u32 1024] 47))
  go_enter Try.func18, Try.ntmps18
  go_wp2
  go_ret
  exact ⟨_, _, rfl, HP.out, HB.out⟩
end Go.Proofs.Ytlcnenkfineddaa
