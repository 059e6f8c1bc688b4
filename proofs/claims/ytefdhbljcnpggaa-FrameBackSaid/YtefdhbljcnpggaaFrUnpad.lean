/-
  Layer 9: a payload parted from its padding (unpad).
-/
import Derived.Test.YtefdhbljcnpggaaFrNum
namespace Go.Proofs.Ytefdhbljcnpggaa
open Go.RowKit

theorem unpad_nil (w : World) : Calls Try.prog 24 #[.string ⟨#[]⟩] w fun e w' => e = .returned (.tuple #[.int .i64 0, .string ⟨#[]⟩, .int .u32 6]) ∧ Below w.heap.size w w' := by
  go_enter Try.func24, Try.ntmps24
  go_wp2
  exact bodyPost_ret (v := .tuple #[.int .i64 0, .string ⟨#[]⟩, .int .u32 6]) (by simp [results, Try.results24, go_sem]) rfl ⟨rfl, Below.refl _ _⟩

set_option maxRecDepth 100000 in
set_option maxHeartbeats 800000 in
theorem unpad_bad (s : ByteArray) (h0 : 0 < s.size) (hs : (s.size : Int) ≤ 2000000) (hb : (s.size : Int) - 1 < (bts s).getD 0 0) (w : World) :
    Calls Try.prog 24 #[.string s] w fun e w' => e = .returned (.tuple #[.int .i64 0, .string ⟨#[]⟩, .int .u32 1]) ∧ Below w.heap.size w w' := by
  rw [bts_get s 0 h0] at hb
  obtain ⟨hq0, hq1⟩ := byte_bd s[0]
  have hne : s.toList.isEmpty = false := by rw [is_empty]; exact decide_eq_false (by omega)
  have h1 : (1 : Int) ≤ (s.size : Int) := by omega
  go_enter Try.func24, Try.ntmps24
  go_wp2
  go_quiet (fail)
  go_wp2
  exact bodyPost_ret (v := .tuple #[.int .i64 0, .string ⟨#[]⟩, .int .u32 1]) (by simp [results, Try.results24, go_sem]) rfl ⟨rfl, below_drewN (Below.refl _ _) _⟩

/-- What unpad leaves of a payload that may be. -/
def Unpads (s : ByteArray) (w : World) (e : Ending) (w' : World) : Prop :=
  ∃ t, e = .returned (.tuple #[.int .i64 ((bts s).getD 0 0), .string t, .int .u32 0]) ∧ bts t = ((bts s).drop 1).take (s.size - 1 - ((bts s).getD 0 0).toNat) ∧ Below w.heap.size w w'

set_option maxRecDepth 100000 in
set_option maxHeartbeats 800000 in
theorem unpad_ok (s : ByteArray) (h0 : 0 < s.size) (hs : (s.size : Int) ≤ 2000000) (hb : (bts s).getD 0 0 ≤ (s.size : Int) - 1) (w : World) :
    Calls Try.prog 24 #[.string s] w (Unpads s w) := by
  have HG := hide (bts_get s 0 h0)
  rw [bts_get s 0 h0] at hb
  obtain ⟨hq0, hq1⟩ := byte_bd s[0]
  have hne : s.toList.isEmpty = false := by rw [is_empty]; exact decide_eq_false (by omega)
  have h1 : (1 : Int) ≤ (s.size : Int) := by omega
  have hnn : ¬ (s.size - 1 < s[0].toNat) := by omega
  go_enter Try.func24, Try.ntmps24
  go_wp2
  go_quiet (fail)
  go_wp2_with fail
  obtain ⟨D, hD⟩ : ∃ D : Nat, D = s.size - 1 - s[0].toNat := ⟨_, rfl⟩
  have e1 : IntKind.i64.wrap (((s.size - 1 : Nat) : Int) - (s[0].toNat : Int)) = (D : Int) := by rw [IntWalk.i64_in _ (by omega)]; omega
  have e2 : (D : Int) ≤ ((s.size - 1 : Nat) : Int) := by omega
  have HD := hide hD
  clear hD
  go_quiet (fail)
  clear e1 e2
  go_wp2_with fail
  refine bodyPost_ret (v := .tuple #[.int .i64 (s[0].toNat : Int), .string ((s.extract 1 s.size).extract 0 D), .int .u32 0]) (by simp [results, Try.results24, go_sem]) rfl ⟨_, by rw [HG.out], ?_, below_drewN (below_drewN (Below.refl _ _) _) _⟩
  rw [bts_extract, bts_drop, HG.out, HD.out]
  simp
end Go.Proofs.Ytefdhbljcnpggaa
