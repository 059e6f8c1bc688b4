/-
  Layer 2: the document's codes.
-/
import Derived.Test.YtjnjganmdbkpoaaHfEnc
namespace Go.Proofs.Ytjnjganmdbkpoaa
open Go.RowKit

def tblB : ByteArray := ⟨(lensL.map fun n => UInt8.ofNat n).toArray⟩
theorem tblB_size : tblB.size = 256 := by decide +kernel
theorem tblB_get : ∀ k, (h : k < 256) → (tblB[k]'(by rw [tblB_size]; exact h)).toNat = lensL.getD k 0 := by
  intro k h
  rw [← sb_get tblB k (by rw [tblB_size]; exact h), show sb tblB = lensL by decide +kernel]

set_option maxRecDepth 100000 in
theorem rf_length (c : Nat) (hc : c < 256) (w : World) : Calls Try.prog 19 #[.int .i64 (c : Nat)] w fun e w' => e = .returned (.int .i64 (lensL.getD c 0 : Nat)) ∧ w = w' := by
  have hv : Value.int .u8 ((tblB[c]'(by rw [tblB_size]; exact hc)).toNat : Nat) = .int .u8 (lensL.getD c 0 : Nat) := by rw [tblB_get c hc]
  have ⟨l1, l2⟩ := lens_le c hc
  obtain ⟨n, hn⟩ : ∃ n, n = lensL.getD c 0 := ⟨_, rfl⟩
  rw [← hn] at hv l1 l2 ⊢
  have HV := hide hv
  clear hv hn
  go_enter Try.func19, Try.ntmps19
  go_wp2_with (with_reducible refine wpList_index_str rfl 9 _ (.tmp 3) rfl tblB .i64 c (by kernel_rfl) rfl Try.underlying9 (by rw [tblB_size]; exact hc) _ HV.out ?_)
  go_ret
  exact ⟨rfl, rfl⟩

end Go.Proofs.Ytjnjganmdbkpoaa
