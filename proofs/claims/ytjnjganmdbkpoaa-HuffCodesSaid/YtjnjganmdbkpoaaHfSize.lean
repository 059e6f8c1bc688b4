/-
  Layer 2: Size, and small functions.
-/
import Derived.Test.YtjnjganmdbkpoaaHfCode
namespace Go.Proofs.Ytjnjganmdbkpoaa
open Go.RowKit

/-- A text's bytes as numbers. -/
def sb (s : ByteArray) : List Nat := s.data.toList.map UInt8.toNat
theorem sb_len (s : ByteArray) : (sb s).length = s.size := by simp [sb]
theorem sb_get (s : ByteArray) (k : Nat) (h : k < s.size) : (sb s).getD k 0 = s[k].toNat := by
  have h' : k < s.data.toList.length := by simpa using h
  simp only [sb, List.getD, List.getElem?_map, List.getElem?_eq_getElem h']
  rfl
theorem sb_lt (s : ByteArray) : ∀ c ∈ sb s, c < 256 := by
  intro c hc
  obtain ⟨x, _, rfl⟩ := List.mem_map.1 hc
  exact x.toNat_lt

def sumL (l : List Nat) : Nat := (l.map fun c => lensL.getD c 0).sum
theorem sumL_snoc (l : List Nat) (c : Nat) : sumL (l ++ [c]) = sumL l + lensL.getD c 0 := by simp [sumL]
theorem take_snoc' (l : List Nat) (k : Nat) (h : k < l.length) : l.take (k + 1) = l.take k ++ [l.getD k 0] := by
  rw [List.take_succ_eq_append_getElem h, List.getD, List.getElem?_eq_getElem h]; rfl
theorem sumL_le (l : List Nat) (h : ∀ c ∈ l, c < 256) : sumL l ≤ 30 * l.length := by
  induction l with
  | nil => simp [sumL]
  | cons c l ih =>
    have h1 := (lens_le c (h c (by simp))).2
    have h2 := ih (fun x hx => h x (by simp [hx]))
    simp only [sumL, List.map_cons, List.sum_cons, List.length_cons] at *
    omega

theorem hf_lowest (n : Nat) (hn : n < 8) (w : World) : Calls Try.prog 20 #[.int .i64 (n : Nat)] w fun e w' => e = .returned (.int .u8 ((2 ^ n - 1 : Nat) : Int)) ∧ w = w' := by
  go_enter Try.func20, Try.ntmps20
  go_wp2
  go_ret
  refine ⟨?_, rfl⟩
  have : (2 ^ n % 256 - 1) % 256 = (((2 ^ n - 1 : Nat)) : Int) := by
    match n, hn with
    | 0, _ | 1, _ | 2, _ | 3, _ | 4, _ | 5, _ | 6, _ | 7, _ => decide
  rw [this]
  rfl

set_option maxRecDepth 100000 in
set_option maxHeartbeats 400000 in
theorem hf_Size (s : ByteArray) (hs : s.size ≤ 1000) (w : World) :
    Calls Try.prog 12 #[.string s] w fun e w' => e = .returned (.int .i64 (((sumL (sb s) + 7) / 8 : Nat) : Int)) ∧ Below w.heap.size w w' := by
  have hz := run_zero_is hf_zero_lens
  go_enter Try.func12, Try.ntmps12
  go_wp2_with fail
  refine (hf_lengths _).mono ?_
  rintro e w1 ⟨rfl, hb1⟩
  have HB1 := hide hb1
  clear hb1
  go_wp2_with (first
    | (with_reducible refine wpList_store_new rfl 50 _ _ rfl lensV lensZ 50 rfl rfl hf_size_lens rfl lensV_one ?_))
  have K1 := hide (BlkIs.new w1 50 lensV)
  have HB2 := hide (HB1.out.alloc HB1.out.size (.cells lensV 50))
  generalize (w1.alloc (.cells lensV 50)) = w2 at K1 HB2 ⊢
  obtain ⟨g, hg⟩ : ∃ g, g = w1.heap.size := ⟨_, rfl⟩
  rw [← hg] at K1 ⊢
  clear HB1 hg hz
  go_loop [4, 5, 9] (fun t x i => ∃ k : Nat, k ≤ s.size ∧ i = .int .i64 (k : Int) ∧ t = .int .i64 ((sumL ((sb s).take k) : Nat) : Int)) (fun _ _ i => s.size - (intOf i).toNat)
  case atStart => exact ⟨0, by omega, rfl, rfl⟩
  case round =>
    obtain ⟨k, hk, rfl, rfl⟩ := hrel
    have hle := sumL_le ((sb s).take k) (fun c hc => sb_lt s c (List.mem_of_mem_take hc))
    rw [List.length_take, sb_len] at hle
    by_cases hlt : k < s.size
    · have hlt' : (k : Int) < (s.size : Int) := by omega
      have hsn := sumL_snoc ((sb s).take k) ((sb s).getD k 0)
      rw [← take_snoc' _ _ (by rw [sb_len]; exact hlt), sb_get s k hlt] at hsn
      have hc := s[k].toNat_lt
      have hcell : w2.cell? ⟨g, s[k].toNat, none⟩ = some (.int .u8 (lensL.getD s[k].toNat 0 : Nat)) := by
        rw [K1.out.cell, lensV, u8v_get _ _ (by rw [lensL_len]; exact hc)]
      have ⟨l1, l2⟩ := lens_le _ hc
      obtain ⟨n, hn⟩ : ∃ n, n = lensL.getD s[k].toNat 0 := ⟨_, rfl⟩
      rw [← hn] at hcell l1 l2 hsn
      obtain ⟨q, hq⟩ : ∃ q, q = sumL ((sb s).take k) := ⟨_, rfl⟩
      rw [← hq] at hle hsn ⊢
      have HSN := hide hsn
      have HQ := hide hq
      clear hsn hn hq
      go_wp2
      go_round
      case rel => exact ⟨k + 1, by omega, by go_num, by rw [HSN.out]; go_num⟩
      case measure => simp [intOf]; omega
    · have hge : ¬ (k : Int) < (s.size : Int) := by omega
      have HT := hide (show (sb s).take k = sb s from List.take_of_length_le (by rw [sb_len]; omega))
      obtain ⟨q, hq⟩ : ∃ q, q = sumL ((sb s).take k) := ⟨_, rfl⟩
      rw [← hq] at hle ⊢
      have HQ := hide hq
      clear hq
      go_wp2
      go_ret
      exact ⟨ret_num (a := ((q : Int) + 8 - 1) / 8) (by have := HQ.out; rw [HT.out] at this; omega), HB2.out⟩
end Go.Proofs.Ytjnjganmdbkpoaa
