/-
  Layer 1: what is put is got: on lists alone.
-/
import Derived.Test.YtfnkjcdkogipbaaPiAwake
namespace Go.Proofs.Ytfnkjcdkogipbaa

theorem getD_mid (P R : List Int) (x : Int) : (P ++ x :: R).getD P.length 0 = x := by simp [List.getD]

theorem gg_grp (q : Nat) : ∀ (f : Nat) (P ts : List Int) (l : Int), cnt q ≤ f → gg (P ++ (grp q ++ ts)) f P.length l = (l + q * 2 ^ (P.length * 7), (P.length : Int) + cnt q, 0) := by
  induction q using Nat.strongRecOn with
  | ind q ih =>
    intro f P ts l hf
    have hp := cnt_pos q
    obtain ⟨f, rfl⟩ : ∃ g, f = g + 1 := ⟨f - 1, by omega⟩
    by_cases h : q < 128
    · rw [grp_low h, cnt_low h]
      show gg (P ++ ((q : Int) :: ts)) _ _ _ = _
      rw [gg_end (by simp) (by rw [getD_mid]; omega), getD_mid, show (q : Int) % 128 = q by omega]
      rfl
    · rw [cnt_high (by omega)] at hf
      rw [grp_high (by omega), cnt_high (by omega)]
      show gg (P ++ ((128 + (q : Int) % 128) :: (grp (q / 128) ++ ts))) _ _ _ = _
      rw [gg_more (by simp) (by rw [getD_mid]; omega), getD_mid, show (128 + (q : Int) % 128) % 128 = (q : Int) % 128 by omega]
      have := ih (q / 128) (by omega) f (P ++ [128 + (q : Int) % 128]) ts (l + (q : Int) % 128 * 2 ^ (P.length * 7)) (by omega)
      simp only [List.append_assoc, List.length_append, List.length_cons, List.length_nil, List.cons_append, List.nil_append] at this
      rw [this]
      have e : (2 : Int) ^ ((P.length + (0 + 1)) * 7) = 128 * 2 ^ (P.length * 7) := by rw [Nat.zero_add, Nat.add_mul, Int.pow_add, Int.mul_comm]; rfl
      have e2 : ((q / 128 : Nat) : Int) * (128 * 2 ^ (P.length * 7)) = ((q / 128 : Nat) : Int) * 128 * 2 ^ (P.length * 7) := by rw [Int.mul_assoc]
      have e3 : (q : Int) % 128 * 2 ^ (P.length * 7) + ((q / 128 : Nat) : Int) * 128 * 2 ^ (P.length * 7) = (q : Int) * 2 ^ (P.length * 7) := by
        rw [← Int.add_mul]; congr 1; omega
      rw [e, e2, Int.add_assoc, e3]
      congr 2
      omega

theorem gg_grp_cut (q : Nat) : ∀ (f : Nat) (P : List Int) (l : Int), cnt q ≤ f → gg (P ++ (grp q).take (cnt q - 1)) f P.length l = (0, 0, 3) := by
  induction q using Nat.strongRecOn with
  | ind q ih =>
    intro f P l hf
    have hp := cnt_pos q
    obtain ⟨f, rfl⟩ : ∃ g, f = g + 1 := ⟨f - 1, by omega⟩
    by_cases h : q < 128
    · rw [grp_low h, cnt_low h]
      exact gg_cut (by simp)
    · have hp' := cnt_pos (q / 128)
      rw [cnt_high (by omega)] at hf
      rw [grp_high (by omega), cnt_high (by omega), show 1 + cnt (q / 128) - 1 = (cnt (q / 128) - 1) + 1 by omega, List.take_succ_cons]
      rw [gg_more (by simp) (by rw [getD_mid]; omega), getD_mid]
      have := ih (q / 128) (by omega) f (P ++ [128 + (q : Int) % 128]) (l + (128 + (q : Int) % 128) % 128 * 2 ^ (P.length * 7)) (by omega)
      simp only [List.append_assoc, List.length_append, List.length_cons, List.length_nil, List.cons_append, List.nil_append] at this
      exact this

theorem first_mod (c : Int) (h0 : 0 ≤ c) (h1 : c ≤ 255) (k : Nat) (h2 : k ≤ 8) (n : Int) (h3 : 0 ≤ n) (h4 : n < 2 ^ k) : (restN c k + n) % 2 ^ k = n := by
  obtain ⟨_, _, r3, _⟩ := restN_bd c h0 h1 k h2
  rw [Int.add_emod, r3, Int.zero_add, Int.emod_emod, Int.emod_eq_of_lt h3 h4]

/-- The other bits of a first byte that was put are as they were. -/
theorem rest_first (c : Int) (h0 : 0 ≤ c) (h1 : c ≤ 255) (k : Nat) (h2 : k ≤ 8) (n : Int) (h3 : 0 ≤ n) (h4 : n < 2 ^ k) : restN (restN c k + n) k = restN c k := by
  have hp : (2 : Int) ^ k ≠ 0 := by have := (restN_bd 0 (by omega) (by omega) k h2).1; have := Int.pow_pos (n := 2) (m := k) (by omega); omega
  have e : restN c k + n = c / 2 ^ k * 2 ^ k + n := rfl
  show (restN c k + n) / 2 ^ k * 2 ^ k = c / 2 ^ k * 2 ^ k
  rw [e, Int.add_comm, Int.add_mul_ediv_right _ _ hp, Int.ediv_eq_zero_of_lt h3 h4, Int.zero_add]

theorem getI_putI (c : Int) (h0 : 0 ≤ c) (h1 : c ≤ 255) (k n : Nat) (hk8 : k ≤ 8) (hn : n < 268435456) (ts : List Int) :
    getI (putI c k n ++ ts) k = ((n : Int), (sizeN k n : Int), 0) := by
  have ⟨b1, b2⟩ := pow_bd k hk8
  have e1 := nat_pow_int k
  by_cases hlow : n < 2 ^ k - 1
  · rw [putI_low hlow, show sizeN k n = 1 from if_pos hlow]
    have hm := first_mod c h0 h1 k hk8 n (by omega) (by omega)
    rw [getI_low (by simp) (by show (restN c k + n) % 2 ^ k < _; rw [hm]; omega)]
    show ((restN c k + n) % 2 ^ k, _, _) = _
    rw [hm]; rfl
  · rw [putI_high hlow, show sizeN k n = 1 + cnt (n - (2 ^ k - 1)) from if_neg hlow]
    have hm := first_mod c h0 h1 k hk8 (2 ^ k - 1) (by omega) (by omega)
    rw [getI_high (by simp) (by show ¬ (restN c k + (2 ^ k - 1)) % 2 ^ k < _; rw [hm]; omega)]
    have hc := cnt_le (n := n - (2 ^ k - 1)) (by omega)
    have := gg_grp (n - (2 ^ k - 1)) 5 [] ts 0 (by omega)
    simp only [List.nil_append, List.length_nil, Nat.zero_mul, Int.pow_zero, Int.mul_one, Int.zero_add, Int.natCast_zero] at this
    show getT _ (gg (grp (n - (2 ^ k - 1)) ++ ts) 5 0 0) = _
    rw [show gg (grp (n - (2 ^ k - 1)) ++ ts) 5 0 0 = (((n - (2 ^ k - 1) : Nat) : Int), (cnt (n - (2 ^ k - 1)) : Int), 0) by simpa using this, getT_right (by omega), show (2 : Int) ^ k - 1 + ((n - (2 ^ k - 1) : Nat) : Int) = n by omega]
    congr 2

theorem getI_cut (c : Int) (h0 : 0 ≤ c) (h1 : c ≤ 255) (k n : Nat) (hk8 : k ≤ 8) (hn : n < 268435456) :
    getI ((putI c k n).take (sizeN k n - 1)) k = (0, 0, 3) := by
  have ⟨b1, b2⟩ := pow_bd k hk8
  have e1 := nat_pow_int k
  by_cases hlow : n < 2 ^ k - 1
  · rw [putI_low hlow, show sizeN k n = 1 from if_pos hlow]
    exact getI_nil rfl
  · rw [putI_high hlow, show sizeN k n = 1 + cnt (n - (2 ^ k - 1)) from if_neg hlow]
    have hm := first_mod c h0 h1 k hk8 (2 ^ k - 1) (by omega) (by omega)
    have hc := cnt_le (n := n - (2 ^ k - 1)) (by omega)
    have hp := cnt_pos (n - (2 ^ k - 1))
    rw [show 1 + cnt (n - (2 ^ k - 1)) - 1 = (cnt (n - (2 ^ k - 1)) - 1) + 1 by omega]
    show getI ((restN c k + (2 ^ k - 1)) :: (grp (n - (2 ^ k - 1))).take (cnt (n - (2 ^ k - 1)) - 1)) k = _
    rw [getI_high (by simp) (by show ¬ (restN c k + (2 ^ k - 1)) % 2 ^ k < _; rw [hm]; omega)]
    have := gg_grp_cut (n - (2 ^ k - 1)) 5 [] 0 (by omega)
    show getT _ (gg ((grp (n - (2 ^ k - 1))).take (cnt (n - (2 ^ k - 1)) - 1)) 5 0 0) = _
    rw [show gg ((grp (n - (2 ^ k - 1))).take (cnt (n - (2 ^ k - 1)) - 1)) 5 0 0 = (0, 0, 3) from this]
    exact getT_err (by omega)

theorem sizeN_pos (k n : Nat) : 1 ≤ sizeN k n := by unfold sizeN; split <;> omega

/-- The first byte. -/
theorem putI_first (c : Int) (h0 : 0 ≤ c) (h1 : c ≤ 255) (k n : Nat) (hk8 : k ≤ 8) : restN ((putI c k n).getD 0 0) k = restN c k ∧ 0 ≤ (putI c k n).getD 0 0 ∧ (putI c k n).getD 0 0 ≤ 255 := by
  have ⟨b1, b2⟩ := pow_bd k hk8
  have e1 := nat_pow_int k
  have ⟨r1, r2, r3, r4⟩ := restN_bd c h0 h1 k hk8
  by_cases hlow : n < 2 ^ k - 1
  · rw [putI_low hlow]
    exact ⟨rest_first c h0 h1 k hk8 n (by omega) (by omega), by show 0 ≤ restN c k + (n : Int); omega, by show restN c k + (n : Int) ≤ 255; omega⟩
  · rw [putI_high hlow]
    exact ⟨rest_first c h0 h1 k hk8 (2 ^ k - 1) (by omega) (by omega), by show 0 ≤ restN c k + ((2 : Int) ^ k - 1); omega, by show restN c k + ((2 : Int) ^ k - 1) ≤ 255; omega⟩

theorem grp_bytes (q : Nat) : ∀ x ∈ grp q, 0 ≤ x ∧ x ≤ 255 := by
  induction q using Nat.strongRecOn with
  | ind q ih =>
    by_cases h : q < 128
    · rw [grp_low h]; intro x hx; simp at hx; omega
    · rw [grp_high (by omega)]
      intro x hx
      rcases List.mem_cons.1 hx with rfl | hx
      · omega
      · exact ih _ (by omega) x hx

theorem putI_bytes (c : Int) (h0 : 0 ≤ c) (h1 : c ≤ 255) (k n : Nat) (hk8 : k ≤ 8) : ∀ x ∈ putI c k n, 0 ≤ x ∧ x ≤ 255 := by
  have ⟨b1, b2⟩ := pow_bd k hk8
  have e1 := nat_pow_int k
  have ⟨r1, r2, r3, r4⟩ := restN_bd c h0 h1 k hk8
  intro x hx
  by_cases hlow : n < 2 ^ k - 1
  · rw [putI_low hlow] at hx; simp at hx; omega
  · rw [putI_high hlow] at hx
    rcases List.mem_append.1 hx with hx | hx
    · simp at hx; omega
    · exact grp_bytes _ x hx

end Go.Proofs.Ytfnkjcdkogipbaa
