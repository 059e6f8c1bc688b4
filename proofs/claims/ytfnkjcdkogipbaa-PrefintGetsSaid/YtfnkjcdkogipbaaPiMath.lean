/-
  Plain numbers and lists for layer 1 (prefint): the groups of seven bits behind a prefix, without a walk.
-/
namespace Go.Proofs.Ytfnkjcdkogipbaa

/-- What is left, in groups of seven bits, the lowest first. -/
def grp (n : Nat) : List Int := if n < 128 then [(n : Int)] else (128 + n % 128 : Int) :: grp (n / 128)
termination_by n
decreasing_by omega

theorem grp_low {n : Nat} (h : n < 128) : grp n = [(n : Int)] := by rw [grp, if_pos h]
theorem grp_high {n : Nat} (h : 128 ≤ n) : grp n = (128 + n % 128 : Int) :: grp (n / 128) := by rw [grp, if_neg (by omega)]

/-- How many groups. -/
def cnt (n : Nat) : Nat := if n < 128 then 1 else 1 + cnt (n / 128)
termination_by n
decreasing_by omega

theorem cnt_low {n : Nat} (h : n < 128) : cnt n = 1 := by rw [cnt, if_pos h]
theorem cnt_high {n : Nat} (h : 128 ≤ n) : cnt n = 1 + cnt (n / 128) := by rw [cnt, if_neg (by omega)]

theorem cnt_pos (n : Nat) : 1 ≤ cnt n := by
  by_cases h : n < 128
  · rw [cnt_low h]; omega
  · rw [cnt_high (by omega)]; omega

theorem grp_len (n : Nat) : (grp n).length = cnt n := by
  induction n using Nat.strongRecOn with
  | ind n ih =>
    by_cases h : n < 128
    · rw [grp_low h, cnt_low h]; rfl
    · rw [grp_high (by omega), cnt_high (by omega), List.length_cons, ih (n / 128) (by omega)]; omega

theorem cnt_mono {a b : Nat} (h : a ≤ b) : cnt a ≤ cnt b := by
  induction b using Nat.strongRecOn generalizing a with
  | ind b ih =>
    by_cases ha : a < 128
    · rw [cnt_low ha]; exact cnt_pos b
    · rw [cnt_high (by omega), cnt_high (n := b) (by omega)]
      have := ih (b / 128) (by omega) (a := a / 128) (by omega)
      omega

/-- The groups of what is left behind the first one: a nought needs none. -/
def cntZ (n : Nat) : Nat := if n = 0 then 0 else cnt n
theorem cntZ_zero : cntZ 0 = 0 := rfl
theorem cnt_cntZ (n : Nat) : 1 + cntZ (n / 128) = cnt n := by
  by_cases h : n < 128
  · rw [cnt_low h, show n / 128 = 0 by omega, cntZ_zero]
  · rw [cnt_high (by omega), cntZ, if_neg (by omega)]
theorem cntZ_pos {n : Nat} (h : 0 < n) : cntZ n = 1 + cntZ (n / 128) := by rw [cnt_cntZ, cntZ, if_neg (by omega)]

/-- Below 2^28 there are at most four groups. -/
theorem cnt_le {n : Nat} (h : n < 268435456) : cnt n ≤ 4 := by
  by_cases h1 : n < 128
  · rw [cnt_low h1]; omega
  rw [cnt_high (by omega)]
  by_cases h2 : n / 128 < 128
  · rw [cnt_low h2]; omega
  rw [cnt_high (by omega)]
  by_cases h3 : n / 128 / 128 < 128
  · rw [cnt_low h3]; omega
  rw [cnt_high (by omega)]
  rw [cnt_low (by omega)]
  omega

/-- The bytes of a number behind a first byte's other bits. -/
def low (bits : Nat) : Nat := 2 ^ bits - 1

def putL (rest : Nat) (bits n : Nat) : List Int :=
  if n < 2 ^ bits - 1 then [((rest + n : Nat) : Int)] else ((rest + (2 ^ bits - 1) : Nat) : Int) :: grp (n - (2 ^ bits - 1))

def sizeN (bits n : Nat) : Nat := if n < 2 ^ bits - 1 then 1 else 1 + cnt (n - (2 ^ bits - 1))

theorem putL_len (rest bits n : Nat) : (putL rest bits n).length = sizeN bits n := by
  unfold putL sizeN
  split
  · rfl
  · rw [List.length_cons, grp_len]; omega

theorem sizeN_mono {k a b : Nat} (h : a ≤ b) : sizeN k a ≤ sizeN k b := by
  unfold sizeN
  by_cases hb : b < 2 ^ k - 1
  · rw [if_pos hb, if_pos (by omega)]; omega
  · rw [if_neg hb]
    by_cases ha : a < 2 ^ k - 1
    · rw [if_pos ha]; omega
    · rw [if_neg ha]
      have := cnt_mono (a := a - (2 ^ k - 1)) (b := b - (2 ^ k - 1)) (by omega)
      omega
theorem sizeN_wide (k x : Nat) : sizeN (k + 1) x ≤ sizeN k x := by
  have h2 : 2 ^ (k + 1) = 2 ^ k * 2 := Nat.pow_succ 2 k
  unfold sizeN
  by_cases ha : x < 2 ^ (k + 1) - 1
  · rw [if_pos ha]; split <;> omega
  · rw [if_neg ha, if_neg (by omega)]
    have := cnt_mono (a := x - (2 ^ (k + 1) - 1)) (b := x - (2 ^ k - 1)) (by omega)
    omega
theorem sizeN_one (x : Nat) : sizeN 8 x = 1 ↔ x < 255 := by
  unfold sizeN
  by_cases ha : x < 2 ^ 8 - 1
  · rw [if_pos ha]; simp at ha ⊢; omega
  · rw [if_neg ha]
    have := cnt_pos (x - (2 ^ 8 - 1))
    simp at ha
    constructor
    · intro h; omega
    · intro h; omega
theorem sizeN_le {k x : Nat} (h : x < 268435456) : sizeN k x ≤ 5 := by
  unfold sizeN
  split
  · omega
  · have := cnt_le (n := x - (2 ^ k - 1)) (by omega); omega

/-- The groups behind a first byte, read one by one: what is left, how many groups, an error. -/
def gg (xs : List Int) : Nat → Nat → Int → Int × Int × Int
  | 0, _, _ => (0, 0, 8)
  | f + 1, i, left =>
    if xs.length ≤ i then (0, 0, 3)
    else if xs.getD i 0 < 128 then (left + xs.getD i 0 % 128 * 2 ^ (i * 7), (i : Int) + 1, 0)
    else gg xs f (i + 1) (left + xs.getD i 0 % 128 * 2 ^ (i * 7))

theorem gg_cut {xs : List Int} {f i : Nat} {l : Int} (h : xs.length ≤ i) : gg xs (f + 1) i l = (0, 0, 3) := by rw [gg, if_pos h]
theorem gg_end {xs : List Int} {f i : Nat} {l : Int} (h : ¬ xs.length ≤ i) (h1 : xs.getD i 0 < 128) : gg xs (f + 1) i l = (l + xs.getD i 0 % 128 * 2 ^ (i * 7), (i : Int) + 1, 0) := by rw [gg, if_neg h, if_pos h1]
theorem gg_more {xs : List Int} {f i : Nat} {l : Int} (h : ¬ xs.length ≤ i) (h1 : ¬ xs.getD i 0 < 128) : gg xs (f + 1) i l = gg xs f (i + 1) (l + xs.getD i 0 % 128 * 2 ^ (i * 7)) := by rw [gg, if_neg h, if_neg h1]

theorem grow_bd (y l : Int) (k : Nat) (h0 : 0 ≤ y) (h1 : y < 128) (hl0 : 0 ≤ l) (hl : l < 2 ^ (k * 7)) :
    0 ≤ y * 2 ^ (k * 7) ∧ y * 2 ^ (k * 7) ≤ 127 * 2 ^ (k * 7) ∧ l + y * 2 ^ (k * 7) < 2 ^ ((k + 1) * 7) := by
  have hp : (0 : Int) < 2 ^ (k * 7) := Int.pow_pos (by omega)
  have a := Int.mul_nonneg h0 (Int.le_of_lt hp)
  have b := Int.mul_le_mul_of_nonneg_right (show y ≤ 127 by omega) (Int.le_of_lt hp)
  have e : (2 : Int) ^ ((k + 1) * 7) = 128 * 2 ^ (k * 7) := by
    rw [Nat.add_mul, Int.pow_add, Int.mul_comm]; rfl
  exact ⟨a, b, by rw [e]; omega⟩

theorem pow7_le (k : Nat) (h : k ≤ 5) : (2 : Int) ^ (k * 7) ≤ 34359738368 := by
  have h1 : 2 ^ (k * 7) ≤ 2 ^ 35 := Nat.pow_le_pow_right (by omega) (by omega)
  have e : ((2 ^ (k * 7) : Nat) : Int) = (2 : Int) ^ (k * 7) := by simp
  omega

theorem gg_bd (xs : List Int) (f i : Nat) (l : Int) (hi : f + i = 5) (h0 : 0 ≤ l) (h1 : l < 2 ^ (i * 7)) :
    0 ≤ (gg xs f i l).1 ∧ (gg xs f i l).1 < 34359738368 ∧ 0 ≤ (gg xs f i l).2.1 ∧ (gg xs f i l).2.1 ≤ 5 ∧ ((gg xs f i l).2.2 = 0 ∨ (gg xs f i l).2.2 = 3 ∨ (gg xs f i l).2.2 = 8) := by
  induction f generalizing i l with
  | zero => exact ⟨by simp [gg], by simp [gg], by simp [gg], by simp [gg], by simp [gg]⟩
  | succ f ih =>
    by_cases hc : xs.length ≤ i
    · rw [gg_cut hc]; simp
    · have hm := grow_bd (xs.getD i 0 % 128) l i (by omega) (by omega) h0 h1
      have hp := pow7_le (i + 1) (by omega)
      by_cases hy : xs.getD i 0 < 128
      · rw [gg_end hc hy]
        exact ⟨by show 0 ≤ l + _; omega, by show l + _ < _; omega, by show 0 ≤ (i : Int) + 1; omega, by show (i : Int) + 1 ≤ 5; omega, .inl rfl⟩
      · rw [gg_more hc hy]
        exact ih (i + 1) _ (by omega) (by omega) hm.2.2

/-- What Get answers, behind the groups. -/
def getT (ones : Int) (g : Int × Int × Int) : Int × Int × Int :=
  if g.2.2 = 0 then (if 268435455 < ones + g.1 then (0, 0, 8) else (ones + g.1, 1 + g.2.1, 0)) else (0, 0, g.2.2)

/-- What Get answers. -/
def getI (xs : List Int) (k : Nat) : Int × Int × Int :=
  if xs.length = 0 then (0, 0, 3)
  else if xs.getD 0 0 % 2 ^ k < 2 ^ k - 1 then (xs.getD 0 0 % 2 ^ k, 1, 0)
  else getT (2 ^ k - 1) (gg xs.tail 5 0 0)

theorem getI_nil {xs : List Int} {k : Nat} (h : xs.length = 0) : getI xs k = (0, 0, 3) := by rw [getI, if_pos h]
theorem getI_low {xs : List Int} {k : Nat} (h : ¬ xs.length = 0) (h1 : xs.getD 0 0 % 2 ^ k < 2 ^ k - 1) : getI xs k = (xs.getD 0 0 % 2 ^ k, 1, 0) := by rw [getI, if_neg h, if_pos h1]
theorem getI_high {xs : List Int} {k : Nat} (h : ¬ xs.length = 0) (h1 : ¬ xs.getD 0 0 % 2 ^ k < 2 ^ k - 1) : getI xs k = getT (2 ^ k - 1) (gg xs.tail 5 0 0) := by rw [getI, if_neg h, if_neg h1]
theorem getT_err {o L S E : Int} (h : ¬ E = 0) : getT o (L, S, E) = (0, 0, E) := by rw [getT, if_neg h]
theorem getT_great {o L S : Int} (h : 268435455 < o + L) : getT o (L, S, 0) = (0, 0, 8) := by rw [getT, if_pos rfl, if_pos h]
theorem getT_right {o L S : Int} (h : ¬ 268435455 < o + L) : getT o (L, S, 0) = (o + L, 1 + S, 0) := by rw [getT, if_pos rfl, if_neg h]

end Go.Proofs.Ytfnkjcdkogipbaa
