/-
  Layer 2: bits, texts' bits: plain mathematics.
-/
import Derived.Test.YtjnjganmdbkpoaaHfSize
namespace Go.Proofs.Ytjnjganmdbkpoaa

/-- The lowest n bits of a number, the highest first. -/
def bitsOf : Nat → Nat → List Int
  | _, 0 => []
  | v, n + 1 => bitsOf (v / 2) n ++ [((v % 2 : Nat) : Int)]
theorem bitsOf_len (v n : Nat) : (bitsOf v n).length = n := by
  induction n generalizing v with
  | zero => rfl
  | succ n ih => simp [bitsOf, ih]
theorem bitsOf_add (a b v : Nat) : bitsOf v (a + b) = bitsOf (v / 2 ^ b) a ++ bitsOf v b := by
  induction b generalizing v with
  | zero => simp [bitsOf]
  | succ b ih =>
    rw [← Nat.add_assoc, bitsOf, ih, bitsOf, List.append_assoc, Nat.div_div_eq_div_mul, Nat.pow_succ, Nat.mul_comm 2]
theorem bitsOf_mod (v n m : Nat) (h : n ≤ m) : bitsOf (v % 2 ^ m) n = bitsOf v n := by
  induction n generalizing v m with
  | zero => rfl
  | succ n ih =>
    obtain ⟨m, rfl⟩ : ∃ k, m = k + 1 := ⟨m - 1, by omega⟩
    have e1 : v % 2 ^ (m + 1) / 2 = (v / 2) % 2 ^ m := by rw [Nat.pow_succ, Nat.mod_mul_left_div_self]
    have e2 : v % 2 ^ (m + 1) % 2 = v % 2 := Nat.mod_mod_of_dvd _ ⟨2 ^ m, by rw [Nat.pow_succ, Nat.mul_comm]⟩
    rw [bitsOf, bitsOf, e1, e2, ih _ _ (by omega)]
theorem bitsOf_inj (v u n : Nat) (hv : v < 2 ^ n) (hu : u < 2 ^ n) (h : bitsOf v n = bitsOf u n) : v = u := by
  induction n generalizing v u with
  | zero => simp at hv hu; omega
  | succ n ih =>
    rw [bitsOf, bitsOf] at h
    have hl : (bitsOf (v / 2) n).length = (bitsOf (u / 2) n).length := by rw [bitsOf_len, bitsOf_len]
    obtain ⟨h1, h2⟩ := List.append_inj h hl
    have := ih (v / 2) (u / 2) (by rw [Nat.pow_succ] at hv; omega) (by rw [Nat.pow_succ] at hu; omega) h1
    have h3 : ((v % 2 : Nat) : Int) = ((u % 2 : Nat) : Int) := by simpa using h2
    omega
theorem bitsOf_ones (n : Nat) : bitsOf (2 ^ n - 1) n = List.replicate n 1 := by
  induction n with
  | zero => rfl
  | succ n ih =>
    have hp : 0 < 2 ^ n := Nat.pow_pos (by omega)
    rw [bitsOf, show (2 ^ (n + 1) - 1) / 2 = 2 ^ n - 1 by rw [Nat.pow_succ]; omega, ih, show (2 ^ (n + 1) - 1) % 2 = 1 by rw [Nat.pow_succ]; omega, List.replicate_succ']
    rfl
theorem bitsOf_join (v x a b m : Nat) (hx : x < 2 ^ b) (hm : a + b ≤ m) : bitsOf ((v * 2 ^ b + x) % 2 ^ m) (a + b) = bitsOf v a ++ bitsOf x b := by
  have hp : 0 < 2 ^ b := Nat.pow_pos (by omega)
  rw [bitsOf_mod _ _ _ hm, bitsOf_add, Nat.mul_comm v, Nat.mul_add_div hp, Nat.div_eq_of_lt hx, Nat.add_zero]
  congr 1
  rw [← bitsOf_mod _ b b (Nat.le_refl _), Nat.mul_add_mod, bitsOf_mod _ b b (Nat.le_refl _)]
theorem bitsOf_two (v n : Nat) : ∀ b ∈ bitsOf v n, b = 0 ∨ b = 1 := by
  induction n generalizing v with
  | zero => simp [bitsOf]
  | succ n ih =>
    intro b hb
    rw [bitsOf, List.mem_append] at hb
    rcases hb with hb | hb
    · exact ih _ b hb
    · simp at hb; omega

/-- A byte's code, a text's bits, bytes as bits. -/
def cd (c : Nat) : List Int := bitsOf (bitsL.getD c 0) (lensL.getD c 0)
def tb (l : List Nat) : List Int := l.flatMap cd
def unpackI (b : List Int) : List Int := b.flatMap fun x => bitsOf x.toNat 8
theorem cd_len (c : Nat) : (cd c).length = lensL.getD c 0 := bitsOf_len _ _
theorem tb_cons (c : Nat) (l : List Nat) : tb (c :: l) = cd c ++ tb l := rfl
theorem tb_snoc (l : List Nat) (c : Nat) : tb (l ++ [c]) = tb l ++ cd c := by simp [tb]
theorem tb_len (l : List Nat) : (tb l).length = sumL l := by
  induction l with
  | nil => rfl
  | cons c l ih => rw [tb_cons, List.length_append, cd_len, ih]; rfl
theorem unpackI_snoc (b : List Int) (x : Int) : unpackI (b ++ [x]) = unpackI b ++ bitsOf x.toNat 8 := by simp [unpackI]
theorem unpackI_len (b : List Int) : (unpackI b).length = 8 * b.length := by
  induction b with
  | nil => rfl
  | cons x b ih => rw [unpackI, List.flatMap_cons, List.length_append, bitsOf_len]; rw [unpackI] at ih; rw [ih, List.length_cons]; omega
theorem unpackI_inj (a b : List Int) (ha : ∀ x ∈ a, 0 ≤ x ∧ x ≤ 255) (hb : ∀ x ∈ b, 0 ≤ x ∧ x ≤ 255) (h : unpackI a = unpackI b) : a = b := by
  induction a generalizing b with
  | nil =>
    have := congrArg List.length h
    rw [unpackI_len, unpackI_len] at this
    exact (List.eq_nil_of_length_eq_zero (by simp at this; omega)).symm
  | cons x a ih =>
    match b with
    | [] =>
      have := congrArg List.length h
      rw [unpackI_len, unpackI_len] at this
      simp at this
    | y :: b =>
      have h' : bitsOf x.toNat 8 ++ unpackI a = bitsOf y.toNat 8 ++ unpackI b := h
      obtain ⟨h1, h2⟩ := List.append_inj h' (by rw [bitsOf_len, bitsOf_len])
      have hx := ha x (by simp)
      have hy := hb y (by simp)
      have := bitsOf_inj x.toNat y.toNat 8 (by omega) (by omega) h1
      have e : x = y := by omega
      rw [e, ih b (fun z hz => ha z (by simp [hz])) (fun z hz => hb z (by simp [hz])) h2]

/-- These bytes are the text's bits, with ones behind up to a whole byte. -/
def IsEnc (l : List Nat) (b : List Int) : Prop := (∀ x ∈ b, 0 ≤ x ∧ x ≤ 255) ∧ ∃ k, k < 8 ∧ unpackI b = tb l ++ List.replicate k 1
theorem IsEnc.len {l : List Nat} {b : List Int} (h : IsEnc l b) : b.length = (sumL l + 7) / 8 := by
  obtain ⟨_, k, hk, e⟩ := h
  have := congrArg List.length e
  rw [unpackI_len, List.length_append, tb_len, List.length_replicate] at this
  omega
theorem IsEnc.one {l : List Nat} {a b : List Int} (h : IsEnc l a) (h' : IsEnc l b) : a = b := by
  have l1 := h.len
  have l2 := h'.len
  obtain ⟨ha, k, hk, e⟩ := h
  obtain ⟨hb, k', hk', e'⟩ := h'
  have m1 := congrArg List.length e
  have m2 := congrArg List.length e'
  rw [unpackI_len, List.length_append, List.length_replicate] at m1 m2
  obtain rfl : k = k' := by omega
  exact unpackI_inj _ _ ha hb (e.trans e'.symm)

/-- No byte's code stands at the beginning. -/
def NoCode (u : List Int) : Prop := ∀ c, c < 256 → ¬ cd c <+: u

theorem pref_num (x n v m : Nat) (hx : x < 2 ^ n) (hv : v < 2 ^ m) (h : bitsOf x n <+: bitsOf v m) : n ≤ m ∧ v / 2 ^ (m - n) = x := by
  have hl := h.length_le
  rw [bitsOf_len, bitsOf_len] at hl
  refine ⟨hl, ?_⟩
  obtain ⟨t, ht⟩ := h
  rw [show m = n + (m - n) by omega, bitsOf_add] at ht
  have := (List.append_inj ht (by rw [bitsOf_len, bitsOf_len])).1
  refine (bitsOf_inj _ _ n hx ?_ this).symm
  rw [Nat.div_lt_iff_lt_mul (Nat.pow_pos (by omega)), ← Nat.pow_add, show n + (m - n) = m by omega]
  exact hv

end Go.Proofs.Ytjnjganmdbkpoaa
