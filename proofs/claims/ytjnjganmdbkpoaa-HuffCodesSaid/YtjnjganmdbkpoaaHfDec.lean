/-
  Layer 2: Decode.
-/
import Derived.Test.YtjnjganmdbkpoaaHfOnce
namespace Go.Proofs.Ytjnjganmdbkpoaa
open Go.RowKit

theorem hf_leafByte (c : Nat) (hc : c < 256) (w : World) : Calls Try.prog 25 #[.int .i16 (-(c : Int) - 1)] w fun e w' => e = .returned (.int .u8 (c : Nat)) ∧ w = w' := by
  have hx : bits .xor .i16 (-1) (-(c : Int) - 1) = (c : Int) := by
    have key : ∀ c : Fin 256, bits .xor .i16 (-1) (-(c.val : Int) - 1) = (c.val : Int) := by decide +kernel
    exact key ⟨c, hc⟩
  have hw : (c : Int) % 256 = (c : Int) := by omega
  go_enter Try.func25, Try.ntmps25
  go_wp2
  go_ret
  exact ⟨rfl, rfl⟩

/-- Is the rest only ones, fewer than eight? -/
def fillB (x : Int) (n : Nat) : Bool := n == 0 || (decide (n < 8) && (x.toNat % 2 ^ n == 2 ^ n - 1))

theorem fill_bits : ∀ x : Fin 256, ∀ n : Fin 8, (bits .and .u8 (bits .xor .u8 255 (x.val : Int)) ((2 ^ n.val - 1 : Nat) : Int) == 0) = (x.val % 2 ^ n.val == 2 ^ n.val - 1) := by decide +kernel

set_option maxRecDepth 100000 in
set_option maxHeartbeats 1600000 in
theorem hf_filled (A : Option Addr) (n cap : Nat) (xs : List Int) (k : Nat) (w : World) (hr : RB w A n xs) (hn : (n : Int) ≤ 100000) (hk : (k : Int) ≤ 1000000) (hk0 : 0 < k → 0 < n) :
    Calls Try.prog 26 #[.slice A n cap, .int .i64 (k : Nat)] w fun e w' => e = .returned (.bool (fillB (xs.getD (n - 1) 0) k)) ∧ ∃ m, w' = w.drewN m := by
  by_cases h0 : k = 0
  · subst h0
    go_enter Try.func26, Try.ntmps26
    go_wp2_with fail
    go_quiet (fail)
    go_wp2
    go_ret
    exact ⟨rfl, nq, rfl⟩
  · by_cases h8 : 8 ≤ k
    · have h8' : ¬ (k : Int) < 8 := by omega
      have e1 : ((k : Int) == 0) = false := by simp; omega
      have e2 : decide ((k : Int) < 8) = false := by simp; omega
      have hf : fillB (xs.getD (n - 1) 0) k = false := by
        unfold fillB
        rw [show (k == 0) = false by simp; omega, show decide (k < 8) = false by simp; omega]; rfl
      rw [hf]
      clear hf
      go_enter Try.func26, Try.ntmps26
      go_wp2_with fail
      go_quiet (fail)
      go_wp2
      go_ret
      exact ⟨rfl, nq, rfl⟩
    · have h8' : (k : Int) < 8 := by omega
      have hkn : k < 8 := by omega
      have e1 : ((k : Int) == 0) = false := by simp; omega
      have e2 : decide ((k : Int) < 8) = true := by simp; omega
      have hn0 : 0 < n := hk0 (by omega)
      obtain ⟨b, off, rfl, hbl, hcell⟩ := hr.2.1 hn0
      have hc := hcell (n - 1) (by omega)
      have hx := hr.2.2 (n - 1)
      obtain ⟨x, hxx⟩ : ∃ x : Nat, xs.getD (n - 1) 0 = (x : Int) := ⟨(xs.getD (n - 1) 0).toNat, by omega⟩
      rw [hxx] at hc hx ⊢
      have hx8 : x < 256 := by omega
      have hb := fill_bits ⟨x, hx8⟩ ⟨k, hkn⟩
      have hf : fillB (x : Int) k = (x % 2 ^ k == 2 ^ k - 1) := by
        unfold fillB
        rw [show (k == 0) = false by simp; omega, show decide (k < 8) = true by simp; omega]; simp
      rw [hf, ← hb]
      have hw1 : IntKind.i64.wrap ((n : Int) - 1) = ((n - 1 : Nat) : Int) := by rw [IntKind.wrap_i64]; omega
      have hs1 : (n : Int) - 1 = ((n - 1 : Nat) : Int) := by omega
      have i1 : ((n - 1 : Nat) : Int) < (n : Int) := by omega
      obtain ⟨z, hz⟩ : ∃ z, z = 2 ^ k - 1 := ⟨_, rfl⟩
      have hl : ∀ W, Calls Try.prog 20 #[.int .i64 (k : Nat)] W fun e w' => e = .returned (.int .u8 (z : Nat)) ∧ w' = W := fun W => by rw [hz]; exact (hf_lowest k hkn W).mono fun e w' h => ⟨h.1, h.2.symm⟩
      have HL := hide hl
      have HF := hide hf
      have HB := hide hb
      show Calls _ _ _ _ (fun e w' => e = .returned (.bool (bits .and .u8 (bits .xor .u8 255 (x : Int)) ((2 ^ k - 1 : Nat) : Int) == 0)) ∧ ∃ m, w' = w.drewN m)
      rw [← hz]
      clear hcell hr hl hf hb hz hxx
      obtain ⟨n1, hn1⟩ : ∃ n1, n1 = n - 1 := ⟨_, rfl⟩
      rw [← hn1] at hc hw1 hs1 i1
      clear hn1
      go_enter Try.func26, Try.ntmps26
      go_wp2_with fail
      go_quiet ((go_at_call 20; exact Calls.quiet_of_same (HL.out _)))
      go_wp2
      go_ret
      exact ⟨rfl, nq, rfl⟩

/-- A coder, new or used. -/
def CoderIs (w : World) (g : Nat) : Prop :=
  BlkIs w g 68 (coderA 0 0 0 (.slice none 0 0)) ∨ ∃ T, BlkIs w g 68 (coderA 1 0 1 (.slice (some ⟨T, 0, none⟩) 256 256)) ∧ BlkIs w T 72 (treeA treeL)
/-- What Do leaves. -/
def Done (w : World) (g : Nat) (e : Ending) (w' : World) : Prop :=
  ∃ T, e = .returned (.tuple #[]) ∧ BlkIs w' g 68 (coderA 1 0 1 (.slice (some ⟨T, 0, none⟩) 256 256)) ∧ BlkIs w' T 72 (treeA treeL) ∧ KB (· = g) w w'
theorem hf_do (g : Nat) (w : World) (hg : CoderIs w g) :
    Calls Try.prog 23 #[.pointer (some ⟨g, 0, none⟩), .func (.func 24) #[.pointer (some ⟨g, 0, none⟩)] #[]] w (Done w g) := by
  rcases hg with hg | ⟨T, hg, hT⟩
  · exact (hf_do_first g w hg).mono fun e w' ⟨T, a, b, c, _, d⟩ => ⟨T, a, b, c, d⟩
  · exact (hf_do_done g w 0 1 _ _ hg).mono fun e w' ⟨a, b⟩ => by subst b; exact ⟨T, a, hg, hT, KB.refl _ _⟩

theorem path_len_le : pathL.all (fun x => Nat.ble x.2 29) = true := by decide +kernel
theorem path_len (p : Nat) (hp : p < 256) : (path p).length ≤ 29 := by
  have := path_at path_len_le p hp
  rw [path, bitsOf_len]
  simpa using this

theorem fill_iff {xs A u : List Int} (h : unpackI xs = A ++ u) : fillB (xs.getD (xs.length - 1) 0) u.length = true ↔ ∃ k, k < 8 ∧ u = List.replicate k 1 := by
  obtain ⟨j, hj⟩ : ∃ j, j = u.length := ⟨_, rfl⟩
  rw [← hj]
  have key : 0 < j → j < 8 → u = bitsOf (xs.getD (xs.length - 1) 0).toNat j := by
    intro h0 h8
    have hl := congrArg List.length h
    rw [unpackI_len, List.length_append, ← hj] at hl
    have hn : xs.length - 1 < xs.length := by omega
    rw [unpackI_mid xs _ hn, show xs.length - 1 + 1 = xs.length by omega, List.drop_length, show unpackI ([] : List Int) = [] from rfl, List.append_nil, show (8 : Nat) = (8 - j) + j by omega, bitsOf_add, ← List.append_assoc] at h
    exact (List.append_inj_right' h (by rw [bitsOf_len, hj])).symm
  constructor
  · intro hf
    by_cases h0 : j = 0
    · exact ⟨0, by omega, List.eq_nil_of_length_eq_zero (by omega)⟩
    · unfold fillB at hf
      rw [show (j == 0) = false by simp; omega] at hf
      simp only [Bool.false_or, Bool.and_eq_true, decide_eq_true_eq, beq_iff_eq] at hf
      refine ⟨j, hf.1, ?_⟩
      rw [key (by omega) hf.1, ← bitsOf_mod _ j j (Nat.le_refl _), hf.2, bitsOf_ones]
  · rintro ⟨k, hk, rfl⟩
    rw [List.length_replicate] at hj
    subst hj
    by_cases h0 : j = 0
    · subst h0; rfl
    · have e := key (by omega) hk
      rw [← bitsOf_ones, ← bitsOf_mod (xs.getD (xs.length - 1) 0).toNat j j (Nat.le_refl _)] at e
      have hp : 0 < 2 ^ j := Nat.pow_pos (by omega)
      have := bitsOf_inj _ _ j (by omega) (Nat.mod_lt _ hp) e
      unfold fillB
      rw [← this]
      simp [hk]
end Go.Proofs.Ytjnjganmdbkpoaa
