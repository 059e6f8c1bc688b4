/-
  PrefintGrows: its walk: for every two numbers and every bits the Go text returns true, and leaves what was there as it was.
-/
import Derived.Test.YtfnkjcdkogipbaaPiAwake
import Derived.OpenShut
namespace Go.Proofs.Ytfnkjcdkogipbaa.prefintGrows
open Go.RowKit Go.ChangeShapes

/-- The numbers, the least and the greatest of them told apart. -/
theorem walk_at (a0 a1 a2 : Int) (x y k lo hi : Nat) (w : World) (hx : a0 % 268435456 = x) (hy : a1 % 268435456 = y) (hk : a2 % 7 + 1 = k) (h0 : 0 ≤ a0) (h1 : 0 ≤ a1) (h2 : 0 ≤ a2) (h0' : a0 ≤ 4294967295) (h1' : a1 ≤ 4294967295) (h2' : a2 ≤ 255)
    (hlo : lo = min x y) (hhi : hi = max x y) :
    Calls Try.prog 6 #[.int .u32 a0, .int .u32 a1, .int .u8 a2] w fun e w' => e = .returned (.bool true) ∧ Below w.heap.size w w' := by
  have hxb : x < 268435456 := by omega
  have hyb : y < 268435456 := by omega
  have hkb : 1 ≤ k ∧ k ≤ 7 := by omega
  have hk' : 1 + a2 % 7 = (k : Int) := by omega
  have m1 : (sizeN k lo : Int) ≤ (sizeN k hi : Int) := by
    have := sizeN_mono (k := k) (a := lo) (b := hi) (by omega); omega
  have m2 : (sizeN (k + 1) x : Int) ≤ (sizeN k x : Int) := by
    have := sizeN_wide k x; omega
  have m3 : (((sizeN 8 x : Int) == 1) == decide ((x : Int) < 255)) = true := by
    have := sizeN_one x
    by_cases h : x < 255
    · rw [this.2 h, decide_eq_true (by omega)]; rfl
    · rw [decide_eq_false (by omega)]
      have h' : ¬ sizeN 8 x = 1 := fun e => h (this.1 e)
      simp; omega
  have S1 := fun w => pi_Size k lo (by omega) (by omega) (by omega) w
  have S2 := fun w => pi_Size k hi (by omega) (by omega) (by omega) w
  have S3 := fun w => pi_Size (k + 1) x (by omega) (by omega) (by omega) w
  have S4 := fun w => pi_Size k x (by omega) (by omega) (by omega) w
  have S5 := fun w => pi_Size 8 x (by omega) (by omega) (by omega) w
  rw [show ((k + 1 : Nat) : Int) = (k : Int) + 1 by omega] at S3
  have H1 := hide S1
  have H2 := hide S2
  have H3 := hide S3
  have H4 := hide S4
  have H5 := hide S5
  clear S1 S2 S3 S4 S5 hk
  rcases Nat.lt_trichotomy x y with hxy | hxy | hxy
  · obtain rfl : lo = x := by omega
    obtain rfl : hi = y := by omega
    have hxy' : (lo : Int) < (hi : Int) := by omega
    clear hlo hhi hxy
    go_enter Try.func6, Try.ntmps6
    go_wp2_with fail
    refine (H1.out _).mono ?_
    rintro e w' ⟨rfl, rfl⟩
    go_wp2_with fail
    refine (H2.out _).mono ?_
    rintro e w' ⟨rfl, rfl⟩
    go_wp2_with fail
    refine (H3.out _).mono ?_
    rintro e w' ⟨rfl, rfl⟩
    go_wp2_with fail
    refine (H4.out _).mono ?_
    rintro e w' ⟨rfl, rfl⟩
    go_wp2_with fail
    refine (H5.out _).mono ?_
    rintro e w' ⟨rfl, rfl⟩
    go_wp2_with fail
    refine (aw_awake _).mono ?_
    rintro e w4 ⟨rfl, hb4⟩
    have HB4 := hide hb4
    clear hb4
    go_wp2_with fail
    go_ret
    exact ⟨rfl, HB4.out⟩
  · subst hxy
    obtain rfl : lo = x := by omega
    obtain rfl : hi = lo := by omega
    clear hlo hhi
    go_enter Try.func6, Try.ntmps6
    go_wp2_with fail
    refine (H1.out _).mono ?_
    rintro e w' ⟨rfl, rfl⟩
    go_wp2_with fail
    refine (H2.out _).mono ?_
    rintro e w' ⟨rfl, rfl⟩
    go_wp2_with fail
    refine (H3.out _).mono ?_
    rintro e w' ⟨rfl, rfl⟩
    go_wp2_with fail
    refine (H4.out _).mono ?_
    rintro e w' ⟨rfl, rfl⟩
    go_wp2_with fail
    refine (H5.out _).mono ?_
    rintro e w' ⟨rfl, rfl⟩
    go_wp2_with fail
    refine (aw_awake _).mono ?_
    rintro e w4 ⟨rfl, hb4⟩
    have HB4 := hide hb4
    clear hb4
    go_wp2_with fail
    go_ret
    exact ⟨rfl, HB4.out⟩
  · obtain rfl : lo = y := by omega
    obtain rfl : hi = x := by omega
    have hxy' : (lo : Int) < (hi : Int) := by omega
    clear hlo hhi hxy
    go_enter Try.func6, Try.ntmps6
    go_wp2_with fail
    refine (H1.out _).mono ?_
    rintro e w' ⟨rfl, rfl⟩
    go_wp2_with fail
    refine (H2.out _).mono ?_
    rintro e w' ⟨rfl, rfl⟩
    go_wp2_with fail
    refine (H3.out _).mono ?_
    rintro e w' ⟨rfl, rfl⟩
    go_wp2_with fail
    refine (H4.out _).mono ?_
    rintro e w' ⟨rfl, rfl⟩
    go_wp2_with fail
    refine (H5.out _).mono ?_
    rintro e w' ⟨rfl, rfl⟩
    go_wp2_with fail
    refine (aw_awake _).mono ?_
    rintro e w4 ⟨rfl, hb4⟩
    have HB4 := hide hb4
    clear hb4
    go_wp2_with fail
    go_ret
    exact ⟨rfl, HB4.out⟩

theorem walk (a0 a1 a2 : Int) (w : World) (w0 : (Lit.int .u32 a0).wf = true) (w1 : (Lit.int .u32 a1).wf = true) (w2 : (Lit.int .u8 a2).wf = true) :
    Calls Try.prog 6 #[.int .u32 a0, .int .u32 a1, .int .u8 a2] w fun e w' => e = .returned (.bool true) ∧ Below w.heap.size w w' := by
  have ⟨h0, h0'⟩ := bounds_u32 w0
  have ⟨h1, h1'⟩ := bounds_u32 w1
  have ⟨h2, h2'⟩ := bounds_u8 w2
  exact walk_at a0 a1 a2 (a0 % 268435456).toNat (a1 % 268435456).toNat (a2 % 7 + 1).toNat _ _ w (by omega) (by omega) (by omega) h0 h1 h2 h0' h1' h2' rfl rfl

end Go.Proofs.Ytfnkjcdkogipbaa.prefintGrows
