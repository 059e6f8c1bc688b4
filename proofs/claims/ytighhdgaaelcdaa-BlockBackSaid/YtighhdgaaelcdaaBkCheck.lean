/-
  Layer 11: Check (the program's and the document's).
-/
import Derived.Test.YtighhdgaaelcdaaBkSmall
namespace Go.Proofs.Ytighhdgaaelcdaa
set_option linter.unusedSimpArgs false
set_option linter.unusedVariables false
open Go.RowKit

/-- How a state is checked: four kinds. -/
theorem chk_cases (s : Int) (d : ByteArray) (e : Bool) (P : Prop)
    (h8 : (s < 0 ∨ 2147483647 < s) → (Bk.chk ⟨s, d, e⟩ = 8) → P) (h4 : s = 0 → ¬ d.size = 0 → (Bk.chk ⟨s, d, e⟩ = 4) → P) (h4' : s = 0 → d = ⟨#[]⟩ → e = true → (Bk.chk ⟨s, d, e⟩ = 4) → P)
    (h0 : s = 0 → d = ⟨#[]⟩ → e = false → (Bk.chk ⟨s, d, e⟩ = 0) → P)
    (h5 : 0 < s → s ≤ 2147483647 → 4096 < d.size → (Bk.chk ⟨s, d, e⟩ = 5) → P) (h : 0 < s → s ≤ 2147483647 → ¬ 4096 < d.size → (Bk.chk ⟨s, d, e⟩ = 0) → P) : P := by
  by_cases h1 : s < 0 ∨ 2147483647 < s
  · exact h8 h1 (by simp [Bk.chk, h1])
  · by_cases h2 : s = 0
    · subst h2
      by_cases h3 : d.size = 0
      · obtain rfl := ba_empty h3
        cases e with
        | true => exact h4' rfl rfl rfl (by simp [Bk.chk])
        | false => exact h0 rfl rfl rfl (by simp [Bk.chk, show (⟨#[]⟩ : ByteArray).size = 0 from rfl])
      · exact h4 rfl h3 (by simp [Bk.chk, h3])
    · by_cases h3 : 4096 < d.size
      · exact h5 (by omega) (by omega) h3 (by simp [Bk.chk, h1, h2, h3])
      · exact h (by omega) (by omega) h3 (by simp [Bk.chk, h1, h2, h3])

set_option maxHeartbeats 800000 in
theorem bk_Check (s : Int) (d : ByteArray) (e : Bool) (w : World) : Calls Try.prog 9 #[.agg #[.int .i64 s, .string d, .bool e]] w fun r w' => r = .returned (.int .i64 (Bk.chk ⟨s, d, e⟩)) ∧ Below w.heap.size w w' := by
  have HI := hide (fun n w => bk_isStream n w)
  have HO := hide (fun s d e w => bk_Open s d e w)
  refine chk_cases s d e _ ?_ ?_ ?_ ?_ ?_ ?_
  · intro h hc
    rw [hc]
    clear hc
    have hs : ¬ s = 0 := by omega
    have hb : strB s = false := by simp [strB]; omega
    have HB := hide hb
    clear h hb
    go_enter Try.func9, Try.ntmps9
    go_wp2_with fail
    refine (HI.out _ _).mono ?_
    rintro r w1 ⟨rfl, rfl⟩
    rw [HB.out]
    go_wp2_with fail
    go_ret
    exact ⟨rfl, (Below.refl _ _).alloc (Nat.le_refl _) _⟩
  · intro h hd hc
    rw [hc]
    subst h
    clear hc
    have he : d.toList.isEmpty = false := by rw [is_empty]; simp [hd]
    clear hd
    go_enter Try.func9, Try.ntmps9
    go_wp2_with fail
    refine (HO.out _ _ _ _).mono ?_
    rintro r w1 ⟨rfl, hb1⟩
    have K1 := hide ((BlkIs.new w 29 #[.int .i64 0, .string d, .bool e]).keep hb1)
    have B1 := hide (((Below.refl w.heap.size w).alloc (Nat.le_refl _) (.cells #[.int .i64 0, .string d, .bool e] 29)).trans (hb1.mono (by simp)))
    clear hb1
    obtain ⟨c0, c1, c2⟩ := bk_cells K1.out
    go_wp2_with fail
    go_ret
    exact ⟨rfl, B1.out⟩
  · intro h hd he hc
    rw [hc]
    subst h hd he
    clear hc
    go_enter Try.func9, Try.ntmps9
    go_wp2_with fail
    refine (HO.out _ _ _ _).mono ?_
    rintro r w1 ⟨rfl, hb1⟩
    have K1 := hide ((BlkIs.new w 29 #[.int .i64 0, .string ⟨#[]⟩, .bool true]).keep hb1)
    have B1 := hide (((Below.refl w.heap.size w).alloc (Nat.le_refl _) (.cells #[.int .i64 0, .string ⟨#[]⟩, .bool true] 29)).trans (hb1.mono (by simp)))
    clear hb1
    obtain ⟨c0, c1, c2⟩ := bk_cells K1.out
    go_wp2_with fail
    go_ret
    exact ⟨rfl, B1.out⟩
  · intro h hd he hc
    rw [hc]
    subst h hd he
    clear hc
    go_enter Try.func9, Try.ntmps9
    go_wp2_with fail
    refine (HO.out _ _ _ _).mono ?_
    rintro r w1 ⟨rfl, hb1⟩
    have K1 := hide ((BlkIs.new w 29 #[.int .i64 0, .string ⟨#[]⟩, .bool false]).keep hb1)
    have B1 := hide (((Below.refl w.heap.size w).alloc (Nat.le_refl _) (.cells #[.int .i64 0, .string ⟨#[]⟩, .bool false] 29)).trans (hb1.mono (by simp)))
    clear hb1
    obtain ⟨c0, c1, c2⟩ := bk_cells K1.out
    go_wp2_with fail
    go_ret
    exact ⟨rfl, B1.out⟩
  all_goals
    intro h0 h1 hd hc
    rw [hc]
    clear hc
    have hs : ¬ s = 0 := by omega
    have hb : strB s = true := by simp [strB]; omega
    have HB := hide hb
    have ho : (!decide (s = 0)) = true := by simp [hs]
    have HO2 := hide ho
    have hd' : (((d.size : Int) ≤ 4096) ∧ ¬ 4096 < d.size) ∨ (¬ ((d.size : Int) ≤ 4096) ∧ 4096 < d.size) := by omega
    clear hb h0 h1 ho
    go_enter Try.func9, Try.ntmps9
    go_wp2_with fail
    refine (HI.out _ _).mono ?_
    rintro r w1 ⟨rfl, rfl⟩
    rw [HB.out]
    go_wp2_with fail
    refine (HO.out _ _ _ _).mono ?_
    rintro r w1 ⟨rfl, hb1⟩
    rw [HO2.out]
    have K1 := hide ((BlkIs.new w 29 #[.int .i64 s, .string d, .bool e]).keep hb1)
    have B1 := hide (((Below.refl w.heap.size w).alloc (Nat.le_refl _) (.cells #[.int .i64 s, .string d, .bool e] 29)).trans (hb1.mono (by simp)))
    clear hb1
    obtain ⟨c0, c1, c2⟩ := bk_cells K1.out
    go_wp2_with fail
    go_ret
    exact ⟨rfl, B1.out⟩

set_option maxHeartbeats 800000 in
theorem rf_Check11 (s : Int) (d : ByteArray) (e : Bool) (w : World) : Calls Try.prog 10 #[.agg #[.int .i64 s, .string d, .bool e]] w fun r w' => r = .returned (.int .i64 (Bk.chk ⟨s, d, e⟩)) ∧ Below w.heap.size w w' := by
  refine chk_cases s d e _ ?_ ?_ ?_ ?_ ?_ ?_
  · intro h hc
    rw [hc]
    clear hc
    by_cases h1 : s < 0
    · clear h
      go_enter Try.func10, Try.ntmps10
      go_wp2_with fail
      go_ret
      exact ⟨rfl, (Below.refl _ _).alloc (Nat.le_refl _) _⟩
    · have h2 : 2147483647 < s := by omega
      clear h
      go_enter Try.func10, Try.ntmps10
      go_wp2_with fail
      go_ret
      exact ⟨rfl, (Below.refl _ _).alloc (Nat.le_refl _) _⟩
  · intro h hd hc
    rw [hc]
    subst h
    clear hc
    have he : d.toList.isEmpty = false := by rw [is_empty]; simp [hd]
    clear hd
    go_enter Try.func10, Try.ntmps10
    go_wp2_with fail
    go_ret
    exact ⟨rfl, (Below.refl _ _).alloc (Nat.le_refl _) _⟩
  · intro h hd he hc
    rw [hc]
    subst h hd he
    clear hc
    go_enter Try.func10, Try.ntmps10
    go_wp2_with fail
    go_ret
    exact ⟨rfl, (Below.refl _ _).alloc (Nat.le_refl _) _⟩
  · intro h hd he hc
    rw [hc]
    subst h hd he
    clear hc
    go_enter Try.func10, Try.ntmps10
    go_wp2_with fail
    go_ret
    exact ⟨rfl, (Below.refl _ _).alloc (Nat.le_refl _) _⟩
  all_goals
    intro h0 h1 hd hc
    rw [hc]
    clear hc
    have hs : ¬ s = 0 := by omega
    have hs1 : ¬ s < 0 := by omega
    have hs2 : ¬ 2147483647 < s := by omega
    have hd' : (((d.size : Int) ≤ 4096) ∧ ¬ 4096 < d.size) ∨ (¬ ((d.size : Int) ≤ 4096) ∧ 4096 < d.size) := by omega
    clear h0 h1
    go_enter Try.func10, Try.ntmps10
    go_wp2_with fail
    go_ret
    exact ⟨rfl, (Below.refl _ _).alloc (Nat.le_refl _) _⟩
end Go.Proofs.Ytighhdgaaelcdaa
