/-
  Layer 8: awake.
-/
import Derived.Test.YtbpbnifnbfimeaaFhGet2
namespace Go.Proofs.Ytbpbnifnbfimeaa
open Go.RowKit

theorem aw_put (w : World) : Calls Try.prog 6 #[.agg #[.int .i64 8, .int .u8 6, .int .u8 5, .int .i64 3]] w (PutBlk 8 6 5 3 w) :=
  fh_Put_blk 8 6 5 3 (by omega) (by omega) (by omega) (by omega) w
theorem aw_put2 (w : World) : Calls Try.prog 6 #[.agg #[.int .i64 (-1), .int .u8 0, .int .u8 0, .int .i64 0]] w (GivesPut w.heap.size [] 8 w) :=
  fh_Put_no (-1) 0 0 0 (by decide) w
theorem aw_get1 (A : Option Addr) (cap : Nat) (w : World) (hr : RB w A 10 (hdB 8 6 5 3 ++ [1])) : Calls Try.prog 11 #[.slice A 10 cap] w fun e w' => e = .returned (.tuple #[.agg #[.int .i64 8, .int .u8 6, .int .u8 5, .int .i64 3], .int .i64 0]) ∧ Below w.heap.size w w' :=
  (fh_Get A 10 cap _ w hr).mono fun _ _ h => h
theorem aw_get2 (A : Option Addr) (cap : Nat) (w : World) (hr : RB w A 8 ((hdB 8 6 5 3).take 8)) : Calls Try.prog 11 #[.slice A 8 cap] w fun e w' => e = .returned (.tuple #[.agg #[.int .i64 0, .int .u8 0, .int .u8 0, .int .i64 0], .int .i64 3]) ∧ Below w.heap.size w w' :=
  (fh_Get A 8 cap _ w hr).mono fun _ _ h => h
theorem aw_has1 (w : World) : Calls Try.prog 13 #[.agg #[.int .i64 8, .int .u8 6, .int .u8 5, .int .i64 3], .int .u8 4] w fun e w' => e = .returned (.bool true) ∧ Below w.heap.size w w' := fh_Has 8 6 5 3 4 w
theorem aw_has2 (w : World) : Calls Try.prog 13 #[.agg #[.int .i64 8, .int .u8 6, .int .u8 5, .int .i64 3], .int .u8 6] w fun e w' => e = .returned (.bool false) ∧ Below w.heap.size w w' := fh_Has 8 6 5 3 6 w
theorem aw_check (w : World) : Calls Try.prog 8 #[.agg #[.int .i64 8, .int .u8 6, .int .u8 5, .int .i64 3]] w fun e w' => e = .returned (.int .i64 0) ∧ Below w.heap.size w w' := fh_Check 8 6 5 3 w

theorem blk_rb {w : World} {h : Nat} {xs : List Int} {n : Nat} (hk : BlkIs w h 5 (u8s xs).toArray) (hn : xs.length = n) (hb : AllB xs) : RB w (some ⟨h, 0, none⟩) n xs := by
  refine ⟨hn, fun hp => ⟨h, 0, rfl, hk.lt, fun i hi => ?_⟩, fun i => hb.getD i⟩
  rw [Nat.zero_add, hk.cell i]
  simp [u8s, List.getD, show i < xs.length by omega]
theorem blk_news {w : World} {h : Nat} {t : TypeId} {xs : List Int} (hk : BlkIs w h t (u8s xs).toArray) : ∀ j u, (u8s xs)[j]? = some u → w.cell? ((⟨h, 0, none⟩ : Addr).add j) = some u := by
  intro j u hj
  rw [Addr.add_lit, Nat.zero_add, hk.cell j]
  simpa using hj

set_option maxRecDepth 100000 in
set_option maxHeartbeats 1600000 in
theorem aw_fhead (w : World) : Calls Try.prog 10 #[] w fun e w' => e = .returned (.bool true) ∧ Below w.heap.size w w' := by
  obtain ⟨i0, hi0, hz0, hz1, hz2⟩ := info_parts u8_info
  have hz := run_zero_is hd_zero
  go_enter Try.func10, Try.ntmps10
  go_wp2_with fail
  refine (aw_put _).mono ?_
  rintro e w1 ⟨h, rfl, hk, hB, hb1⟩
  have K1 := hide ((BlkIs.new w 28 #[.int .i64 8, .int .u8 6, .int .u8 5, .int .i64 3]).keep hb1)
  have H1 := hide hk
  have B1 := hide (((Below.refl _ _).alloc (Nat.le_refl _) (.cells #[.int .i64 8, .int .u8 6, .int .u8 5, .int .i64 3] 28)).trans (hb1.mono (by simp)))
  obtain ⟨g, hg⟩ : ∃ g, g = w.heap.size := ⟨_, rfl⟩
  rw [← hg] at K1 ⊢
  have HG := hide hg
  clear hk hb1 hg hB
  go_wp2_with (at_builtin; refine wpList_append_grows _ rfl (.tmp 17) (.tmp 18) 24 rfl 5 i0 Try.underlying24 hi0 hz0 hz1 hz2 ⟨h, 0, none⟩ 9 9 (hdB 8 6 5 3) rfl rfl (blk_news (H1.out.alloc _)) ⟨w1.heap.size, 0, none⟩ 1 1 [1] rfl rfl (one_new _ _ _) (by omega) (by omega) ?_; intro v2 w2 hown2 hb2; obtain ⟨A2, c2, rfl⟩ := own_form hown2; have H2 := hide ((H1.out.alloc _).keep hb2); have K2 := hide ((K1.out.alloc _).keep hb2); have B2 := hide ((B1.out.alloc B1.out.size _).trans (hb2.mono (Nat.le_trans B1.out.size (by simp)))); have R2 := hide (rb_of_own hown2 (by unfold hdB; intro x hx; simp at hx; omega)).1; clear hown2 hb2)
  refine (aw_get1 A2 c2 _ R2.out).mono ?_
  rintro e w3 ⟨rfl, hb3⟩
  have H3 := hide ((H2.out.keep hb3).alloc (.cells #[.int .i64 8, .int .u8 6, .int .u8 5, .int .i64 3] 28))
  have K3 := hide ((K2.out.keep hb3).alloc (.cells #[.int .i64 8, .int .u8 6, .int .u8 5, .int .i64 3] 28))
  have J3 := hide (BlkIs.new w3 28 #[.int .i64 8, .int .u8 6, .int .u8 5, .int .i64 3])
  have B3 := hide ((B2.out.trans (hb3.mono B2.out.size)).alloc (Nat.le_trans B2.out.size hb3.size) (.cells #[.int .i64 8, .int .u8 6, .int .u8 5, .int .i64 3] 28))
  obtain ⟨j, hj⟩ : ∃ j, j = w3.heap.size := ⟨_, rfl⟩
  rw [← hj] at J3
  clear hb3 H2 K2 B2 R2 H1 K1 B1
  go_wp2_with fail
  rw [← hj]
  have R3 := hide (((blk_rb H3.out (n := 9) rfl (hdB_all 8 6 5 3 (by omega) (by omega) (by omega) (by omega))).short (m := 8) (by omega)))
  generalize w3.alloc (.cells #[.int .i64 8, .int .u8 6, .int .u8 5, .int .i64 3] 28) = w4 at H3 K3 J3 B3 R3 ⊢
  clear hj
  refine (aw_get2 _ _ _ R3.out).mono ?_
  rintro e w5 ⟨rfl, hb5⟩
  have H5 := hide ((H3.out.keep hb5).alloc (.cells #[.int .i64 0, .int .u8 0, .int .u8 0, .int .i64 0] 28))
  have K5 := hide ((K3.out.keep hb5).alloc (.cells #[.int .i64 0, .int .u8 0, .int .u8 0, .int .i64 0] 28))
  have J5 := hide ((J3.out.keep hb5).alloc (.cells #[.int .i64 0, .int .u8 0, .int .u8 0, .int .i64 0] 28))
  have B5 := hide ((B3.out.trans (hb5.mono B3.out.size)).alloc (Nat.le_trans B3.out.size hb5.size) (.cells #[.int .i64 0, .int .u8 0, .int .u8 0, .int .i64 0] 28))
  clear hb5 H3 K3 J3 B3 R3
  go_wp2_with fail
  generalize w5.alloc (.cells #[.int .i64 0, .int .u8 0, .int .u8 0, .int .i64 0] 28) = w6 at H5 K5 J5 B5 ⊢
  refine (aw_put2 _).mono ?_
  rintro e w7 ⟨v7, rfl, _, hb7⟩
  have H7 := hide (H5.out.keep hb7)
  have K7 := hide (K5.out.keep hb7)
  have J7 := hide (J5.out.keep hb7)
  have B7 := hide (B5.out.trans (hb7.mono B5.out.size))
  clear hb7 H5 K5 J5 B5
  have s1 := rb_string 9 (blk_rb H7.out (n := 9) rfl (hdB_all 8 6 5 3 (by omega) (by omega) (by omega) (by omega)))
  rw [show strOfNums (hdB 8 6 5 3) = ⟨#[0, 0, 8, 6, 5, 0, 0, 0, 3]⟩ by rfl] at s1
  obtain ⟨p0, p1, p2, p3⟩ := hd_cells K7.out
  obtain ⟨q0, q1, q2, q3⟩ := hd_cells J7.out
  go_wp2_with fail
  refine (aw_check _).mono ?_
  rintro e w8 ⟨rfl, hb8⟩
  have K8 := hide (K7.out.keep hb8)
  have B8 := hide (B7.out.trans (hb8.mono B7.out.size))
  clear hb8 K7 B7 J7 H7 s1 p0 p1 p2 p3 q0 q1 q2 q3
  obtain ⟨p0, p1, p2, p3⟩ := hd_cells K8.out
  go_wp2_with fail
  refine (aw_has1 _).mono ?_
  rintro e w9 ⟨rfl, hb9⟩
  have K9 := hide (K8.out.keep hb9)
  have B9 := hide (B8.out.trans (hb9.mono B8.out.size))
  clear hb9 K8 B8 p0 p1 p2 p3
  obtain ⟨p0, p1, p2, p3⟩ := hd_cells K9.out
  go_wp2_with fail
  refine (aw_has2 _).mono ?_
  rintro e w10 ⟨rfl, hb10⟩
  have B10 := hide (B9.out.trans (hb10.mono B9.out.size))
  clear hb10 K9 B9 p0 p1 p2 p3
  go_wp2_with fail
  go_ret
  exact ⟨rfl, B10.out⟩
end Go.Proofs.Ytbpbnifnbfimeaa
