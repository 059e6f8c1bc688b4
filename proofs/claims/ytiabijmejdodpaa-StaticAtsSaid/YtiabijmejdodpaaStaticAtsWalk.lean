/-
  StaticAts: its walk: for every number and field the Go text returns true, and leaves what was there as it was.
-/
import Derived.Test.YtiabijmejdodpaaStAwake
import Derived.Deep.QuietTactic
import Derived.BigQuiet
import Derived.Deep.RegionHeld3
namespace Go.Proofs.Ytiabijmejdodpaa.staticAts
open Go.RowKit Go.Proofs.Ytiabijmejdodpaa

theorem st_At_raw (n : Int) (w : World) : Calls Try.prog 7 #[.int .i64 n] w fun e w' => e = .returned (.tuple #[.agg #[.string (nmAt n), .string (vlAt n), .bool false], .bool (isAt n)]) ∧ Below w.heap.size w w' := st_At n w
theorem rf_At_raw (n : Int) (w : World) : Calls Try.prog 8 #[.int .i64 n] w fun e w' => e = .returned (.tuple #[.agg #[.string (nmAt n), .string (vlAt n), .bool false], .bool (isAt n)]) ∧ Below w.heap.size w w' := rf_At n w
theorem st_Size_raw (a b : ByteArray) (n : Bool) (ha : (a.size : Int) ≤ 100) (hb : (b.size : Int) ≤ 100) (w : World) : Calls Try.prog 10 #[.agg #[.string a, .string b, .bool n]] w fun e w' => e = .returned (.int .i64 ((a.size : Int) + (b.size : Int) + 32)) ∧ Below w.heap.size w w' := st_Size a b n (by omega) (by omega) w
theorem rf_Size_raw (a b : ByteArray) (n : Bool) (ha : (a.size : Int) ≤ 100) (hb : (b.size : Int) ≤ 100) (w : World) : Calls Try.prog 11 #[.agg #[.string a, .string b, .bool n]] w fun e w' => e = .returned (.int .i64 ((a.size : Int) + (b.size : Int) + 32)) ∧ Below w.heap.size w w' := rf_Size a b n (by omega) (by omega) w

theorem allC_at (k : Nat) (hk : k < 61) : (allA 61)[k * 3]? = some (.string (nm k)) ∧ (allA 61)[k * 3 + 1]? = some (.string (vl k)) ∧ (allA 61)[k * 3 + 2]? = some (.bool false) := by
  rw [allA_get _ _ (by omega), allA_get _ _ (by omega), allA_get _ _ (by omega)]
  unfold allC
  rw [show k * 3 / 3 = k by omega, show k * 3 % 3 = 0 by omega, show (k * 3 + 1) / 3 = k by omega, show (k * 3 + 1) % 3 = 1 by omega, show (k * 3 + 2) / 3 = k by omega, show (k * 3 + 2) % 3 = 2 by omega, if_pos hk, if_pos hk, if_pos hk]
  exact ⟨rfl, rfl, rfl⟩

set_option maxRecDepth 100000 in
set_option maxHeartbeats 1600000 in
theorem walk_long (i : Int) (a b : ByteArray) (nv : Bool) (w : World) (h : (100 : Int) < (a.size : Int) ∨ (100 : Int) < (b.size : Int)) :
    Calls Try.prog 3 #[.int .i64 i, .agg #[.string a, .string b, .bool nv]] w fun e w' => e = .returned (.bool true) ∧ Below w.heap.size w w' := by
  by_cases h1 : (100 : Int) < (a.size : Int)
  · clear h
    go_enter Try.func3, Try.ntmps3
    go_wp2_with fail
    refine (aw_static _).mono ?_
    rintro e w7 ⟨rfl, hb7⟩
    have HB7 := hide ((((Below.refl w.heap.size w).alloc (Nat.le_refl _) _)).trans (hb7.mono (by simp)))
    clear hb7
    go_wp2
    go_ret
    exact ⟨rfl, HB7.out⟩
  · have h2 : (100 : Int) < (b.size : Int) := by omega
    clear h
    go_enter Try.func3, Try.ntmps3
    go_wp2_with fail
    refine (aw_static _).mono ?_
    rintro e w7 ⟨rfl, hb7⟩
    have HB7 := hide ((((Below.refl w.heap.size w).alloc (Nat.le_refl _) _)).trans (hb7.mono (by simp)))
    clear hb7
    go_wp2
    go_ret
    exact ⟨rfl, HB7.out⟩

set_option maxRecDepth 100000 in
set_option maxHeartbeats 1600000 in
theorem walk_right (i : Int) (a b : ByteArray) (nv : Bool) (w : World) (h1 : (a.size : Int) ≤ 100) (h2 : (b.size : Int) ≤ 100) :
    Calls Try.prog 3 #[.int .i64 i, .agg #[.string a, .string b, .bool nv]] w fun e w' => e = .returned (.bool true) ∧ Below w.heap.size w w' := by
  have C1 := hide (st_At_raw i)
  have C2 := hide (rf_At_raw i)
  have S1 := hide (st_Size_raw a b nv h1 h2)
  have S2 := hide (rf_Size_raw a b nv h1 h2)
  obtain ⟨N, hN⟩ : ∃ N, N = nmAt i := ⟨_, rfl⟩
  obtain ⟨V, hV⟩ : ∃ V, V = vlAt i := ⟨_, rfl⟩
  obtain ⟨T, hT⟩ : ∃ T, T = isAt i := ⟨_, rfl⟩
  rw [← hN, ← hV, ← hT] at C1 C2
  clear hN hV hT
  have hz := run_zero_is st_zero_raw
  go_enter Try.func3, Try.ntmps3
  go_wp2_with fail
  refine (C1.out _).mono ?_
  rintro e w1 ⟨rfl, hb1⟩
  have F1 := hide ((BlkIs.new w 23 #[.string a, .string b, .bool nv]).keep hb1)
  have B1 := hide (((Below.refl w.heap.size w).alloc (Nat.le_refl _) (.cells #[.string a, .string b, .bool nv] 23)).trans (hb1.mono (by simp)))
  clear hb1 C1
  obtain ⟨g, hg⟩ : ∃ g, g = w.heap.size := ⟨_, rfl⟩
  have HG := hide hg
  rw [← hg] at F1 ⊢
  clear hg
  go_wp2_with fail
  refine (C2.out _).mono ?_
  rintro e w2 ⟨rfl, hb2⟩
  have F2 := hide ((F1.out.alloc (.cells #[.string N, .string V, .bool false] 23)).keep hb2)
  have G2 := hide ((BlkIs.new w1 23 #[.string N, .string V, .bool false]).keep hb2)
  have B2 := hide ((B1.out.alloc B1.out.size (.cells #[.string N, .string V, .bool false] 23)).trans (hb2.mono (by have := B1.out.size; simp; omega)))
  obtain ⟨g1, hg1⟩ : ∃ g, g = w1.heap.size := ⟨_, rfl⟩
  have HG1 := hide hg1
  rw [← hg1] at G2 ⊢
  clear hb2 C2 hg1 F1 B1
  go_wp2_with fail
  refine (st_All _).mono ?_
  rintro e w3 ⟨gA, rfl, hgA, hA, hb3⟩
  have F3 := hide ((F2.out.alloc (.cells #[.string N, .string V, .bool false] 23)).keep hb3)
  have G3 := hide ((G2.out.alloc (.cells #[.string N, .string V, .bool false] 23)).keep hb3)
  have H3 := hide ((BlkIs.new w2 23 #[.string N, .string V, .bool false]).keep hb3)
  have B3 := hide ((B2.out.alloc B2.out.size (.cells #[.string N, .string V, .bool false] 23)).trans (hb3.mono (by have := B2.out.size; simp; omega)))
  have A3 := hide hA
  obtain ⟨g2, hg2⟩ : ∃ g, g = w2.heap.size := ⟨_, rfl⟩
  rw [← hg2] at H3 ⊢
  clear hb3 hgA hA hg2 F2 G2 B2
  go_wp2_with fail
  go_loopw [10] (fun c wr => ∃ k : Nat, k ≤ 61 ∧ c = .int .i64 (k : Int) ∧ Below w3.heap.size w3 wr) (fun c _ => 61 - (intOf c).toNat)
  case atStart => exact ⟨0, by omega, rfl, Below.refl _ _⟩
  case round =>
    obtain ⟨k, hk, rfl, hbel⟩ := hrel
    have HBEL := hide hbel
    clear hbel
    by_cases hlt : k < 61
    · have hlt' : (k : Int) < 61 := by omega
      have CA := hide (rf_At_nat k hlt)
      have ha := allC_at k hlt
      obtain ⟨N', hN'⟩ : ∃ N, N = nm k := ⟨_, rfl⟩
      obtain ⟨V', hV'⟩ : ∃ V, V = vl k := ⟨_, rfl⟩
      rw [← hN', ← hV'] at CA ha
      have HA := hide ha
      clear hN' hV' ha
      go_wp2_with fail
      refine (CA.out _).mono ?_
      rintro e w4 ⟨rfl, hb4⟩
      have B4 := hide ((HBEL.out.trans (hb4.mono HBEL.out.size)).alloc (by have h1 := hb4.size; have h2 := HBEL.out.size; omega) (.cells #[.string N', .string V', .bool false] 23))
      have c0 := (A3.out.keep B4.out).cell (k * 3)
      have c1 := (A3.out.keep B4.out).cell (k * 3 + 1)
      have c2 := (A3.out.keep B4.out).cell (k * 3 + 2)
      rw [HA.out.1] at c0
      rw [HA.out.2.1] at c1
      rw [HA.out.2.2] at c2
      clear hb4
      go_wp2_with fail
      go_quiet (fail)
      go_wp2
      go_roundw
      case rel => exact ⟨k + 1, by omega, by go_num, below_drewN B4.out _⟩
      case measure => simp [intOf]; omega
    · have hge : ¬ (k : Int) < 61 := by omega
      obtain rfl : k = 61 := by omega
      have F4 := hide (F3.out.keep HBEL.out)
      have G4 := hide (G3.out.keep HBEL.out)
      have H4 := hide (H3.out.keep HBEL.out)
      have B4 := hide (B3.out.trans (HBEL.out.mono B3.out.size))
      clear F3 G3 H3 B3 HBEL A3
      have q0 := F4.out.drew.cell 0
      have q1 := F4.out.drew.cell 1
      have q2 := F4.out.drew.cell 2
      have r0 := G4.out.drew.cell 0
      have r1 := G4.out.drew.cell 1
      have r2 := G4.out.drew.cell 2
      have t0 := H4.out.drew.cell 0
      have t1 := H4.out.drew.cell 1
      have t2 := H4.out.drew.cell 2
      simp only [List.getElem?_toArray, List.getElem?_cons_zero, List.getElem?_cons_succ] at q0 q1 q2 r0 r1 r2 t0 t1 t2
      have hbw : ∀ w', Below wr.drew.heap.size wr.drew w' → Below w.heap.size w w' := fun w' h => B4.out.drew.trans (h.mono B4.out.size)
      have HBW := hide hbw
      clear hbw
      go_wp2_with fail
      go_region_with (first
        | (go_at_call 10; refine (S1.out _).mono ?_; rintro e w5 ⟨rfl, hb5⟩; have F5 := hide (F4.out.drew.keep hb5); have s0 := F5.out.cell 0; have s1 := F5.out.cell 1; have s2 := F5.out.cell 2; simp only [List.getElem?_toArray, List.getElem?_cons_zero, List.getElem?_cons_succ] at s0 s1 s2; have HB5 := hide hb5; clear hb5)
        | (go_at_call 11; refine (S2.out _).mono ?_; rintro e w6 ⟨rfl, hb6⟩; have HB6 := hide hb6; clear hb6)
        | (go_at_call 6; refine (aw_static _).mono ?_; rintro e w7 ⟨rfl, hb7⟩; have HB7 := hide hb7; clear hb7))
      all_goals
        go_wp2_with fail
        go_ret
        exact ⟨rfl, HBW.out _ (HB5.out.trans ((HB6.out.trans (HB7.out.mono HB6.out.size)).mono HB5.out.size))⟩

theorem walk (i : Int) (a b : ByteArray) (nv : Bool) (w : World) (_w0 : (Lit.int .i64 i).wf = true) (_w1 : a.size ≤ maxLen) (_w2 : b.size ≤ maxLen) :
    Calls Try.prog 3 #[.int .i64 i, .agg #[.string a, .string b, .bool nv]] w fun e w' => e = .returned (.bool true) ∧ Below w.heap.size w w' := by
  by_cases h : (100 : Int) < (a.size : Int) ∨ (100 : Int) < (b.size : Int)
  · exact walk_long i a b nv w h
  · exact walk_right i a b nv w (by omega) (by omega)
end Go.Proofs.Ytiabijmejdodpaa.staticAts
