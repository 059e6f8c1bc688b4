/-
  DyntabPlaces: its walk: for every table and field the Go text returns true, and leaves what was there as it was.
-/
import Derived.Test.YtchndegcnjejiaaDyAwake
import Derived.BigGuardPart
namespace Go.Proofs.Ytchndegcnjejiaa.dyntabPlaces
open Go.RowKit Go.Proofs.Ytchndegcnjejiaa

theorem fdN_spec (l : List Fd) (a : ByteArray) : ∀ k, (fdN l a k = 0 → ∀ j, j < k → (fdL l j).n ≠ a) ∧ (∀ j, j + 1 < fdN l a k → (fdL l j).n ≠ a) ∧ (0 < fdN l a k → (fdL l (fdN l a k - 1)).n = a) := by
  intro k
  induction k with
  | zero => exact ⟨fun _ j h => absurd h (by omega), fun j h => absurd h (by simp [fdN]), fun h => absurd h (by simp [fdN])⟩
  | succ k ih =>
    obtain ⟨i1, i2, i3⟩ := ih
    unfold fdN
    by_cases h : (fdL l k).n = a ∧ fdN l a k = 0
    · rw [if_pos h]
      refine ⟨fun h0 => absurd h0 (by omega), fun j hj => i1 h.2 j (by omega), fun _ => by rw [Nat.add_sub_cancel]; exact h.1⟩
    · rw [if_neg h]
      refine ⟨fun h0 j hj => ?_, i2, i3⟩
      by_cases e : j = k
      · subst e
        intro e
        exact h ⟨e, h0⟩
      · exact i1 h0 j (by omega)

/-- What a round meets. -/
inductive Met (l : List Fd) (a v : ByteArray) (r : Nat) (b : Bool) (k : Nat) : Prop where
  | ahead (h1 : k + 1 < r) (h2 : (fdL l k).n ≠ a)
  | ahead2 (h1 : k + 1 < r) (h2 : (fdL l k).n = a) (h3 : (fdL l k).v ≠ v) (h4 : b = true)
  | here (h1 : k + 1 = r) (h2 : (fdL l k).n = a) (h3 : (fdL l k).v = v) (h4 : b = true)
  | here2 (h1 : k + 1 = r) (h2 : (fdL l k).n = a) (h3 : (fdL l k).v ≠ v) (h4 : b = false)
  | none_ (h1 : r = 0) (h2 : (fdL l k).n ≠ a) (h4 : b = false)
  | behind (h0 : 0 < r) (h1 : r < k + 1) (h2 : (fdL l k).n ≠ a)
  | behind2 (h0 : 0 < r) (h1 : r < k + 1) (h2 : (fdL l k).n = a) (h3 : (fdL l k).v ≠ v)
  | behind3 (h0 : 0 < r) (h1 : r < k + 1) (h2 : (fdL l k).n = a) (h3 : (fdL l k).v = v) (h4 : b = true)
theorem met {l : List Fd} {a v : ByteArray} {r : Nat} {b : Bool} (h : FindL l a v r b) {k : Nat} (hk : k < 61 + l.length) : Met l a v r b k := by
  rcases h with ⟨rfl, h1, h2, h3, h4, h5⟩ | ⟨rfl, h1, h2⟩
  · rcases Nat.lt_trichotomy (k + 1) r with hlt | heq | hgt
    · by_cases hn : (fdL l k).n = a
      · exact .ahead2 hlt hn (fun e => h5 k (by omega) ⟨hn, e⟩) rfl
      · exact .ahead hlt hn
    · subst heq
      rw [Nat.add_sub_cancel] at h3 h4
      exact .here rfl h3 h4 rfl
    · by_cases hn : (fdL l k).n = a
      · by_cases hv : (fdL l k).v = v
        · exact .behind3 (by omega) hgt hn hv rfl
        · exact .behind2 (by omega) hgt hn hv
      · exact .behind (by omega) hgt hn
  · obtain ⟨s1, s2, s3⟩ := fdN_spec l a (61 + l.length)
    rw [← h1] at s1 s2 s3
    have hq := h2 k hk
    rcases Nat.lt_trichotomy (k + 1) r with hlt | heq | hgt
    · exact .ahead hlt (s2 k hlt)
    · have := s3 (by omega)
      rw [show r - 1 = k by omega] at this
      exact .here2 heq this (fun e => hq ⟨this, e⟩) rfl
    · by_cases h0 : r = 0
      · exact .none_ h0 (s1 h0 k hk) rfl
      · by_cases hn : (fdL l k).n = a
        · exact .behind2 (by omega) hgt hn (fun e => hq ⟨hn, e⟩)
        · exact .behind (by omega) hgt hn
theorem find_le {l : List Fd} {a v : ByteArray} {r : Nat} {b : Bool} (h : FindL l a v r b) : r ≤ 61 + l.length ∧ (b = true → 0 < r) := by
  rcases h with ⟨rfl, h1, h2, _⟩ | ⟨rfl, h1, _⟩
  · exact ⟨h2, fun _ => by omega⟩
  · exact ⟨by rw [h1]; exact fdN_le _ _ _, fun h => by cases h⟩

set_option maxRecDepth 100000 in
set_option maxHeartbeats 1600000 in
theorem walk_long (m : Int) (A : Option Addr) (n c : Nat) (l : List Fd) (a b : ByteArray) (x : Bool) (w : World) (hfl : FL w A n c l) (h : lightB l = false) :
    Calls Try.prog 5 #[.agg #[.int .i64 m, .slice A n c], .agg #[.string a, .string b, .bool x]] w fun e w' => e = .returned (.bool true) ∧ Below w.heap.size w w' := by
  have HL := hide (fun w' (hf : FL w' A n c l) => rf_Light A n c l w' hf)
  rw [h] at HL
  have HFL := hide ((hfl.alloc (.cells #[.int .i64 m, .slice A n c] 24)).alloc (.cells #[.string a, .string b, .bool x] 29))
  clear h hfl
  go_enter Try.func5, Try.ntmps5
  go_wp2_with (first
    | (go_at_call 6; ((with_reducible refine (HL.out _ HFL.out).mono ?_); rintro e w2 ⟨rfl, rfl⟩))
    | (go_at_call 7; refine (aw_dyntab _).mono ?_; rintro e w7 ⟨rfl, hb7⟩; have HB7 := hide hb7; clear hb7))
  go_ret
  exact ⟨rfl, (((Below.refl _ _).alloc (Nat.le_refl _) _).alloc (by simp) _).trans (HB7.out.mono (by simp; omega))⟩

set_option maxRecDepth 100000 in
set_option maxHeartbeats 1600000 in
theorem walk_long2 (m : Int) (A : Option Addr) (n c : Nat) (l : List Fd) (a b : ByteArray) (x : Bool) (w : World) (hfl : FL w A n c l) (h : lightB l = true) (h2 : lightB [⟨a, b, x⟩] = false) :
    Calls Try.prog 5 #[.agg #[.int .i64 m, .slice A n c], .agg #[.string a, .string b, .bool x]] w fun e w' => e = .returned (.bool true) ∧ Below w.heap.size w w' := by
  have HL := hide (fun w' (hf : FL w' A n c l) => rf_Light A n c l w' hf)
  rw [h] at HL
  have HFL := hide ((hfl.alloc (.cells #[.int .i64 m, .slice A n c] 24)).alloc (.cells #[.string a, .string b, .bool x] 29))
  have HL2 := hide (rf_Light _ _ _ _ _ (FL.lit ((w.alloc (.cells #[.int .i64 m, .slice A n c] 24)).alloc (.cells #[.string a, .string b, .bool x] 29)) a b x))
  rw [h2, World.size_alloc, World.size_alloc] at HL2
  clear h hfl h2
  go_enter Try.func5, Try.ntmps5
  go_wp2_with (first
    | (go_at_call 6; ((with_reducible refine (HL.out _ HFL.out).mono ?_); rintro e w2 ⟨rfl, rfl⟩))
    | (go_at_call 6; ((with_reducible refine HL2.out.mono ?_); rintro e w2 ⟨rfl, rfl⟩))
    | (go_at_call 7; refine (aw_dyntab _).mono ?_; rintro e w7 ⟨rfl, hb7⟩; have HB7 := hide hb7; clear hb7))
  go_ret
  exact ⟨rfl, ((((Below.refl _ _).alloc (Nat.le_refl _) _).alloc (by simp) _).alloc (by simp; omega) _).trans (HB7.out.mono (by simp; omega))⟩

set_option maxRecDepth 100000 in
set_option maxHeartbeats 8000000 in
theorem walk_right (m : Int) (A : Option Addr) (n c : Nat) (l : List Fd) (a v : ByteArray) (x : Bool) (w : World) (hfl : FL w A n c l) (h : lightB l = true) (h2 : lightB [⟨a, v, x⟩] = true) :
    Calls Try.prog 5 #[.agg #[.int .i64 m, .slice A n c], .agg #[.string a, .string v, .bool x]] w fun e w' => e = .returned (.bool true) ∧ Below w.heap.size w w' := by
  have HL := hide (fun w' (hf : FL w' A n c l) => rf_Light A n c l w' hf)
  rw [h] at HL
  have hz := run_zero_is tab_zero
  have hzf := run_zero_is st_zero_raw
  obtain ⟨h30, hsz, -⟩ := light_szs h
  have hn30 : (n : Int) ≤ 30 := by rw [← hfl.len]; exact h30
  have HS := hide hsz
  have HLEN := hide hfl.len
  obtain ⟨W, hW⟩ : ∃ W, W = (((w.alloc (.cells #[.int .i64 m, .slice A n c] 24)).alloc (.cells #[.string a, .string v, .bool x] 29)).alloc (.cells #[.string a, .string v, .bool x] 29)) := ⟨_, rfl⟩
  have HFL0 := hide ((hfl.alloc (.cells #[.int .i64 m, .slice A n c] 24)).alloc (.cells #[.string a, .string v, .bool x] 29))
  have HFL := hide (HFL0.out.alloc (.cells #[.string a, .string v, .bool x] 29))
  have B0 := hide (((((Below.refl w.heap.size w).alloc (Nat.le_refl _) (.cells #[.int .i64 m, .slice A n c] 24)).alloc (by simp) (.cells #[.string a, .string v, .bool x] 29)).alloc (by simp; omega) (.cells #[.string a, .string v, .bool x] 29)))
  have KT := hide (((BlkIs.new w 24 #[.int .i64 m, .slice A n c]).alloc (.cells #[.string a, .string v, .bool x] 29)).alloc (.cells #[.string a, .string v, .bool x] 29))
  have KF := hide ((blk_new2' w (.cells #[.int .i64 m, .slice A n c] 24) 29 #[.string a, .string v, .bool x]).alloc (.cells #[.string a, .string v, .bool x] 29))
  rw [← hW] at HFL B0 KT KF
  have HL2 := hide (rf_Light _ _ _ _ _ (FL.lit ((w.alloc (.cells #[.int .i64 m, .slice A n c] 24)).alloc (.cells #[.string a, .string v, .bool x] 29)) a v x))
  rw [h2, World.size_alloc, World.size_alloc] at HL2
  obtain ⟨g, hg⟩ : ∃ g, g = w.heap.size := ⟨_, rfl⟩
  have HG := hide hg
  have HW := hide hW
  have HWS := hide (show W.heap.size = g + 1 + 1 + 1 by rw [hW, hg]; simp)
  rw [← hg] at KT KF
  clear h hfl h2 h30 hsz hg hW
  go_enter Try.func5, Try.ntmps5
  go_wp2_with (first
    | (go_at_call 6; ((with_reducible refine (HL.out _ HFL0.out).mono ?_); rintro e w2 ⟨rfl, rfl⟩))
    | (go_at_call 6; ((with_reducible refine HL2.out.mono ?_); rintro e w2 ⟨rfl, rfl⟩)))
  rw [← HW.out, ← HG.out]
  clear HL HL2 HFL0
  have KX := hide (BlkIs.new W 27 #[.int .i64 m, .slice A n c])
  rw [HWS.out] at KX
  have BX := hide (B0.out.alloc B0.out.size (.cells #[.int .i64 m, .slice A n c] 27))
  have FX := hide (HFL.out.alloc (.cells #[.int .i64 m, .slice A n c] 27))
  have KTX := hide (KT.out.alloc (.cells #[.int .i64 m, .slice A n c] 27))
  have KFX := hide (KF.out.alloc (.cells #[.int .i64 m, .slice A n c] 27))
  clear HFL KT KF B0
  refine (dy_Find m A n c l a v _ FX.out (by omega)).mono ?_
  rintro e w3 ⟨r, b, rfl, hfind, hb3⟩
  have HFIND := hide hfind
  have F3 := hide (FX.out.keep hb3)
  have KX3 := hide (KX.out.keep hb3)
  have KT3 := hide (KTX.out.keep hb3)
  have KF3 := hide (KFX.out.keep hb3)
  have B3 := hide (BX.out.trans (hb3.mono BX.out.size))
  have HLE := hide (find_le hfind)
  have hr0 : (0 : Int) ≤ (r : Int) := by omega
  have hr1 : ¬ 61 + (n : Int) < (r : Int) := by have := HLE.out.1; rw [HLEN.out] at this; omega
  have e1 := KT3.out.cell 1
  simp only [List.getElem?_toArray, List.getElem?_cons_zero, List.getElem?_cons_succ] at e1
  clear hfind hb3 FX KX KTX KFX BX HW HG HWS
  go_wp2_with fail
  go_loopw [8] (fun k wr => ∃ i : Nat, i ≤ 61 + n ∧ k = .int .i64 ((i : Int) + 1) ∧ Below w3.heap.size w3 wr) (fun k _ => 62 + n - (intOf k).toNat)
  case atStart => exact ⟨0, by omega, rfl, Below.refl _ _⟩
  case round =>
    obtain ⟨i, hi, rfl, hbel⟩ := hrel
    have HBEL := hide hbel
    have KXR := hide (KX3.out.keep hbel)
    have KTR := hide (KT3.out.keep hbel)
    have KFR := hide (KF3.out.keep hbel)
    have FR := hide (F3.out.keep hbel)
    clear hbel hr1 hr0 e1
    have q0 := KXR.out.cell 0
    have q1 := KXR.out.cell 1
    have e1 := KTR.out.cell 1
    simp only [List.getElem?_toArray, List.getElem?_cons_zero, List.getElem?_cons_succ] at q0 q1 e1
    have hi' : (i : Int) ≤ 91 := by omega
    by_cases hlt : i < 61 + n
    · have hlt' : (i : Int) + 1 ≤ 61 + (n : Int) := by omega
      have HC := hide (dy_At_nat m A n c l wr FR.out (by omega) i hlt)
      have hmet := met HFIND.out (show i < 61 + l.length by rw [HLEN.out]; exact hlt)
      obtain ⟨N, hN⟩ : ∃ N, N = (fdL l i).n := ⟨_, rfl⟩
      obtain ⟨V, hV⟩ : ∃ V, V = (fdL l i).v := ⟨_, rfl⟩
      obtain ⟨X, hX⟩ : ∃ X, X = (fdL l i).x := ⟨_, rfl⟩
      rw [← hN, ← hV, ← hX] at HC
      have HN := hide hN
      have HV := hide hV
      clear hX hN hV
      cases hmet with
      | ahead h1 h2 =>
        rw [← HN.out] at h2
        have he := str_not h2
        have hne : (!N.toList == a.toList) = true := by rw [he]; rfl
        have hi1 : (i : Int) + 1 < (r : Int) := by omega
        have hi2 : ((i : Int) + 1 == (r : Int)) = false := by rw [beq_eq_false_iff_ne]; omega
        have hr0 : ((r : Int) == 0) = false := by rw [beq_eq_false_iff_ne]; omega
        clear h1 h2
        cases b with
        | true =>
          go_wp2_with (go_at_call 8; refine HC.out.mono ?_; rintro e w4 ⟨rfl, hb4⟩; have KF4 := hide ((KFR.out.keep hb4).alloc (.cells #[.string N, .string V, .bool X] 29)); have u0 := KF4.out.cell 0; have u1 := KF4.out.cell 1; simp only [List.getElem?_toArray, List.getElem?_cons_zero, List.getElem?_cons_succ] at u0 u1; have HB4 := hide (HBEL.out.trans (hb4.mono HBEL.out.size)); clear hb4)
          go_roundw
          case rel => exact ⟨i + 1, by omega, by go_num, HB4.out.alloc HB4.out.size _⟩
          case measure => simp [intOf]; omega
        | false =>
          go_wp2_with (go_at_call 8; refine HC.out.mono ?_; rintro e w4 ⟨rfl, hb4⟩; have KF4 := hide ((KFR.out.keep hb4).alloc (.cells #[.string N, .string V, .bool X] 29)); have u0 := KF4.out.cell 0; have u1 := KF4.out.cell 1; simp only [List.getElem?_toArray, List.getElem?_cons_zero, List.getElem?_cons_succ] at u0 u1; have HB4 := hide (HBEL.out.trans (hb4.mono HBEL.out.size)); clear hb4)
          go_roundw
          case rel => exact ⟨i + 1, by omega, by go_num, HB4.out.alloc HB4.out.size _⟩
          case measure => simp [intOf]; omega
      | ahead2 h1 h2 h3 h4 =>
        subst h4
        rw [← HN.out] at h2
        have he := str_same h2
        have hne : (!N.toList == a.toList) = false := by rw [he]; rfl
        rw [← HV.out] at h3
        have hve := str_not h3
        have hi1 : (i : Int) + 1 < (r : Int) := by omega
        have hi2 : ((i : Int) + 1 == (r : Int)) = false := by rw [beq_eq_false_iff_ne]; omega
        have hr0 : ((r : Int) == 0) = false := by rw [beq_eq_false_iff_ne]; omega
        clear h1 h2 h3
        go_wp2_with (go_at_call 8; refine HC.out.mono ?_; rintro e w4 ⟨rfl, hb4⟩; have KF4 := hide ((KFR.out.keep hb4).alloc (.cells #[.string N, .string V, .bool X] 29)); have u0 := KF4.out.cell 0; have u1 := KF4.out.cell 1; simp only [List.getElem?_toArray, List.getElem?_cons_zero, List.getElem?_cons_succ] at u0 u1; have HB4 := hide (HBEL.out.trans (hb4.mono HBEL.out.size)); clear hb4)
        go_roundw
        case rel => exact ⟨i + 1, by omega, by go_num, HB4.out.alloc HB4.out.size _⟩
        case measure => simp [intOf]; omega
      | here h1 h2 h3 h4 =>
        subst h4
        rw [← HN.out] at h2
        have he := str_same h2
        have hne : (!N.toList == a.toList) = false := by rw [he]; rfl
        rw [← HV.out] at h3
        have hve := str_same h3
        have hi1 : decide ((i : Int) + 1 < (r : Int)) = false := by rw [decide_eq_false_iff_not]; omega
        have hi2 : ((i : Int) + 1 == (r : Int)) = true := by rw [beq_iff_eq]; omega
        have hr0 : ((r : Int) == 0) = false := by rw [beq_eq_false_iff_ne]; omega
        clear h1 h2 h3
        go_wp2_with (go_at_call 8; refine HC.out.mono ?_; rintro e w4 ⟨rfl, hb4⟩; have KF4 := hide ((KFR.out.keep hb4).alloc (.cells #[.string N, .string V, .bool X] 29)); have u0 := KF4.out.cell 0; have u1 := KF4.out.cell 1; simp only [List.getElem?_toArray, List.getElem?_cons_zero, List.getElem?_cons_succ] at u0 u1; have HB4 := hide (HBEL.out.trans (hb4.mono HBEL.out.size)); clear hb4)
        go_roundw
        case rel => exact ⟨i + 1, by omega, by go_num, HB4.out.alloc HB4.out.size _⟩
        case measure => simp [intOf]; omega
      | here2 h1 h2 h3 h4 =>
        subst h4
        rw [← HN.out] at h2
        have he := str_same h2
        have hne : (!N.toList == a.toList) = false := by rw [he]; rfl
        rw [← HV.out] at h3
        have hve := str_not h3
        have hi1 : decide ((i : Int) + 1 < (r : Int)) = false := by rw [decide_eq_false_iff_not]; omega
        have hi2 : ((i : Int) + 1 == (r : Int)) = true := by rw [beq_iff_eq]; omega
        have hr0 : ((r : Int) == 0) = false := by rw [beq_eq_false_iff_ne]; omega
        clear h1 h2 h3
        go_wp2_with (go_at_call 8; refine HC.out.mono ?_; rintro e w4 ⟨rfl, hb4⟩; have KF4 := hide ((KFR.out.keep hb4).alloc (.cells #[.string N, .string V, .bool X] 29)); have u0 := KF4.out.cell 0; have u1 := KF4.out.cell 1; simp only [List.getElem?_toArray, List.getElem?_cons_zero, List.getElem?_cons_succ] at u0 u1; have HB4 := hide (HBEL.out.trans (hb4.mono HBEL.out.size)); clear hb4)
        go_roundw
        case rel => exact ⟨i + 1, by omega, by go_num, HB4.out.alloc HB4.out.size _⟩
        case measure => simp [intOf]; omega
      | none_ h1 h2 h4 =>
        subst h4
        rw [← HN.out] at h2
        have he := str_not h2
        have hne : (!N.toList == a.toList) = true := by rw [he]; rfl
        have hi1 : decide ((i : Int) + 1 < (r : Int)) = false := by rw [decide_eq_false_iff_not]; omega
        have hi2 : ((i : Int) + 1 == (r : Int)) = false := by rw [beq_eq_false_iff_ne]; omega
        have hr0 : ((r : Int) == 0) = true := by rw [beq_iff_eq]; omega
        clear h1 h2
        go_wp2_with (go_at_call 8; refine HC.out.mono ?_; rintro e w4 ⟨rfl, hb4⟩; have KF4 := hide ((KFR.out.keep hb4).alloc (.cells #[.string N, .string V, .bool X] 29)); have u0 := KF4.out.cell 0; have u1 := KF4.out.cell 1; simp only [List.getElem?_toArray, List.getElem?_cons_zero, List.getElem?_cons_succ] at u0 u1; have HB4 := hide (HBEL.out.trans (hb4.mono HBEL.out.size)); clear hb4)
        go_roundw
        case rel => exact ⟨i + 1, by omega, by go_num, HB4.out.alloc HB4.out.size _⟩
        case measure => simp [intOf]; omega
      | behind h0 h1 h2 =>
        rw [← HN.out] at h2
        have he := str_not h2
        have hne : (!N.toList == a.toList) = true := by rw [he]; rfl
        have hi1 : decide ((i : Int) + 1 < (r : Int)) = false := by rw [decide_eq_false_iff_not]; omega
        have hi2 : ((i : Int) + 1 == (r : Int)) = false := by rw [beq_eq_false_iff_ne]; omega
        have hr0 : ((r : Int) == 0) = false := by rw [beq_eq_false_iff_ne]; omega
        clear h0 h1 h2
        cases b with
        | true =>
          go_wp2_with (go_at_call 8; refine HC.out.mono ?_; rintro e w4 ⟨rfl, hb4⟩; have KF4 := hide ((KFR.out.keep hb4).alloc (.cells #[.string N, .string V, .bool X] 29)); have u0 := KF4.out.cell 0; have u1 := KF4.out.cell 1; simp only [List.getElem?_toArray, List.getElem?_cons_zero, List.getElem?_cons_succ] at u0 u1; have HB4 := hide (HBEL.out.trans (hb4.mono HBEL.out.size)); clear hb4)
          go_roundw
          case rel => exact ⟨i + 1, by omega, by go_num, HB4.out.alloc HB4.out.size _⟩
          case measure => simp [intOf]; omega
        | false =>
          go_wp2_with (go_at_call 8; refine HC.out.mono ?_; rintro e w4 ⟨rfl, hb4⟩; have KF4 := hide ((KFR.out.keep hb4).alloc (.cells #[.string N, .string V, .bool X] 29)); have u0 := KF4.out.cell 0; have u1 := KF4.out.cell 1; simp only [List.getElem?_toArray, List.getElem?_cons_zero, List.getElem?_cons_succ] at u0 u1; have HB4 := hide (HBEL.out.trans (hb4.mono HBEL.out.size)); clear hb4)
          go_roundw
          case rel => exact ⟨i + 1, by omega, by go_num, HB4.out.alloc HB4.out.size _⟩
          case measure => simp [intOf]; omega
      | behind2 h0 h1 h2 h3 =>
        rw [← HN.out] at h2
        have he := str_same h2
        have hne : (!N.toList == a.toList) = false := by rw [he]; rfl
        rw [← HV.out] at h3
        have hve := str_not h3
        have hi1 : decide ((i : Int) + 1 < (r : Int)) = false := by rw [decide_eq_false_iff_not]; omega
        have hi2 : ((i : Int) + 1 == (r : Int)) = false := by rw [beq_eq_false_iff_ne]; omega
        have hr0 : ((r : Int) == 0) = false := by rw [beq_eq_false_iff_ne]; omega
        clear h0 h1 h2 h3
        cases b with
        | true =>
          go_wp2_with (go_at_call 8; refine HC.out.mono ?_; rintro e w4 ⟨rfl, hb4⟩; have KF4 := hide ((KFR.out.keep hb4).alloc (.cells #[.string N, .string V, .bool X] 29)); have u0 := KF4.out.cell 0; have u1 := KF4.out.cell 1; simp only [List.getElem?_toArray, List.getElem?_cons_zero, List.getElem?_cons_succ] at u0 u1; have HB4 := hide (HBEL.out.trans (hb4.mono HBEL.out.size)); clear hb4)
          go_roundw
          case rel => exact ⟨i + 1, by omega, by go_num, HB4.out.alloc HB4.out.size _⟩
          case measure => simp [intOf]; omega
        | false =>
          go_wp2_with (go_at_call 8; refine HC.out.mono ?_; rintro e w4 ⟨rfl, hb4⟩; have KF4 := hide ((KFR.out.keep hb4).alloc (.cells #[.string N, .string V, .bool X] 29)); have u0 := KF4.out.cell 0; have u1 := KF4.out.cell 1; simp only [List.getElem?_toArray, List.getElem?_cons_zero, List.getElem?_cons_succ] at u0 u1; have HB4 := hide (HBEL.out.trans (hb4.mono HBEL.out.size)); clear hb4)
          go_roundw
          case rel => exact ⟨i + 1, by omega, by go_num, HB4.out.alloc HB4.out.size _⟩
          case measure => simp [intOf]; omega
      | behind3 h0 h1 h2 h3 h4 =>
        subst h4
        rw [← HN.out] at h2
        have he := str_same h2
        have hne : (!N.toList == a.toList) = false := by rw [he]; rfl
        rw [← HV.out] at h3
        have hve := str_same h3
        have hi1 : decide ((i : Int) + 1 < (r : Int)) = false := by rw [decide_eq_false_iff_not]; omega
        have hi2 : ((i : Int) + 1 == (r : Int)) = false := by rw [beq_eq_false_iff_ne]; omega
        have hr0 : ((r : Int) == 0) = false := by rw [beq_eq_false_iff_ne]; omega
        clear h0 h1 h2 h3
        go_wp2_with (go_at_call 8; refine HC.out.mono ?_; rintro e w4 ⟨rfl, hb4⟩; have KF4 := hide ((KFR.out.keep hb4).alloc (.cells #[.string N, .string V, .bool X] 29)); have u0 := KF4.out.cell 0; have u1 := KF4.out.cell 1; simp only [List.getElem?_toArray, List.getElem?_cons_zero, List.getElem?_cons_succ] at u0 u1; have HB4 := hide (HBEL.out.trans (hb4.mono HBEL.out.size)); clear hb4)
        go_roundw
        case rel => exact ⟨i + 1, by omega, by go_num, HB4.out.alloc HB4.out.size _⟩
        case measure => simp [intOf]; omega
    · have hge : ¬ (i : Int) + 1 ≤ 61 + (n : Int) := by omega
      have B4 := hide (B3.out.trans (HBEL.out.mono B3.out.size))
      cases b with
      | false =>
        go_wp2_with (go_at_call 7; refine (aw_dyntab _).mono ?_; rintro e w7 ⟨rfl, hb7⟩; have HB7 := hide hb7; clear hb7)
        all_goals
          go_ret
          exact ⟨rfl, B4.out.trans (HB7.out.mono B4.out.size)⟩
      | true =>
        have hr2 : 0 < r := HLE.out.2 rfl
        go_wp2_with (go_at_call 7; refine (aw_dyntab _).mono ?_; rintro e w7 ⟨rfl, hb7⟩; have HB7 := hide hb7; clear hb7)
        go_ret
        exact ⟨rfl, B4.out.trans (HB7.out.mono B4.out.size)⟩

theorem walk (m : Int) (A : Option Addr) (n c : Nat) (l : List Fd) (a v : ByteArray) (x : Bool) (w : World) (_w0 : (Lit.int .i64 m).wf = true) (hfl : FL w A n c l) (_w1 : a.size ≤ maxLen) (_w2 : v.size ≤ maxLen) :
    Calls Try.prog 5 #[.agg #[.int .i64 m, .slice A n c], .agg #[.string a, .string v, .bool x]] w fun e w' => e = .returned (.bool true) ∧ Below w.heap.size w w' := by
  cases h : lightB l with
  | false => exact walk_long m A n c l a v x w hfl h
  | true =>
    cases h2 : lightB [⟨a, v, x⟩] with
    | false => exact walk_long2 m A n c l a v x w hfl h h2
    | true => exact walk_right m A n c l a v x w hfl h h2
end Go.Proofs.Ytchndegcnjejiaa.dyntabPlaces
