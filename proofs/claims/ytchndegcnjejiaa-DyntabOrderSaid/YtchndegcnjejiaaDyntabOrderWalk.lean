/-
  DyntabOrder: its walk: for every list of fields and of sizes the Go text returns true, and leaves what was there as it was.
-/
import Derived.Test.YtchndegcnjejiaaDyAwake
import Derived.Test.YtchndegcnjejiaaFdOpen
import Derived.BigGuardPart
import Derived.Deep.RegionHeld3
namespace Go.Proofs.Ytchndegcnjejiaa.dyntabOrder
open Go.RowKit Go.Proofs.Ytchndegcnjejiaa

set_option maxRecDepth 100000 in
set_option maxHeartbeats 1600000 in
theorem walk_long (A A' : Option Addr) (n n' c c' : Nat) (l : List Fd) (w : World) (hfl : FL w A n c l) (h : lightB l = false) :
    Calls Try.prog 4 #[.slice A n c, .slice A' n' c'] w fun e w' => e = .returned (.bool true) ∧ Below w.heap.size w w' := by
  have HL := hide (rf_Light A n c l w hfl)
  rw [h] at HL
  clear h hfl
  go_enter Try.func4, Try.ntmps4
  go_wp2_with (first
    | (go_at_call 6; ((with_reducible refine HL.out.mono ?_); rintro e w2 ⟨rfl, rfl⟩))
    | (go_at_call 7; refine (aw_dyntab _).mono ?_; rintro e w7 ⟨rfl, hb7⟩; have HB7 := hide hb7; clear hb7))
  go_ret
  exact ⟨rfl, HB7.out⟩

set_option maxRecDepth 100000 in
set_option maxHeartbeats 1600000 in
theorem walk_long2 (A A' : Option Addr) (n n' c c' : Nat) (l : List Fd) (w : World) (hfl : FL w A n c l) (h : lightB l = true) (h2 : (30 : Int) < (n' : Int)) :
    Calls Try.prog 4 #[.slice A n c, .slice A' n' c'] w fun e w' => e = .returned (.bool true) ∧ Below w.heap.size w w' := by
  have HL := hide (rf_Light A n c l w hfl)
  rw [h] at HL
  clear h hfl
  go_enter Try.func4, Try.ntmps4
  go_wp2_with (first
    | (go_at_call 6; ((with_reducible refine HL.out.mono ?_); rintro e w2 ⟨rfl, rfl⟩))
    | (go_at_call 7; refine (aw_dyntab _).mono ?_; rintro e w7 ⟨rfl, hb7⟩; have HB7 := hide hb7; clear hb7))
  go_ret
  exact ⟨rfl, HB7.out⟩

theorem ow_New (w : World) : Calls Try.prog 18 #[.int .i64 4096] w fun e w' => e = .returned (.tuple #[.agg #[.int .i64 4096, .slice none 0 0], .int .i64 0]) ∧ Below w.heap.size w w' := dy_New 4096 w

/-- What holds at each round's head. -/
def Ord (n : Nat) (w : World) (g : Nat) (al k : Value) (wr : World) : Prop :=
  ∃ (i : Nat) (M : Int) (At Aa : Option Addr) (nt ct ca : Nat) (T : List Fd), i ≤ n ∧ k = .int .i64 (i : Int) ∧ al = .slice Aa nt ca ∧ BlkIs wr g 27 #[.int .i64 M, .slice At nt ct] ∧ FL wr At nt ct T ∧ FL wr Aa nt ca T ∧ chkI M T = 0 ∧ Below w.heap.size w wr

theorem res_ok {M : Int} {T : List Fd} (h : chkI M T = 0) {q : Int} (hq : rmB q = true) : resM M T q = q ∧ resL M T q = T.take (fitK T q) ∧ resE M T q = 0 ∧ chkI q (T.take (fitK T q)) = 0 := by
  have e : resE M T q = 0 := by unfold resE; rw [if_pos h, if_pos hq]
  have e1 : resM M T q = q := by unfold resM; rw [if_pos e]
  have e2 : resL M T q = T.take (fitK T q) := by unfold resL; rw [if_pos e]
  have := res_may h hq
  rw [e1, e2] at this
  exact ⟨e1, e2, e, this⟩
theorem chk_small {M : Int} {T : List Fd} (h : chkI M T = 0) : (szs T : Int) ≤ 4096 ∧ (T.length : Int) ≤ 128 := by
  obtain ⟨h1, _, h3⟩ := chkI_ok.1 h
  have h2 := rmB_bd h1
  have := szs_len T
  omega
/-- Where a field went in: the list is the newest of what came. -/
theorem add_newest {M : Int} {T : List Fd} (h : chkI M T = 0) (f : Fd) {l : List Fd} {k : Nat} (hT : T = l.take k) :
    (addL M T f).length ≤ l.length + 1 ∧ addL M T f = ((⟨f.n, f.v, false⟩ : Fd) :: l).take (addL M T f).length ∧ (M < (szF f : Int) → addL M T f = []) ∧ (¬ M < (szF f : Int) → ∃ r, addL M T f = ⟨f.n, f.v, false⟩ :: r) := by
  unfold addL addK
  rw [if_pos h]
  by_cases hm : M < (szF f : Int)
  · rw [if_pos hm]
    exact ⟨by simp, rfl, fun _ => rfl, fun h => absurd hm h⟩
  · rw [if_neg hm]
    refine ⟨?_, ?_, fun h => absurd h hm, fun _ => ⟨_, rfl⟩⟩
    · subst hT
      have hle := fitK_le (l.take k) (M - (szF f : Int))
      rw [List.length_take] at hle
      simp
      omega
    · subst hT
      have hle := fitK_le (l.take k) (M - (szF f : Int))
      rw [List.length_take] at hle
      simp only [List.length_cons, List.take_succ_cons, List.take_take, List.length_take]
      congr 1
      congr 1
      omega

set_option maxRecDepth 100000 in
set_option maxHeartbeats 6400000 in
theorem walk_right (A : Option Addr) (n c : Nat) (l : List Fd) (A' : Option Addr) (n' c' : Nat) (zs : Nat → Int) (w : World) (hfl : FL w A n c l) (hul : UL .u16 w A' n' c' zs) (h : lightB l = true) (h2 : ¬ (30 : Int) < (n' : Int)) :
    Calls Try.prog 4 #[.slice A n c, .slice A' n' c'] w fun e w' => e = .returned (.bool true) ∧ Below w.heap.size w w' := by
  have hz := run_zero_is tab_zero
  have hzf := run_zero_is st_zero_raw
  have HL := hide (rf_Light A n c l w hfl)
  rw [h] at HL
  obtain ⟨h30, hsz, hall⟩ := light_szs h
  have hn30 : (n : Int) ≤ 30 := by rw [← hfl.len]; exact h30
  have HALL := hide hall
  have HFL0 := hide hfl
  have HUL := hide hul
  clear h hfl hul h30 hsz hall
  go_enter Try.func4, Try.ntmps4
  go_wp2_with fail
  refine HL.out.mono ?_
  rintro e w2 ⟨rfl, rfl⟩
  go_wp2_with fail
  refine (ow_New _).mono ?_
  rintro e w1 ⟨rfl, hb1⟩
  have K0 := hide (BlkIs.new w1 27 #[.int .i64 4096, .slice none 0 0])
  have B0 := hide (hb1.alloc hb1.size (.cells #[.int .i64 4096, .slice none 0 0] 27))
  have HG := hide hb1.size
  clear hb1 HL
  go_wp2_with fail
  obtain ⟨g5, hg5⟩ : ∃ g, g = w1.heap.size := ⟨_, rfl⟩
  rw [← hg5] at K0 HG ⊢
  clear hg5
  go_loopw [7, 8] (Ord n w g5) (fun _ k _ => n - (intOf k).toNat)
  case atStart => exact ⟨0, 4096, none, none, 0, 0, 0, [], by omega, rfl, rfl, K0.out, FL.none_ _, FL.none_ _, rfl, B0.out⟩
  case round =>
    obtain ⟨i, M, At, Aa, nt, ct, ca, T, hi, rfl, rfl, hk5, hft, hfa, hck, hb⟩ := hrel
    clear K0 B0
    have HB := hide hb
    by_cases hlt : i < n
    · have hlt' : (i : Int) < (n : Int) := by omega
      obtain ⟨f0, bl, ol, hf0, rfl, hbl0, c0, c1, c2⟩ := HFL0.out.round hlt
      have HC0 := hide c0
      have HC1 := hide c1
      have HC2 := hide c2
      have HF0 := hide hf0
      have HBL := hide hbl0
      clear c0 c1 c2 hf0 hbl0
      obtain ⟨W, hW⟩ : ∃ W, W = wr := ⟨_, rfl⟩
      rw [← hW] at hk5 hft hfa hb HB ⊢
      have K5 := hide hk5
      have FT := hide hft
      have FA := hide hfa
      have HCK := hide hck
      have B := hide hb
      have hnt : (nt : Int) ≤ 128 := by have := (chk_small hck).2; rw [hft.len] at this; exact this
      clear hk5 hft hfa hck hb hW
      by_cases hin : i < n'
      · have hin' : (i : Int) < (n' : Int) := by omega
        obtain ⟨b0, o0, rfl, hbz, hzc, hzw⟩ := HUL.out.at_ i hin
        have hzb := bounds_u16 hzw
        obtain ⟨z, hz0⟩ : ∃ z, z = zs i := ⟨_, rfl⟩
        rw [← hz0] at hzc hzb
        obtain ⟨q, hq⟩ : ∃ q, q = z % 4097 := ⟨_, rfl⟩
        have hqb : rmB q = true := rmB_yes (by omega) (by omega)
        obtain ⟨e1, e2, e3, e4⟩ := res_ok HCK.out hqb
        have HRS := hide (fun w' (h : FL w' At nt ct T) => dy_Resize M At nt ct T q w' h (by have := (chk_small HCK.out).1; omega) (by omega))
        rw [e1, e2, e3] at HRS
        have HZC := hide ((B.out.cell (p := ⟨b0, o0 + i, none⟩) hbz).trans hzc)
        have hbl : b0 < W.heap.size := Nat.lt_of_lt_of_le hbz B.out.size
        have hbg : ¬ b0 = g5 := by have := HG.out; omega
        have HCK2 := hide e4
        have HT2 := hide (show ∃ k, T.take (fitK T q) = T.take k from ⟨_, rfl⟩)
        obtain ⟨T2, hT2⟩ : ∃ T2, T2 = T.take (fitK T q) := ⟨_, rfl⟩
        rw [← hT2] at HRS HCK2 HT2
        have hwz : IntKind.i64.wrap z = z := IntWalk.i64_in _ (by omega)
        have hmz : z.tmod 4097 = q := by rw [hq, Int.tmod_eq_emod_of_nonneg (by omega)]
        have hwq : IntKind.i64.wrap q = q := IntWalk.i64_in _ (by omega)
        have HQ := hide (show 0 ≤ q ∧ q ≤ 4096 by omega)
        clear hzc hzw hz0 hq hqb e1 e2 e3 e4 hT2 hbz hzb
        go_wp2_with fail
        refine wp_region_noPanic ?_
        refine wp_region_held_drew (S := fun w' => KB (· = g5) W w') (by kernel_rfl) (KB.refl _ _).drew (fun hS => ?_)
        refine wpAnyH_take (i := 1) (v := ?_) (by simp only [List.getElem?_toArray, List.getElem?_cons_succ, List.getElem?_cons_zero] <;> exact rfl) (by kernel_rfl) (by kernel_rfl) (by kernel_rfl) (fun _ _ _ h => h) (Or.inl ⟨by rfl, ?_⟩) hS ?_
        rotate_left
        focus (intro w' hw'; go_simp; all_goals with_reducible rfl)
        try simp only [Act.put, List.setIfInBounds_toArray, List.set_cons_zero, List.set_cons_succ]
        refine wpAnyH_take (i := 2) (v := ?_) (by simp only [List.getElem?_toArray, List.getElem?_cons_succ, List.getElem?_cons_zero] <;> exact rfl) (by kernel_rfl) (by kernel_rfl) (by kernel_rfl) (fun _ _ _ h => h) (Or.inl ⟨by rfl, ?_⟩) hS ?_
        rotate_left
        focus (intro w' hw'; go_simp; all_goals with_reducible rfl)
        try simp only [Act.put, List.setIfInBounds_toArray, List.set_cons_zero, List.set_cons_succ]
        refine wpAnyH_take (i := 3) (v := ?_) (by simp only [List.getElem?_toArray, List.getElem?_cons_succ, List.getElem?_cons_zero] <;> exact rfl) (by kernel_rfl) (by kernel_rfl) (by kernel_rfl) (fun _ _ _ h => h) (Or.inl ⟨by rfl, ?_⟩) hS ?_
        rotate_left
        focus (intro w' hw'; go_simp; all_goals with_reducible rfl)
        try simp only [Act.put, List.setIfInBounds_toArray, List.set_cons_zero, List.set_cons_succ]
        refine wpAnyH_take (i := 4) (v := ?_) (by simp only [List.getElem?_toArray, List.getElem?_cons_succ, List.getElem?_cons_zero] <;> exact rfl) (by kernel_rfl) (by kernel_rfl) (by kernel_rfl) (fun _ _ _ h => h) (Or.inl ⟨by rfl, ?_⟩) hS ?_
        rotate_left
        focus (intro w' hw'; have z0 := (hw'.cell (p := ⟨b0, o0 + i, none⟩) hbl hbg).trans HZC.out; go_simp; all_goals with_reducible rfl)
        try simp only [Act.put, List.setIfInBounds_toArray, List.set_cons_zero, List.set_cons_succ]
        refine wpAnyH_take (i := 5) (v := ?_) (by simp only [List.getElem?_toArray, List.getElem?_cons_succ, List.getElem?_cons_zero] <;> exact rfl) (by kernel_rfl) (by kernel_rfl) (by kernel_rfl) (fun _ _ _ h => h) (Or.inl ⟨by rfl, ?_⟩) hS ?_
        rotate_left
        focus (intro w' hw'; go_simp; all_goals with_reducible rfl)
        try simp only [Act.put, List.setIfInBounds_toArray, List.set_cons_zero, List.set_cons_succ]
        refine wpAnyH_take (i := 6) (v := ?_) (by simp only [List.getElem?_toArray, List.getElem?_cons_succ, List.getElem?_cons_zero] <;> exact rfl) (by kernel_rfl) (by kernel_rfl) (by kernel_rfl) (fun _ _ _ h => h) (Or.inl ⟨by rfl, ?_⟩) hS ?_
        rotate_left
        focus (intro w' hw'; go_simp; all_goals with_reducible rfl)
        try simp only [Act.put, List.setIfInBounds_toArray, List.set_cons_zero, List.set_cons_succ]
        refine wpAnyH_ready (rs := [0]) (by kernel_rfl) (by simp) ?_
        refine AllReadyH.cons (o := _) (by simp only [List.getElem?_toArray, List.getElem?_cons_zero] <;> exact rfl) (fun K hK => ?_) ?_
        focus (
          have q0 := K5.out.drew.cell 0
          have q1 := K5.out.drew.cell 1
          simp only [List.getElem?_toArray, List.getElem?_cons_zero, List.getElem?_cons_succ] at q0 q1
          go_simp
          refine hK.out _ _ hS (fun hS => ?_)
          clear hK K
          try simp only [Act.put, List.setIfInBounds_toArray, List.set_cons_zero, List.set_cons_succ])
        rotate_left
        focus (exact AllReadyH.nil)
        refine wpAnyH_ready (rs := [7]) (by kernel_rfl) (by simp) ?_
        refine AllReadyH.cons (o := _) (by simp only [List.getElem?_toArray, List.getElem?_cons_succ, List.getElem?_cons_zero] <;> exact rfl) (fun K hK => ?_) ?_
        focus (
          go_simp
          go_at_call 19
          refine (HRS.out _ FT.out.drew).mono ?_
          rintro e w3 ⟨A2, n2, c2, rfl, hf3, hb3⟩
          have K53 := hide (K5.out.drew.keep hb3)
          have F3 := hide hf3
          have FA3 := hide (FA.out.drew.keep hb3)
          have hS := hS.trans (KB.of_below (· = g5) hb3)
          have B3 := hide (B.out.drew.trans (hb3.mono B.out.drew.size))
          clear hb3 hf3
          go_wp2_with fail
          refine hK.out _ _ hS (fun hS => ?_)
          clear hK K
          try simp only [Act.put, List.setIfInBounds_toArray, List.set_cons_zero, List.set_cons_succ])
        rotate_left
        focus (exact AllReadyH.nil)
        refine wpAnyH_take (i := 8) (v := ?_) (by simp only [List.getElem?_toArray, List.getElem?_cons_succ, List.getElem?_cons_zero] <;> exact rfl) (by kernel_rfl) (by kernel_rfl) (by kernel_rfl) (fun _ _ _ h => h) (Or.inl ⟨by rfl, ?_⟩) hS ?_
        rotate_left
        focus (intro w' hw'; go_simp; all_goals with_reducible rfl)
        try simp only [Act.put, List.setIfInBounds_toArray, List.set_cons_zero, List.set_cons_succ]
        refine wpAnyH_take (i := 9) (v := ?_) (by simp only [List.getElem?_toArray, List.getElem?_cons_succ, List.getElem?_cons_zero] <;> exact rfl) (by kernel_rfl) (by kernel_rfl) (by kernel_rfl) (fun _ _ _ h => h) (Or.inl ⟨by rfl, ?_⟩) hS ?_
        rotate_left
        focus (intro w' hw'; go_simp; all_goals with_reducible rfl)
        try simp only [Act.put, List.setIfInBounds_toArray, List.set_cons_zero, List.set_cons_succ]
        refine wpAnyH_take (i := 10) (v := ?_) (by simp only [List.getElem?_toArray, List.getElem?_cons_succ, List.getElem?_cons_zero] <;> exact rfl) (by kernel_rfl) (by kernel_rfl) (by kernel_rfl) (fun _ _ _ h => h) (Or.inl ⟨by rfl, ?_⟩) hS ?_
        rotate_left
        focus (intro w' hw'; go_simp; all_goals with_reducible rfl)
        try simp only [Act.put, List.setIfInBounds_toArray, List.set_cons_zero, List.set_cons_succ]
        refine wpAnyH_ready (rs := [11]) (by kernel_rfl) (by simp) ?_
        refine AllReadyH.cons (o := _) (by simp only [List.getElem?_toArray, List.getElem?_cons_succ, List.getElem?_cons_zero] <;> exact rfl) (fun K hK => ?_) ?_
        focus (
          have s0 := K53.out.cell 0
          have s1 := K53.out.cell 1
          simp only [List.getElem?_toArray, List.getElem?_cons_zero, List.getElem?_cons_succ] at s0 s1
          have z0 := K53.out.frozen 0
          have z1 := K53.out.frozen 1
          go_simp
          refine hK.out _ _ ((hS.setCell (fun _ => rfl) _).setCell (fun _ => rfl) _) (fun hS => ?_)
          clear hK K
          try simp only [Act.put, List.setIfInBounds_toArray, List.set_cons_zero, List.set_cons_succ])
        rotate_left
        focus (exact AllReadyH.nil)
        refine wpAnyH_take (i := 12) (v := ?_) (by simp only [List.getElem?_toArray, List.getElem?_cons_succ, List.getElem?_cons_zero] <;> exact rfl) (by kernel_rfl) (by kernel_rfl) (by kernel_rfl) (fun _ _ _ h => h) (Or.inl ⟨by rfl, ?_⟩) hS ?_
        rotate_left
        focus (intro w' hw'; go_simp; all_goals with_reducible rfl)
        try simp only [Act.put, List.setIfInBounds_toArray, List.set_cons_zero, List.set_cons_succ]
        refine wpAnyH_done (by kernel_rfl) ?_ _
        refine NoPanic.normal ?_
        have kb := ((KB.refl (· = g5) w3).setCell (p := ⟨g5, 0, none⟩) (fun _ => rfl) (.int .i64 q)).setCell (p := ⟨g5, 1, none⟩) (fun _ => rfl) (.slice A2 n2 c2)
        have K52 := hide (show BlkIs ((w3.setCell ⟨g5, 0, none⟩ (.int .i64 q)).setCell ⟨g5, 1, none⟩ (.slice A2 n2 c2)) g5 27 #[.int .i64 q, .slice A2 n2 c2] from (K53.out.put 0 _).put 1 _)
        have FT2 := hide (F3.out.kb K53.out kb)
        have FA2 := hide (FA3.out.kb K53.out kb)
        have B2 := hide (below_kb2 B3.out kb (Nat.le_refl _) HG.out)
        clear kb hS K53 F3 FA3 B3 K5 FT FA B HZC hbl hbg hwz hmz hwq HRS
        generalize ((w3.setCell ⟨g5, 0, none⟩ (.int .i64 q)).setCell ⟨g5, 1, none⟩ (.slice A2 n2 c2)) = V at K52 FT2 FA2 B2 ⊢
        obtain ⟨M2, hM2⟩ : ∃ M2, M2 = q := ⟨_, rfl⟩
        rw [← hM2] at K52 HCK2 ⊢
        clear hM2
        go_wp2_with fail
        have HPRE := HT2
        have hbg : ¬ bl = g5 := by have h1 := HBL.out; have h2 := HG.out; omega
        have hbV : bl < V.heap.size := Nat.lt_of_lt_of_le HBL.out B2.out.size
        have HD0 := hide ((B2.out.cell (p := ⟨bl, ol + i * 3, none⟩) HBL.out).trans HC0.out)
        have HD1 := hide ((B2.out.cell (p := ⟨bl, ol + i * 3 + 1, none⟩) HBL.out).trans HC1.out)
        have HD2 := hide ((B2.out.cell (p := ⟨bl, ol + i * 3 + 2, none⟩) HBL.out).trans HC2.out)
        have hsz0 : (szF f0 : Int) ≤ 432 := HALL.out f0 (List.mem_of_getElem? HF0.out)
        have HADD := hide (fun w' (h : FL w' A2 n2 c2 T2) => dy_Add M2 A2 n2 c2 T2 f0 w' h (by have := (chk_small HCK2.out).1; omega) (by omega) (by have := (chk_small HCK2.out).2; rw [h.len] at this; omega))
        obtain ⟨kk, hkk⟩ := HPRE.out
        obtain ⟨a1, a2, a3, a4⟩ := add_newest HCK2.out f0 hkk
        have hmay := add_may f0 HCK2.out
        obtain ⟨L2, hL2⟩ : ∃ L2, L2 = addL M2 T2 f0 := ⟨_, rfl⟩
        rw [← hL2] at HADD a1 a2 a3 a4 hmay
        have HA1 := hide a1
        have HA2 := hide a2
        have HA3 := hide a3
        have HA4 := hide a4
        have HMAY := hide hmay
        have HSZ := hide (show (szF f0 : Int) = ((f0.n.size + f0.v.size + 32 : Nat) : Int) from rfl)
        have HSZ0 := hide hsz0
        obtain ⟨fa, hfa⟩ : ∃ a, a = f0.n := ⟨_, rfl⟩
        obtain ⟨fb, hfb⟩ : ∃ a, a = f0.v := ⟨_, rfl⟩
        obtain ⟨fx, hfx⟩ : ∃ a, a = f0.x := ⟨_, rfl⟩
        have HC0 := HC0
        have HC1 := HC1
        have HC2 := HC2
        rw [← hfa] at HD0 HADD HA2 HA4 HSZ HC0
        rw [← hfb] at HD1 HADD HA2 HA4 HSZ HC1
        rw [← hfx] at HD2 HADD HC2
        have hkT := hide FA2.out.len
        clear a1 a2 a3 a4 hmay hkk hL2 hfa hfb hfx hsz0 HCK2 HPRE
        go_wp2_with fail
        refine wp_region_noPanic ?_
        refine wp_region_held_drew (S := fun w' => KB (· = g5) V w') (by kernel_rfl) (KB.refl _ _).drew (fun hS => ?_)
        refine wpAnyH_take (i := 1) (v := ?_) (by simp only [List.getElem?_toArray, List.getElem?_cons_succ, List.getElem?_cons_zero] <;> exact rfl) (by kernel_rfl) (by kernel_rfl) (by kernel_rfl) (fun _ _ _ h => h) (Or.inl ⟨by rfl, ?_⟩) hS ?_
        rotate_left
        focus (intro w' hw'; go_simp; all_goals with_reducible rfl)
        try simp only [Act.put, List.setIfInBounds_toArray, List.set_cons_zero, List.set_cons_succ]
        refine wpAnyH_take (i := 2) (v := ?_) (by simp only [List.getElem?_toArray, List.getElem?_cons_succ, List.getElem?_cons_zero] <;> exact rfl) (by kernel_rfl) (by kernel_rfl) (by kernel_rfl) (fun _ _ _ h => h) (Or.inl ⟨by rfl, ?_⟩) hS ?_
        rotate_left
        focus (intro w' hw'; go_simp; all_goals with_reducible rfl)
        try simp only [Act.put, List.setIfInBounds_toArray, List.set_cons_zero, List.set_cons_succ]
        refine wpAnyH_take (i := 3) (v := ?_) (by simp only [List.getElem?_toArray, List.getElem?_cons_succ, List.getElem?_cons_zero] <;> exact rfl) (by kernel_rfl) (by kernel_rfl) (by kernel_rfl) (fun _ _ _ h => h) (Or.inl ⟨by rfl, ?_⟩) hS ?_
        rotate_left
        focus (intro w' hw'; go_simp; all_goals with_reducible rfl)
        try simp only [Act.put, List.setIfInBounds_toArray, List.set_cons_zero, List.set_cons_succ]
        refine wpAnyH_take (i := 4) (v := ?_) (by simp only [List.getElem?_toArray, List.getElem?_cons_succ, List.getElem?_cons_zero] <;> exact rfl) (by kernel_rfl) (by kernel_rfl) (by kernel_rfl) (fun _ _ _ h => h) (Or.inl ⟨by rfl, ?_⟩) hS ?_
        rotate_left
        focus (intro w' hw'; have c0 := (hw'.cell (p := ⟨bl, ol + i * 3, none⟩) hbV hbg).trans HD0.out; have c1 := (hw'.cell (p := ⟨bl, ol + i * 3 + 1, none⟩) hbV hbg).trans HD1.out; have c2 := (hw'.cell (p := ⟨bl, ol + i * 3 + 2, none⟩) hbV hbg).trans HD2.out; go_simp; all_goals with_reducible rfl)
        try simp only [Act.put, List.setIfInBounds_toArray, List.set_cons_zero, List.set_cons_succ]
        refine wpAnyH_ready (rs := [0]) (by kernel_rfl) (by simp) ?_
        refine AllReadyH.cons (o := _) (by simp only [List.getElem?_toArray, List.getElem?_cons_zero] <;> exact rfl) (fun K hK => ?_) ?_
        focus (
          have q0 := K52.out.drew.cell 0
          have q1 := K52.out.drew.cell 1
          simp only [List.getElem?_toArray, List.getElem?_cons_zero, List.getElem?_cons_succ] at q0 q1
          go_simp
          refine hK.out _ _ hS (fun hS => ?_)
          clear hK K
          try simp only [Act.put, List.setIfInBounds_toArray, List.set_cons_zero, List.set_cons_succ])
        rotate_left
        focus (exact AllReadyH.nil)
        refine wpAnyH_ready (rs := [5]) (by kernel_rfl) (by simp) ?_
        refine AllReadyH.cons (o := _) (by simp only [List.getElem?_toArray, List.getElem?_cons_succ, List.getElem?_cons_zero] <;> exact rfl) (fun K hK => ?_) ?_
        focus (
          go_simp
          go_at_call 20
          refine (HADD.out _ FT2.out.drew).mono ?_
          rintro e w4 ⟨A4, n4, c4, rfl, hf4, hb4⟩
          have K54 := hide (K52.out.drew.keep hb4)
          have F4 := hide hf4
          have FA4 := hide (FA2.out.drew.keep hb4)
          have hS := hS.trans (KB.of_below (· = g5) hb4)
          have B4 := hide (B2.out.drew.trans (hb4.mono B2.out.drew.size))
          clear hb4 hf4
          go_wp2_with fail
          refine hK.out _ _ hS (fun hS => ?_)
          clear hK K
          try simp only [Act.put, List.setIfInBounds_toArray, List.set_cons_zero, List.set_cons_succ])
        rotate_left
        focus (exact AllReadyH.nil)
        refine wpAnyH_ready (rs := [6]) (by kernel_rfl) (by simp) ?_
        refine AllReadyH.cons (o := _) (by simp only [List.getElem?_toArray, List.getElem?_cons_succ, List.getElem?_cons_zero] <;> exact rfl) (fun K hK => ?_) ?_
        focus (
          have s0 := K54.out.cell 0
          have s1 := K54.out.cell 1
          simp only [List.getElem?_toArray, List.getElem?_cons_zero, List.getElem?_cons_succ] at s0 s1
          have z0 := K54.out.frozen 0
          have z1 := K54.out.frozen 1
          go_simp
          refine hK.out _ _ ((hS.setCell (fun _ => rfl) _).setCell (fun _ => rfl) _) (fun hS => ?_)
          clear hK K
          try simp only [Act.put, List.setIfInBounds_toArray, List.set_cons_zero, List.set_cons_succ])
        rotate_left
        focus (exact AllReadyH.nil)
        refine wpAnyH_done (by kernel_rfl) ?_ _
        refine NoPanic.normal ?_
        have kb := ((KB.refl (· = g5) w4).setCell (p := ⟨g5, 0, none⟩) (fun _ => rfl) (.int .i64 M2)).setCell (p := ⟨g5, 1, none⟩) (fun _ => rfl) (.slice A4 n4 c4)
        have K55 := hide (show BlkIs ((w4.setCell ⟨g5, 0, none⟩ (.int .i64 M2)).setCell ⟨g5, 1, none⟩ (.slice A4 n4 c4)) g5 27 #[.int .i64 M2, .slice A4 n4 c4] from (K54.out.put 0 _).put 1 _)
        have FT5 := hide (F4.out.kb K54.out kb)
        have FA5 := hide (FA4.out.kb K54.out kb)
        have B5 := hide (below_kb2 B4.out kb (Nat.le_refl _) HG.out)
        clear kb hS K54 F4 FA4 B4 K52 FT2 FA2 B2 hbV hbg HD0 HD1 HD2 HADD
        generalize ((w4.setCell ⟨g5, 0, none⟩ (.int .i64 M2)).setCell ⟨g5, 1, none⟩ (.slice A4 n4 c4)) = V2 at K55 FT5 FA5 B5 ⊢
        have d0 := (B5.out.cell (p := ⟨bl, ol + i * 3, none⟩) HBL.out).trans HC0.out
        have d1 := (B5.out.cell (p := ⟨bl, ol + i * 3 + 1, none⟩) HBL.out).trans HC1.out
        have d2 := (B5.out.cell (p := ⟨bl, ol + i * 3 + 2, none⟩) HBL.out).trans HC2.out
        have HO := hide (World.ownsRow_lit (size := 3) (base := V2.heap.size + 1) (e := 29) (V2.alloc (.cells #[.string fa, .string fb, .bool false] 29)) #[.string fa, .string fb, .bool false] 1 (by simp) (by unfold maxLen; omega) rfl)
        rw [World.size_alloc] at HO
        have FAO := hide ((FA5.out.alloc (.cells #[.string fa, .string fb, .bool false] 29)).alloc (.cells #[.string fa, .string fb, .bool false] 29))
        go_wp2_with (at_builtin; refine wpList_append_fl _ rfl (.tmp 62) (.tmp 63) rfl (V2.heap.size + 1) _ 1 [⟨fa, fb, false⟩] rfl HO.out Aa nt ca T rfl FAO.out (by omega) (by simp) ?_; intro v6 w6 hown6 hg6; obtain ⟨A6, c6, rfl, hf6⟩ := own_fields hown6; have hb6 : Below (V2.alloc (.cells #[.string fa, .string fb, .bool false] 29)).heap.size (V2.alloc (.cells #[.string fa, .string fb, .bool false] 29)) w6 := own_below_f HO.out ((Below.refl _ _).alloc (Nat.le_refl _) _) (by simp) (Nat.le_refl _) hg6; have K56 := hide ((K55.out.alloc (.cells #[.string fa, .string fb, .bool false] 29)).keep hb6); have K9 := hide ((BlkIs.new V2 29 #[.string fa, .string fb, .bool false]).keep hb6); have FT6 := hide ((FT5.out.alloc (.cells #[.string fa, .string fb, .bool false] 29)).keep hb6); have FA6 := hide hf6; have B6 := hide ((B5.out.alloc B5.out.size (.cells #[.string fa, .string fb, .bool false] 29)).trans (hb6.mono (by have := B5.out.size; simp; omega))); clear hown6 hg6 hf6 hb6)
        obtain ⟨na, hna⟩ : ∃ na, na = 1 + nt := ⟨_, rfl⟩
        rw [← hna] at FA6 ⊢
        obtain ⟨g9, hg9⟩ : ∃ g, g = V2.heap.size := ⟨_, rfl⟩
        rw [← hg9] at K9 ⊢
        have hn4 : n4 = L2.length := FT6.out.len.symm
        have hLle : n4 ≤ na := by have h1 := HA1.out; have h2 := hkT.out; omega
        have hLc : n4 ≤ c6 := Nat.le_trans hLle FA6.out.le
        have hLi : decide ((na : Int) < (n4 : Int)) = false := by rw [decide_eq_false_iff_not]; omega
        have hLn : decide (na < n4) = false := by rw [decide_eq_false_iff_not]; omega
        have hEQ := hide (show L2 = (([⟨fa, fb, false⟩] : List Fd) ++ T).take n4 by rw [hn4]; exact HA2.out)
        have hn4b : (n4 : Int) ≤ 1000000 := by have := hnt; omega
        have hszL := hide (chk_small HMAY.out).1
        have HN4 := hide hn4
        have HLC := hide hLle
        clear hna hg9 d0 d1 d2 HO FAO K55 FT5 FA5 B5 hn4
        refine wp_region_noPanic ?_
        refine wp_region_held_drew (S := fun w' => Below w6.heap.size w6 w') (by kernel_rfl) (Below.refl _ _).drew (fun hS => ?_)
        refine wpAnyH_take (i := 0) (v := ?_) (by simp only [List.getElem?_toArray, List.getElem?_cons_zero] <;> exact rfl) (by kernel_rfl) (by kernel_rfl) (by kernel_rfl) (fun _ _ _ h => h) (Or.inl ⟨by rfl, ?_⟩) hS ?_
        rotate_left
        focus (intro w' hw'; have kk := K56.out.keep hw'; have c0 := kk.cell 0; have c1 := kk.cell 1; simp only [List.getElem?_toArray, List.getElem?_cons_zero, List.getElem?_cons_succ] at c0 c1; go_simp; all_goals with_reducible rfl)
        try simp only [Act.put, List.setIfInBounds_toArray, List.set_cons_zero, List.set_cons_succ]
        refine wpAnyH_ready (rs := [1]) (by kernel_rfl) (by simp) ?_
        refine AllReadyH.cons (o := _) (by simp only [List.getElem?_toArray, List.getElem?_cons_succ, List.getElem?_cons_zero] <;> exact rfl) (fun K hK => ?_) ?_
        focus (
          go_simp
          go_at_call 14
          refine (dy_Check M2 A4 n4 c4 L2 _ (FT6.out.keep hS) (by have := hszL.out; omega)).mono ?_
          rw [HMAY.out]
          rintro e wc1 ⟨rfl, hb⟩
          have hS := hS.trans (hb.mono hS.size)
          clear hb
          go_wp2_with fail
          refine hK.out _ _ hS (fun hS => ?_)
          clear hK K
          try simp only [Act.put, List.setIfInBounds_toArray, List.set_cons_zero, List.set_cons_succ])
        rotate_left
        focus (exact AllReadyH.nil)
        refine wpAnyH_take (i := 2) (v := ?_) (by simp only [List.getElem?_toArray, List.getElem?_cons_succ, List.getElem?_cons_zero] <;> exact rfl) (by kernel_rfl) (by kernel_rfl) (by kernel_rfl) (fun _ _ _ h => h) (Or.inl ⟨by rfl, ?_⟩) hS ?_
        rotate_left
        focus (intro w' hw'; go_simp; all_goals with_reducible rfl)
        try simp only [Act.put, List.setIfInBounds_toArray, List.set_cons_zero, List.set_cons_succ]
        refine wpAnyH_take (i := 3) (v := ?_) (by simp only [List.getElem?_toArray, List.getElem?_cons_succ, List.getElem?_cons_zero] <;> exact rfl) (by kernel_rfl) (by kernel_rfl) (by kernel_rfl) (fun _ _ _ h => h) (Or.inl ⟨by rfl, ?_⟩) hS ?_
        rotate_left
        focus (intro w' hw'; go_simp; all_goals with_reducible rfl)
        try simp only [Act.put, List.setIfInBounds_toArray, List.set_cons_zero, List.set_cons_succ]
        refine wpAnyH_take (i := 4) (v := ?_) (by simp only [List.getElem?_toArray, List.getElem?_cons_succ, List.getElem?_cons_zero] <;> exact rfl) (by kernel_rfl) (by kernel_rfl) (by kernel_rfl) (fun _ _ _ h => h) (Or.inl ⟨by rfl, ?_⟩) hS ?_
        rotate_left
        focus (intro w' hw'; go_simp; all_goals with_reducible rfl)
        try simp only [Act.put, List.setIfInBounds_toArray, List.set_cons_zero, List.set_cons_succ]
        refine wpAnyH_take (i := 5) (v := ?_) (by simp only [List.getElem?_toArray, List.getElem?_cons_succ, List.getElem?_cons_zero] <;> exact rfl) (by kernel_rfl) (by kernel_rfl) (by kernel_rfl) (fun _ _ _ h => h) (Or.inl ⟨by rfl, ?_⟩) hS ?_
        rotate_left
        focus (intro w' hw'; have kk := K56.out.keep hw'; have c0 := kk.cell 0; have c1 := kk.cell 1; simp only [List.getElem?_toArray, List.getElem?_cons_zero, List.getElem?_cons_succ] at c0 c1; go_simp; all_goals with_reducible rfl)
        try simp only [Act.put, List.setIfInBounds_toArray, List.set_cons_zero, List.set_cons_succ]
        refine wpAnyH_take (i := 6) (v := ?_) (by simp only [List.getElem?_toArray, List.getElem?_cons_succ, List.getElem?_cons_zero] <;> exact rfl) (by kernel_rfl) (by kernel_rfl) (by kernel_rfl) (fun _ _ _ h => h) (Or.inl ⟨by rfl, ?_⟩) hS ?_
        rotate_left
        focus (intro w' hw'; go_simp; all_goals with_reducible rfl)
        try simp only [Act.put, List.setIfInBounds_toArray, List.set_cons_zero, List.set_cons_succ]
        refine wpAnyH_take (i := 7) (v := ?_) (by simp only [List.getElem?_toArray, List.getElem?_cons_succ, List.getElem?_cons_zero] <;> exact rfl) (by kernel_rfl) (by kernel_rfl) (by kernel_rfl) (fun _ _ _ h => h) (Or.inl ⟨by rfl, ?_⟩) hS ?_
        rotate_left
        focus (intro w' hw'; go_simp; all_goals with_reducible rfl)
        try simp only [Act.put, List.setIfInBounds_toArray, List.set_cons_zero, List.set_cons_succ]
        refine wpAnyH_take (i := 8) (v := ?_) (by simp only [List.getElem?_toArray, List.getElem?_cons_succ, List.getElem?_cons_zero] <;> exact rfl) (by kernel_rfl) (by kernel_rfl) (by kernel_rfl) (fun _ _ _ h => h) (Or.inl ⟨by rfl, ?_⟩) hS ?_
        rotate_left
        focus (intro w' hw'; go_simp; all_goals with_reducible rfl)
        try simp only [Act.put, List.setIfInBounds_toArray, List.set_cons_zero, List.set_cons_succ]
        refine wpAnyH_take (i := 9) (v := ?_) (by simp only [List.getElem?_toArray, List.getElem?_cons_succ, List.getElem?_cons_zero] <;> exact rfl) (by kernel_rfl) (by kernel_rfl) (by kernel_rfl) (fun _ _ _ h => h) (Or.inl ⟨by rfl, ?_⟩) hS ?_
        rotate_left
        focus (intro w' hw'; go_simp; all_goals with_reducible rfl)
        try simp only [Act.put, List.setIfInBounds_toArray, List.set_cons_zero, List.set_cons_succ]
        refine wpAnyH_take (i := 10) (v := ?_) (by simp only [List.getElem?_toArray, List.getElem?_cons_succ, List.getElem?_cons_zero] <;> exact rfl) (by kernel_rfl) (by kernel_rfl) (by kernel_rfl) (fun _ _ _ h => h) (Or.inl ⟨by rfl, ?_⟩) hS ?_
        rotate_left
        focus (intro w' hw'; go_simp; all_goals with_reducible rfl)
        try simp only [Act.put, List.setIfInBounds_toArray, List.set_cons_zero, List.set_cons_succ]
        refine wpAnyH_take (i := 11) (v := ?_) (by simp only [List.getElem?_toArray, List.getElem?_cons_succ, List.getElem?_cons_zero] <;> exact rfl) (by kernel_rfl) (by kernel_rfl) (by kernel_rfl) (fun _ _ _ h => h) (Or.inl ⟨by rfl, ?_⟩) hS ?_
        rotate_left
        focus (intro w' hw'; go_simp; all_goals with_reducible rfl)
        try simp only [Act.put, List.setIfInBounds_toArray, List.set_cons_zero, List.set_cons_succ]
        refine wpAnyH_take (i := 12) (v := ?_) (by simp only [List.getElem?_toArray, List.getElem?_cons_succ, List.getElem?_cons_zero] <;> exact rfl) (by kernel_rfl) (by kernel_rfl) (by kernel_rfl) (fun _ _ _ h => h) (Or.inl ⟨by rfl, ?_⟩) hS ?_
        rotate_left
        focus (intro w' hw'; go_simp; all_goals with_reducible rfl)
        try simp only [Act.put, List.setIfInBounds_toArray, List.set_cons_zero, List.set_cons_succ]
        refine wpAnyH_take (i := 13) (v := ?_) (by simp only [List.getElem?_toArray, List.getElem?_cons_succ, List.getElem?_cons_zero] <;> exact rfl) (by kernel_rfl) (by kernel_rfl) (by kernel_rfl) (fun _ _ _ h => h) (Or.inl ⟨by rfl, ?_⟩) hS ?_
        rotate_left
        focus (intro w' hw'; have kk := K56.out.keep hw'; have c0 := kk.cell 0; have c1 := kk.cell 1; simp only [List.getElem?_toArray, List.getElem?_cons_zero, List.getElem?_cons_succ] at c0 c1; go_simp; all_goals with_reducible rfl)
        try simp only [Act.put, List.setIfInBounds_toArray, List.set_cons_zero, List.set_cons_succ]
        refine wpAnyH_take (i := 14) (v := ?_) (by simp only [List.getElem?_toArray, List.getElem?_cons_succ, List.getElem?_cons_zero] <;> exact rfl) (by kernel_rfl) (by kernel_rfl) (by kernel_rfl) (fun _ _ _ h => h) (Or.inl ⟨by rfl, ?_⟩) hS ?_
        rotate_left
        focus (intro w' hw'; go_simp; all_goals with_reducible rfl)
        try simp only [Act.put, List.setIfInBounds_toArray, List.set_cons_zero, List.set_cons_succ]
        refine wpAnyH_take (i := 15) (v := ?_) (by simp only [List.getElem?_toArray, List.getElem?_cons_succ, List.getElem?_cons_zero] <;> exact rfl) (by kernel_rfl) (by kernel_rfl) (by kernel_rfl) (fun _ _ _ h => h) (Or.inl ⟨by rfl, ?_⟩) hS ?_
        rotate_left
        focus (intro w' hw'; go_simp; all_goals with_reducible rfl)
        try simp only [Act.put, List.setIfInBounds_toArray, List.set_cons_zero, List.set_cons_succ]
        refine wpAnyH_take (i := 16) (v := ?_) (by simp only [List.getElem?_toArray, List.getElem?_cons_succ, List.getElem?_cons_zero] <;> exact rfl) (by kernel_rfl) (by kernel_rfl) (by kernel_rfl) (fun _ _ _ h => h) (Or.inl ⟨by rfl, ?_⟩) hS ?_
        rotate_left
        focus (intro w' hw'; have kk := K56.out.keep hw'; have c0 := kk.cell 0; have c1 := kk.cell 1; simp only [List.getElem?_toArray, List.getElem?_cons_zero, List.getElem?_cons_succ] at c0 c1; go_simp; all_goals with_reducible rfl)
        try simp only [Act.put, List.setIfInBounds_toArray, List.set_cons_zero, List.set_cons_succ]
        refine wpAnyH_take (i := 17) (v := ?_) (by simp only [List.getElem?_toArray, List.getElem?_cons_succ, List.getElem?_cons_zero] <;> exact rfl) (by kernel_rfl) (by kernel_rfl) (by kernel_rfl) (fun _ _ _ h => h) (Or.inl ⟨by rfl, ?_⟩) hS ?_
        rotate_left
        focus (intro w' hw'; go_simp; all_goals with_reducible rfl)
        try simp only [Act.put, List.setIfInBounds_toArray, List.set_cons_zero, List.set_cons_succ]
        refine wpAnyH_take (i := 18) (v := ?_) (by simp only [List.getElem?_toArray, List.getElem?_cons_succ, List.getElem?_cons_zero] <;> exact rfl) (by kernel_rfl) (by kernel_rfl) (by kernel_rfl) (fun _ _ _ h => h) (Or.inl ⟨by rfl, ?_⟩) hS ?_
        rotate_left
        focus (intro w' hw'; go_simp; all_goals with_reducible rfl)
        try simp only [Act.put, List.setIfInBounds_toArray, List.set_cons_zero, List.set_cons_succ]
        refine wpAnyH_ready (rs := [19]) (by kernel_rfl) (by simp) ?_
        refine AllReadyH.cons (o := _) (by simp only [List.getElem?_toArray, List.getElem?_cons_succ, List.getElem?_cons_zero] <;> exact rfl) (fun K hK => ?_) ?_
        focus (
          go_simp
          go_at_call 21
          refine (rf_SameFields A4 A6 n4 n4 c4 c6 L2 _ _ (FT6.out.keep hS) ((FA6.out.keep hS).take HLC.out) (by omega) (by omega)).mono ?_
          rw [decide_eq_true hEQ.out]
          rintro e wc2 ⟨rfl, hb⟩
          have hS := hS.trans (hb.mono hS.size)
          clear hb
          go_wp2_with fail
          refine hK.out _ _ hS (fun hS => ?_)
          clear hK K
          try simp only [Act.put, List.setIfInBounds_toArray, List.set_cons_zero, List.set_cons_succ])
        rotate_left
        focus (exact AllReadyH.nil)
        refine wpAnyH_take (i := 20) (v := ?_) (by simp only [List.getElem?_toArray, List.getElem?_cons_succ, List.getElem?_cons_zero] <;> exact rfl) (by kernel_rfl) (by kernel_rfl) (by kernel_rfl) (fun _ _ _ h => h) (Or.inl ⟨by rfl, ?_⟩) hS ?_
        rotate_left
        focus (intro w' hw'; go_simp; all_goals with_reducible rfl)
        try simp only [Act.put, List.setIfInBounds_toArray, List.set_cons_zero, List.set_cons_succ]
        refine wpAnyH_take (i := 21) (v := ?_) (by simp only [List.getElem?_toArray, List.getElem?_cons_succ, List.getElem?_cons_zero] <;> exact rfl) (by kernel_rfl) (by kernel_rfl) (by kernel_rfl) (fun _ _ _ h => h) (Or.inl ⟨by rfl, ?_⟩) hS ?_
        rotate_left
        focus (intro w' hw'; go_simp; all_goals with_reducible rfl)
        try simp only [Act.put, List.setIfInBounds_toArray, List.set_cons_zero, List.set_cons_succ]
        refine wpAnyH_done (by kernel_rfl) ?_ _
        refine NoPanic.normal ?_
        have K57 := hide (K56.out.keep hS)
        have K97 := hide (K9.out.keep hS)
        have FT7 := hide (FT6.out.keep hS)
        have FA7 := hide (FA6.out.keep hS)
        have B7 := hide (B6.out.trans (hS.mono B6.out.size))
        have q0 := K57.out.cell 0
        have q1 := K57.out.cell 1
        simp only [List.getElem?_toArray, List.getElem?_cons_zero, List.getElem?_cons_succ] at q0 q1
        obtain ⟨z, hz'⟩ : ∃ z : Nat, z = fa.size + fb.size + 32 := ⟨_, rfl⟩
        have HZ := hide (show (szF f0 : Int) = (z : Int) by rw [hz']; exact HSZ.out)
        have HC := hide (fd_Size fa fb false (by have h1 := HSZ.out; have h2 := HSZ0.out; omega))
        rw [← hz'] at HC
        clear hS K56 K9 FT6 FA6 B6 hz' hLi hLn HSZ
        by_cases hbig : M2 < (szF f0 : Int)
        · have hnil := HA3.out (by omega)
          subst hnil
          have hn0 : n4 = 0 := HN4.out
          subst hn0
          have HAT := hide (show Calls Try.prog 8 #[.agg #[.int .i64 M2, .slice A4 0 c4], .int .i64 62] wc2 fun e w' => e = .returned (.tuple #[.agg #[.string ⟨#[]⟩, .string ⟨#[]⟩, .bool false], .bool false]) ∧ Below wc2.heap.size wc2 w' from by
            have := dy_At M2 A4 0 c4 [] wc2 FT7.out (by decide) 62 (by decide)
            unfold AtIs at this
            rw [show atF [] 62 = noFd by decide +kernel, show atB [] 62 = false by decide +kernel] at this
            exact this)
          have hzle : decide ((z : Int) ≤ M2) = false := by have := HZ.out; simp; omega
          clear hbig HA3 HA4
          go_wp2_with fail
          refine HAT.out.mono ?_
          rintro e w7 ⟨rfl, hb7⟩
          have K58 := hide ((K57.out.keep hb7).alloc (.cells #[.string ⟨#[]⟩, .string ⟨#[]⟩, .bool false] 29))
          have K98 := hide ((K97.out.keep hb7).alloc (.cells #[.string ⟨#[]⟩, .string ⟨#[]⟩, .bool false] 29))
          have FT8 := hide ((FT7.out.keep hb7).alloc (.cells #[.string ⟨#[]⟩, .string ⟨#[]⟩, .bool false] 29))
          have FA8 := hide ((FA7.out.keep hb7).alloc (.cells #[.string ⟨#[]⟩, .string ⟨#[]⟩, .bool false] 29))
          have K10 := hide (BlkIs.new w7 29 #[.string ⟨#[]⟩, .string ⟨#[]⟩, .bool false])
          have B8 := hide ((B7.out.trans (hb7.mono B7.out.size)).alloc (by have h1 := hb7.size; have h2 := B7.out.size; omega) (.cells #[.string ⟨#[]⟩, .string ⟨#[]⟩, .bool false] 29))
          obtain ⟨g10, hg10⟩ : ∃ g, g = w7.heap.size := ⟨_, rfl⟩
          rw [← hg10] at K10
          clear hb7 HAT K57 K97 FT7 FA7 B7 q0 q1
          go_wp2_with fail
          rw [← hg10]
          generalize (w7.alloc (.cells #[.string ⟨#[]⟩, .string ⟨#[]⟩, .bool false] 29)) = V7 at K58 K98 FT8 FA8 K10 B8 ⊢
          clear hg10
          refine wp_region_noPanic ?_
          refine wp_region_held_drew (S := fun w' => Below V7.heap.size V7 w') (by kernel_rfl) (Below.refl _ _).drew (fun hS => ?_)
          refine wpAnyH_take (i := 0) (v := ?_) (by simp only [List.getElem?_toArray, List.getElem?_cons_zero] <;> exact rfl) (by kernel_rfl) (by kernel_rfl) (by kernel_rfl) (fun _ _ _ h => h) (Or.inl ⟨by rfl, ?_⟩) hS ?_
          rotate_left
          focus (intro w' hw'; have kk := K98.out.keep hw'; have c0 := kk.cell 0; have c1 := kk.cell 1; have c2 := kk.cell 2; simp only [List.getElem?_toArray, List.getElem?_cons_zero, List.getElem?_cons_succ] at c0 c1 c2; go_simp; all_goals with_reducible rfl)
          try simp only [Act.put, List.setIfInBounds_toArray, List.set_cons_zero, List.set_cons_succ]
          refine wpAnyH_take (i := 2) (v := ?_) (by simp only [List.getElem?_toArray, List.getElem?_cons_succ, List.getElem?_cons_zero] <;> exact rfl) (by kernel_rfl) (by kernel_rfl) (by kernel_rfl) (fun _ _ _ h => h) (Or.inl ⟨by rfl, ?_⟩) hS ?_
          rotate_left
          focus (intro w' hw'; go_simp; all_goals with_reducible rfl)
          try simp only [Act.put, List.setIfInBounds_toArray, List.set_cons_zero, List.set_cons_succ]
          refine wpAnyH_take (i := 3) (v := ?_) (by simp only [List.getElem?_toArray, List.getElem?_cons_succ, List.getElem?_cons_zero] <;> exact rfl) (by kernel_rfl) (by kernel_rfl) (by kernel_rfl) (fun _ _ _ h => h) (Or.inl ⟨by rfl, ?_⟩) hS ?_
          rotate_left
          focus (intro w' hw'; have kk := K58.out.keep hw'; have c0 := kk.cell 0; have c1 := kk.cell 1; simp only [List.getElem?_toArray, List.getElem?_cons_zero, List.getElem?_cons_succ] at c0 c1; go_simp; all_goals with_reducible rfl)
          try simp only [Act.put, List.setIfInBounds_toArray, List.set_cons_zero, List.set_cons_succ]
          refine wpAnyH_take (i := 5) (v := ?_) (by simp only [List.getElem?_toArray, List.getElem?_cons_succ, List.getElem?_cons_zero] <;> exact rfl) (by kernel_rfl) (by kernel_rfl) (by kernel_rfl) (fun _ _ _ h => h) (Or.inl ⟨by rfl, ?_⟩) hS ?_
          rotate_left
          focus (intro w' hw'; go_simp; all_goals with_reducible rfl)
          try simp only [Act.put, List.setIfInBounds_toArray, List.set_cons_zero, List.set_cons_succ]
          refine wpAnyH_ready (rs := [1]) (by kernel_rfl) (by simp) ?_
          refine AllReadyH.cons (o := _) (by simp only [List.getElem?_toArray, List.getElem?_cons_succ, List.getElem?_cons_zero] <;> exact rfl) (fun K hK => ?_) ?_
          focus (
            go_simp
            go_at_call 22
            refine (HC.out _).mono ?_
            rintro e wd ⟨rfl, hb⟩
            have hS := hS.trans (hb.mono hS.size)
            clear hb
            go_wp2_with fail
            refine hK.out _ _ hS (fun hS => ?_)
            clear hK K
            try simp only [Act.put, List.setIfInBounds_toArray, List.set_cons_zero, List.set_cons_succ])
          rotate_left
          focus (exact AllReadyH.nil)
          refine wpAnyH_take (i := 4) (v := ?_) (by simp only [List.getElem?_toArray, List.getElem?_cons_succ, List.getElem?_cons_zero] <;> exact rfl) (by kernel_rfl) (by kernel_rfl) (by kernel_rfl) (fun _ _ _ h => h) (Or.inl ⟨by rfl, ?_⟩) hS ?_
          rotate_left
          focus (intro w' hw'; go_simp; all_goals with_reducible rfl)
          try simp only [Act.put, List.setIfInBounds_toArray, List.set_cons_zero, List.set_cons_succ]
          refine wpAnyH_take (i := 6) (v := ?_) (by simp only [List.getElem?_toArray, List.getElem?_cons_succ, List.getElem?_cons_zero] <;> exact rfl) (by kernel_rfl) (by kernel_rfl) (by kernel_rfl) (fun _ _ _ h => h) (Or.inl ⟨by rfl, ?_⟩) hS ?_
          rotate_left
          focus (intro w' hw'; go_simp; all_goals with_reducible rfl)
          try simp only [Act.put, List.setIfInBounds_toArray, List.set_cons_zero, List.set_cons_succ]
          refine wpAnyH_take (i := 7) (v := ?_) (by simp only [List.getElem?_toArray, List.getElem?_cons_succ, List.getElem?_cons_zero] <;> exact rfl) (by kernel_rfl) (by kernel_rfl) (by kernel_rfl) (fun _ _ _ h => h) (Or.inl ⟨by rfl, ?_⟩) hS ?_
          rotate_left
          focus (intro w' hw'; go_simp; all_goals with_reducible rfl)
          try simp only [Act.put, List.setIfInBounds_toArray, List.set_cons_zero, List.set_cons_succ]
          refine wpAnyH_take (i := 8) (v := ?_) (by simp only [List.getElem?_toArray, List.getElem?_cons_succ, List.getElem?_cons_zero] <;> exact rfl) (by kernel_rfl) (by kernel_rfl) (by kernel_rfl) (fun _ _ _ h => h) (Or.inl ⟨by rfl, ?_⟩) hS ?_
          rotate_left
          focus (intro w' hw'; go_simp; all_goals with_reducible rfl)
          try simp only [Act.put, List.setIfInBounds_toArray, List.set_cons_zero, List.set_cons_succ]
          refine wpAnyH_take (i := 9) (v := ?_) (by simp only [List.getElem?_toArray, List.getElem?_cons_succ, List.getElem?_cons_zero] <;> exact rfl) (by kernel_rfl) (by kernel_rfl) (by kernel_rfl) (fun _ _ _ h => h) (Or.inl ⟨by rfl, ?_⟩) hS ?_
          rotate_left
          focus (intro w' hw'; go_simp; all_goals with_reducible rfl)
          try simp only [Act.put, List.setIfInBounds_toArray, List.set_cons_zero, List.set_cons_succ]
          refine wpAnyH_take (i := 10) (v := undef) (by simp only [List.getElem?_toArray, List.getElem?_cons_succ, List.getElem?_cons_zero] <;> exact rfl) (by kernel_rfl) (by kernel_rfl) (by kernel_rfl) (fun _ _ _ h => h) (Or.inr ⟨by rfl, rfl⟩) hS ?_
          try simp only [Act.put, List.setIfInBounds_toArray, List.set_cons_zero, List.set_cons_succ]
          refine wpAnyH_take (i := 11) (v := undef) (by simp only [List.getElem?_toArray, List.getElem?_cons_succ, List.getElem?_cons_zero] <;> exact rfl) (by kernel_rfl) (by kernel_rfl) (by kernel_rfl) (fun _ _ _ h => h) (Or.inr ⟨by rfl, rfl⟩) hS ?_
          try simp only [Act.put, List.setIfInBounds_toArray, List.set_cons_zero, List.set_cons_succ]
          refine wpAnyH_take (i := 12) (v := undef) (by simp only [List.getElem?_toArray, List.getElem?_cons_succ, List.getElem?_cons_zero] <;> exact rfl) (by kernel_rfl) (by kernel_rfl) (by kernel_rfl) (fun _ _ _ h => h) (Or.inr ⟨by rfl, rfl⟩) hS ?_
          try simp only [Act.put, List.setIfInBounds_toArray, List.set_cons_zero, List.set_cons_succ]
          refine wpAnyH_take (i := 13) (v := ?_) (by simp only [List.getElem?_toArray, List.getElem?_cons_succ, List.getElem?_cons_zero] <;> exact rfl) (by kernel_rfl) (by kernel_rfl) (by kernel_rfl) (fun _ _ _ h => h) (Or.inl ⟨by rfl, ?_⟩) hS ?_
          rotate_left
          focus (intro w' hw'; go_simp; all_goals with_reducible rfl)
          try simp only [Act.put, List.setIfInBounds_toArray, List.set_cons_zero, List.set_cons_succ]
          refine wpAnyH_take (i := 14) (v := ?_) (by simp only [List.getElem?_toArray, List.getElem?_cons_succ, List.getElem?_cons_zero] <;> exact rfl) (by kernel_rfl) (by kernel_rfl) (by kernel_rfl) (fun _ _ _ h => h) (Or.inl ⟨by rfl, ?_⟩) hS ?_
          rotate_left
          focus (intro w' hw'; go_simp; all_goals with_reducible rfl)
          try simp only [Act.put, List.setIfInBounds_toArray, List.set_cons_zero, List.set_cons_succ]
          refine wpAnyH_done (by kernel_rfl) ?_ _
          refine NoPanic.normal ?_
          have K59 := hide (K58.out.keep hS)
          have FT9 := hide (FT8.out.keep hS)
          have FA9 := hide (FA8.out.keep hS)
          have B9 := hide (B8.out.trans (hS.mono B8.out.size))
          have q1 := K59.out.cell 1
          simp only [List.getElem?_toArray, List.getElem?_cons_zero, List.getElem?_cons_succ] at q1
          clear hS K58 K98 FT8 FA8 K10 B8 HC hzle
          go_wp2_with fail
          go_roundw
          case rel =>
            have hfin := FA9.out.take HLC.out
            rw [← hEQ.out] at hfin
            exact ⟨i + 1, M2, A4, A6, 0, c4, c6, _, by omega, by go_num, rfl, K59.out, FT9.out, hfin, HMAY.out, B9.out⟩
          case measure => simp [intOf]; omega
        · obtain ⟨r0, hr0⟩ := HA4.out (by omega)
          subst hr0
          have HAT := hide (show Calls Try.prog 8 #[.agg #[.int .i64 M2, .slice A4 n4 c4], .int .i64 62] wc2 fun e w' => e = .returned (.tuple #[.agg #[.string fa, .string fb, .bool false], .bool true]) ∧ Below wc2.heap.size wc2 w' from by
            have := dy_At M2 A4 n4 c4 _ wc2 FT7.out (by omega) 62 (by decide)
            unfold AtIs at this
            have h62 := atF_high ((⟨fa, fb, false⟩ : Fd) :: r0) (k := 0) (f := ⟨fa, fb, false⟩) rfl
            rw [show (((0 : Nat) : Int) + 62) = 62 from rfl] at h62
            rw [h62.1, h62.2] at this
            exact this)
          have hzle : decide ((z : Int) ≤ M2) = true := by have := HZ.out; simp; omega
          clear hbig HA3 HA4
          go_wp2_with fail
          refine HAT.out.mono ?_
          rintro e w7 ⟨rfl, hb7⟩
          have K58 := hide ((K57.out.keep hb7).alloc (.cells #[.string fa, .string fb, .bool false] 29))
          have K98 := hide ((K97.out.keep hb7).alloc (.cells #[.string fa, .string fb, .bool false] 29))
          have FT8 := hide ((FT7.out.keep hb7).alloc (.cells #[.string fa, .string fb, .bool false] 29))
          have FA8 := hide ((FA7.out.keep hb7).alloc (.cells #[.string fa, .string fb, .bool false] 29))
          have K10 := hide (BlkIs.new w7 29 #[.string fa, .string fb, .bool false])
          have B8 := hide ((B7.out.trans (hb7.mono B7.out.size)).alloc (by have h1 := hb7.size; have h2 := B7.out.size; omega) (.cells #[.string fa, .string fb, .bool false] 29))
          obtain ⟨g10, hg10⟩ : ∃ g, g = w7.heap.size := ⟨_, rfl⟩
          rw [← hg10] at K10
          clear hb7 HAT K57 K97 FT7 FA7 B7 q0 q1
          go_wp2_with fail
          rw [← hg10]
          generalize (w7.alloc (.cells #[.string fa, .string fb, .bool false] 29)) = V7 at K58 K98 FT8 FA8 K10 B8 ⊢
          clear hg10
          refine wp_region_noPanic ?_
          refine wp_region_held_drew (S := fun w' => Below V7.heap.size V7 w') (by kernel_rfl) (Below.refl _ _).drew (fun hS => ?_)
          refine wpAnyH_take (i := 0) (v := ?_) (by simp only [List.getElem?_toArray, List.getElem?_cons_zero] <;> exact rfl) (by kernel_rfl) (by kernel_rfl) (by kernel_rfl) (fun _ _ _ h => h) (Or.inl ⟨by rfl, ?_⟩) hS ?_
          rotate_left
          focus (intro w' hw'; have kk := K98.out.keep hw'; have c0 := kk.cell 0; have c1 := kk.cell 1; have c2 := kk.cell 2; simp only [List.getElem?_toArray, List.getElem?_cons_zero, List.getElem?_cons_succ] at c0 c1 c2; go_simp; all_goals with_reducible rfl)
          try simp only [Act.put, List.setIfInBounds_toArray, List.set_cons_zero, List.set_cons_succ]
          refine wpAnyH_take (i := 2) (v := ?_) (by simp only [List.getElem?_toArray, List.getElem?_cons_succ, List.getElem?_cons_zero] <;> exact rfl) (by kernel_rfl) (by kernel_rfl) (by kernel_rfl) (fun _ _ _ h => h) (Or.inl ⟨by rfl, ?_⟩) hS ?_
          rotate_left
          focus (intro w' hw'; go_simp; all_goals with_reducible rfl)
          try simp only [Act.put, List.setIfInBounds_toArray, List.set_cons_zero, List.set_cons_succ]
          refine wpAnyH_take (i := 3) (v := ?_) (by simp only [List.getElem?_toArray, List.getElem?_cons_succ, List.getElem?_cons_zero] <;> exact rfl) (by kernel_rfl) (by kernel_rfl) (by kernel_rfl) (fun _ _ _ h => h) (Or.inl ⟨by rfl, ?_⟩) hS ?_
          rotate_left
          focus (intro w' hw'; have kk := K58.out.keep hw'; have c0 := kk.cell 0; have c1 := kk.cell 1; simp only [List.getElem?_toArray, List.getElem?_cons_zero, List.getElem?_cons_succ] at c0 c1; go_simp; all_goals with_reducible rfl)
          try simp only [Act.put, List.setIfInBounds_toArray, List.set_cons_zero, List.set_cons_succ]
          refine wpAnyH_take (i := 5) (v := ?_) (by simp only [List.getElem?_toArray, List.getElem?_cons_succ, List.getElem?_cons_zero] <;> exact rfl) (by kernel_rfl) (by kernel_rfl) (by kernel_rfl) (fun _ _ _ h => h) (Or.inl ⟨by rfl, ?_⟩) hS ?_
          rotate_left
          focus (intro w' hw'; go_simp; all_goals with_reducible rfl)
          try simp only [Act.put, List.setIfInBounds_toArray, List.set_cons_zero, List.set_cons_succ]
          refine wpAnyH_ready (rs := [1]) (by kernel_rfl) (by simp) ?_
          refine AllReadyH.cons (o := _) (by simp only [List.getElem?_toArray, List.getElem?_cons_succ, List.getElem?_cons_zero] <;> exact rfl) (fun K hK => ?_) ?_
          focus (
            go_simp
            go_at_call 22
            refine (HC.out _).mono ?_
            rintro e wd ⟨rfl, hb⟩
            have hS := hS.trans (hb.mono hS.size)
            clear hb
            go_wp2_with fail
            refine hK.out _ _ hS (fun hS => ?_)
            clear hK K
            try simp only [Act.put, List.setIfInBounds_toArray, List.set_cons_zero, List.set_cons_succ])
          rotate_left
          focus (exact AllReadyH.nil)
          refine wpAnyH_take (i := 4) (v := ?_) (by simp only [List.getElem?_toArray, List.getElem?_cons_succ, List.getElem?_cons_zero] <;> exact rfl) (by kernel_rfl) (by kernel_rfl) (by kernel_rfl) (fun _ _ _ h => h) (Or.inl ⟨by rfl, ?_⟩) hS ?_
          rotate_left
          focus (intro w' hw'; go_simp; all_goals with_reducible rfl)
          try simp only [Act.put, List.setIfInBounds_toArray, List.set_cons_zero, List.set_cons_succ]
          refine wpAnyH_take (i := 6) (v := ?_) (by simp only [List.getElem?_toArray, List.getElem?_cons_succ, List.getElem?_cons_zero] <;> exact rfl) (by kernel_rfl) (by kernel_rfl) (by kernel_rfl) (fun _ _ _ h => h) (Or.inl ⟨by rfl, ?_⟩) hS ?_
          rotate_left
          focus (intro w' hw'; go_simp; all_goals with_reducible rfl)
          try simp only [Act.put, List.setIfInBounds_toArray, List.set_cons_zero, List.set_cons_succ]
          refine wpAnyH_take (i := 7) (v := ?_) (by simp only [List.getElem?_toArray, List.getElem?_cons_succ, List.getElem?_cons_zero] <;> exact rfl) (by kernel_rfl) (by kernel_rfl) (by kernel_rfl) (fun _ _ _ h => h) (Or.inl ⟨by rfl, ?_⟩) hS ?_
          rotate_left
          focus (intro w' hw'; go_simp; all_goals with_reducible rfl)
          try simp only [Act.put, List.setIfInBounds_toArray, List.set_cons_zero, List.set_cons_succ]
          refine wpAnyH_take (i := 8) (v := ?_) (by simp only [List.getElem?_toArray, List.getElem?_cons_succ, List.getElem?_cons_zero] <;> exact rfl) (by kernel_rfl) (by kernel_rfl) (by kernel_rfl) (fun _ _ _ h => h) (Or.inl ⟨by rfl, ?_⟩) hS ?_
          rotate_left
          focus (intro w' hw'; go_simp; all_goals with_reducible rfl)
          try simp only [Act.put, List.setIfInBounds_toArray, List.set_cons_zero, List.set_cons_succ]
          refine wpAnyH_take (i := 9) (v := ?_) (by simp only [List.getElem?_toArray, List.getElem?_cons_succ, List.getElem?_cons_zero] <;> exact rfl) (by kernel_rfl) (by kernel_rfl) (by kernel_rfl) (fun _ _ _ h => h) (Or.inl ⟨by rfl, ?_⟩) hS ?_
          rotate_left
          focus (intro w' hw'; go_simp; all_goals with_reducible rfl)
          try simp only [Act.put, List.setIfInBounds_toArray, List.set_cons_zero, List.set_cons_succ]
          refine wpAnyH_take (i := 10) (v := ?_) (by simp only [List.getElem?_toArray, List.getElem?_cons_succ, List.getElem?_cons_zero] <;> exact rfl) (by kernel_rfl) (by kernel_rfl) (by kernel_rfl) (fun _ _ _ h => h) (Or.inl ⟨by rfl, ?_⟩) hS ?_
          rotate_left
          focus (intro w' hw'; have kk := K10.out.keep hw'; have c0 := kk.cell 0; have c1 := kk.cell 1; have c2 := kk.cell 2; simp only [List.getElem?_toArray, List.getElem?_cons_zero, List.getElem?_cons_succ] at c0 c1 c2; go_simp; all_goals with_reducible rfl)
          try simp only [Act.put, List.setIfInBounds_toArray, List.set_cons_zero, List.set_cons_succ]
          refine wpAnyH_take (i := 11) (v := ?_) (by simp only [List.getElem?_toArray, List.getElem?_cons_succ, List.getElem?_cons_zero] <;> exact rfl) (by kernel_rfl) (by kernel_rfl) (by kernel_rfl) (fun _ _ _ h => h) (Or.inl ⟨by rfl, ?_⟩) hS ?_
          rotate_left
          focus (intro w' hw'; have kk := K98.out.keep hw'; have c0 := kk.cell 0; have c1 := kk.cell 1; have c2 := kk.cell 2; simp only [List.getElem?_toArray, List.getElem?_cons_zero, List.getElem?_cons_succ] at c0 c1 c2; go_simp; all_goals with_reducible rfl)
          try simp only [Act.put, List.setIfInBounds_toArray, List.set_cons_zero, List.set_cons_succ]
          refine wpAnyH_take (i := 12) (v := ?_) (by simp only [List.getElem?_toArray, List.getElem?_cons_succ, List.getElem?_cons_zero] <;> exact rfl) (by kernel_rfl) (by kernel_rfl) (by kernel_rfl) (fun _ _ _ h => h) (Or.inl ⟨by rfl, ?_⟩) hS ?_
          rotate_left
          focus (intro w' hw'; go_simp; all_goals with_reducible rfl)
          try simp only [Act.put, List.setIfInBounds_toArray, List.set_cons_zero, List.set_cons_succ]
          refine wpAnyH_take (i := 13) (v := ?_) (by simp only [List.getElem?_toArray, List.getElem?_cons_succ, List.getElem?_cons_zero] <;> exact rfl) (by kernel_rfl) (by kernel_rfl) (by kernel_rfl) (fun _ _ _ h => h) (Or.inl ⟨by rfl, ?_⟩) hS ?_
          rotate_left
          focus (intro w' hw'; go_simp; all_goals with_reducible rfl)
          try simp only [Act.put, List.setIfInBounds_toArray, List.set_cons_zero, List.set_cons_succ]
          refine wpAnyH_take (i := 14) (v := ?_) (by simp only [List.getElem?_toArray, List.getElem?_cons_succ, List.getElem?_cons_zero] <;> exact rfl) (by kernel_rfl) (by kernel_rfl) (by kernel_rfl) (fun _ _ _ h => h) (Or.inl ⟨by rfl, ?_⟩) hS ?_
          rotate_left
          focus (intro w' hw'; go_simp; all_goals with_reducible rfl)
          try simp only [Act.put, List.setIfInBounds_toArray, List.set_cons_zero, List.set_cons_succ]
          refine wpAnyH_done (by kernel_rfl) ?_ _
          refine NoPanic.normal ?_
          have K59 := hide (K58.out.keep hS)
          have FT9 := hide (FT8.out.keep hS)
          have FA9 := hide (FA8.out.keep hS)
          have B9 := hide (B8.out.trans (hS.mono B8.out.size))
          have q1 := K59.out.cell 1
          simp only [List.getElem?_toArray, List.getElem?_cons_zero, List.getElem?_cons_succ] at q1
          clear hS K58 K98 FT8 FA8 K10 B8 HC hzle
          go_wp2_with fail
          go_roundw
          case rel =>
            have hfin := FA9.out.take HLC.out
            rw [← hEQ.out] at hfin
            exact ⟨i + 1, M2, A4, A6, n4, c4, c6, _, by omega, by go_num, rfl, K59.out, FT9.out, hfin, HMAY.out, B9.out⟩
          case measure => simp [intOf]; omega
      · have hin' : ¬ (i : Int) < (n' : Int) := by omega
        obtain ⟨T2, hT2⟩ : ∃ T2, T2 = T := ⟨_, rfl⟩
        have HCK2 := HCK
        have FA2 := FA
        have FT2 := FT
        have K52 := K5
        have B2 := B
        rw [← hT2] at HCK2 FT2
        have HPRE := hide (show ∃ k, T2 = T.take k from ⟨T.length, by rw [List.take_length, hT2]⟩)
        clear hT2 FA FT K5 B
        have hbg : ¬ bl = g5 := by have h1 := HBL.out; have h2 := HG.out; omega
        have hbV : bl < W.heap.size := Nat.lt_of_lt_of_le HBL.out B2.out.size
        have HD0 := hide ((B2.out.cell (p := ⟨bl, ol + i * 3, none⟩) HBL.out).trans HC0.out)
        have HD1 := hide ((B2.out.cell (p := ⟨bl, ol + i * 3 + 1, none⟩) HBL.out).trans HC1.out)
        have HD2 := hide ((B2.out.cell (p := ⟨bl, ol + i * 3 + 2, none⟩) HBL.out).trans HC2.out)
        have hsz0 : (szF f0 : Int) ≤ 432 := HALL.out f0 (List.mem_of_getElem? HF0.out)
        have HADD := hide (fun w' (h : FL w' At nt ct T2) => dy_Add M At nt ct T2 f0 w' h (by have := (chk_small HCK2.out).1; omega) (by omega) (by have := (chk_small HCK2.out).2; rw [h.len] at this; omega))
        obtain ⟨kk, hkk⟩ := HPRE.out
        obtain ⟨a1, a2, a3, a4⟩ := add_newest HCK2.out f0 hkk
        have hmay := add_may f0 HCK2.out
        obtain ⟨L2, hL2⟩ : ∃ L2, L2 = addL M T2 f0 := ⟨_, rfl⟩
        rw [← hL2] at HADD a1 a2 a3 a4 hmay
        have HA1 := hide a1
        have HA2 := hide a2
        have HA3 := hide a3
        have HA4 := hide a4
        have HMAY := hide hmay
        have HSZ := hide (show (szF f0 : Int) = ((f0.n.size + f0.v.size + 32 : Nat) : Int) from rfl)
        have HSZ0 := hide hsz0
        obtain ⟨fa, hfa⟩ : ∃ a, a = f0.n := ⟨_, rfl⟩
        obtain ⟨fb, hfb⟩ : ∃ a, a = f0.v := ⟨_, rfl⟩
        obtain ⟨fx, hfx⟩ : ∃ a, a = f0.x := ⟨_, rfl⟩
        have HC0 := HC0
        have HC1 := HC1
        have HC2 := HC2
        rw [← hfa] at HD0 HADD HA2 HA4 HSZ HC0
        rw [← hfb] at HD1 HADD HA2 HA4 HSZ HC1
        rw [← hfx] at HD2 HADD HC2
        have hkT := hide FA2.out.len
        clear a1 a2 a3 a4 hmay hkk hL2 hfa hfb hfx hsz0 HCK2 HPRE
        go_wp2_with fail
        refine wp_region_noPanic ?_
        refine wp_region_held_drew (S := fun w' => KB (· = g5) W w') (by kernel_rfl) (KB.refl _ _).drew (fun hS => ?_)
        refine wpAnyH_take (i := 1) (v := ?_) (by simp only [List.getElem?_toArray, List.getElem?_cons_succ, List.getElem?_cons_zero] <;> exact rfl) (by kernel_rfl) (by kernel_rfl) (by kernel_rfl) (fun _ _ _ h => h) (Or.inl ⟨by rfl, ?_⟩) hS ?_
        rotate_left
        focus (intro w' hw'; go_simp; all_goals with_reducible rfl)
        try simp only [Act.put, List.setIfInBounds_toArray, List.set_cons_zero, List.set_cons_succ]
        refine wpAnyH_take (i := 2) (v := ?_) (by simp only [List.getElem?_toArray, List.getElem?_cons_succ, List.getElem?_cons_zero] <;> exact rfl) (by kernel_rfl) (by kernel_rfl) (by kernel_rfl) (fun _ _ _ h => h) (Or.inl ⟨by rfl, ?_⟩) hS ?_
        rotate_left
        focus (intro w' hw'; go_simp; all_goals with_reducible rfl)
        try simp only [Act.put, List.setIfInBounds_toArray, List.set_cons_zero, List.set_cons_succ]
        refine wpAnyH_take (i := 3) (v := ?_) (by simp only [List.getElem?_toArray, List.getElem?_cons_succ, List.getElem?_cons_zero] <;> exact rfl) (by kernel_rfl) (by kernel_rfl) (by kernel_rfl) (fun _ _ _ h => h) (Or.inl ⟨by rfl, ?_⟩) hS ?_
        rotate_left
        focus (intro w' hw'; go_simp; all_goals with_reducible rfl)
        try simp only [Act.put, List.setIfInBounds_toArray, List.set_cons_zero, List.set_cons_succ]
        refine wpAnyH_take (i := 4) (v := ?_) (by simp only [List.getElem?_toArray, List.getElem?_cons_succ, List.getElem?_cons_zero] <;> exact rfl) (by kernel_rfl) (by kernel_rfl) (by kernel_rfl) (fun _ _ _ h => h) (Or.inl ⟨by rfl, ?_⟩) hS ?_
        rotate_left
        focus (intro w' hw'; have c0 := (hw'.cell (p := ⟨bl, ol + i * 3, none⟩) hbV hbg).trans HD0.out; have c1 := (hw'.cell (p := ⟨bl, ol + i * 3 + 1, none⟩) hbV hbg).trans HD1.out; have ct := (hw'.cell (p := ⟨bl, ol + i * 3 + 2, none⟩) hbV hbg).trans HD2.out; go_simp; all_goals with_reducible rfl)
        try simp only [Act.put, List.setIfInBounds_toArray, List.set_cons_zero, List.set_cons_succ]
        refine wpAnyH_ready (rs := [0]) (by kernel_rfl) (by simp) ?_
        refine AllReadyH.cons (o := _) (by simp only [List.getElem?_toArray, List.getElem?_cons_zero] <;> exact rfl) (fun K hK => ?_) ?_
        focus (
          have q0 := K52.out.drew.cell 0
          have q1 := K52.out.drew.cell 1
          simp only [List.getElem?_toArray, List.getElem?_cons_zero, List.getElem?_cons_succ] at q0 q1
          go_simp
          refine hK.out _ _ hS (fun hS => ?_)
          clear hK K
          try simp only [Act.put, List.setIfInBounds_toArray, List.set_cons_zero, List.set_cons_succ])
        rotate_left
        focus (exact AllReadyH.nil)
        refine wpAnyH_ready (rs := [5]) (by kernel_rfl) (by simp) ?_
        refine AllReadyH.cons (o := _) (by simp only [List.getElem?_toArray, List.getElem?_cons_succ, List.getElem?_cons_zero] <;> exact rfl) (fun K hK => ?_) ?_
        focus (
          go_simp
          go_at_call 20
          refine (HADD.out _ FT2.out.drew).mono ?_
          rintro e w4 ⟨A4, n4, c4, rfl, hf4, hb4⟩
          have K54 := hide (K52.out.drew.keep hb4)
          have F4 := hide hf4
          have FA4 := hide (FA2.out.drew.keep hb4)
          have hS := hS.trans (KB.of_below (· = g5) hb4)
          have B4 := hide (B2.out.drew.trans (hb4.mono B2.out.drew.size))
          clear hb4 hf4
          go_wp2_with fail
          refine hK.out _ _ hS (fun hS => ?_)
          clear hK K
          try simp only [Act.put, List.setIfInBounds_toArray, List.set_cons_zero, List.set_cons_succ])
        rotate_left
        focus (exact AllReadyH.nil)
        refine wpAnyH_ready (rs := [6]) (by kernel_rfl) (by simp) ?_
        refine AllReadyH.cons (o := _) (by simp only [List.getElem?_toArray, List.getElem?_cons_succ, List.getElem?_cons_zero] <;> exact rfl) (fun K hK => ?_) ?_
        focus (
          have s0 := K54.out.cell 0
          have s1 := K54.out.cell 1
          simp only [List.getElem?_toArray, List.getElem?_cons_zero, List.getElem?_cons_succ] at s0 s1
          have z0 := K54.out.frozen 0
          have z1 := K54.out.frozen 1
          go_simp
          refine hK.out _ _ ((hS.setCell (fun _ => rfl) _).setCell (fun _ => rfl) _) (fun hS => ?_)
          clear hK K
          try simp only [Act.put, List.setIfInBounds_toArray, List.set_cons_zero, List.set_cons_succ])
        rotate_left
        focus (exact AllReadyH.nil)
        refine wpAnyH_done (by kernel_rfl) ?_ _
        refine NoPanic.normal ?_
        have kb := ((KB.refl (· = g5) w4).setCell (p := ⟨g5, 0, none⟩) (fun _ => rfl) (.int .i64 M)).setCell (p := ⟨g5, 1, none⟩) (fun _ => rfl) (.slice A4 n4 c4)
        have K55 := hide (show BlkIs ((w4.setCell ⟨g5, 0, none⟩ (.int .i64 M)).setCell ⟨g5, 1, none⟩ (.slice A4 n4 c4)) g5 27 #[.int .i64 M, .slice A4 n4 c4] from (K54.out.put 0 _).put 1 _)
        have FT5 := hide (F4.out.kb K54.out kb)
        have FA5 := hide (FA4.out.kb K54.out kb)
        have B5 := hide (below_kb2 B4.out kb (Nat.le_refl _) HG.out)
        clear kb hS K54 F4 FA4 B4 K52 FT2 FA2 B2 hbV hbg HD0 HD1 HD2 HADD
        generalize ((w4.setCell ⟨g5, 0, none⟩ (.int .i64 M)).setCell ⟨g5, 1, none⟩ (.slice A4 n4 c4)) = V2 at K55 FT5 FA5 B5 ⊢
        have d0 := (B5.out.cell (p := ⟨bl, ol + i * 3, none⟩) HBL.out).trans HC0.out
        have d1 := (B5.out.cell (p := ⟨bl, ol + i * 3 + 1, none⟩) HBL.out).trans HC1.out
        have d2 := (B5.out.cell (p := ⟨bl, ol + i * 3 + 2, none⟩) HBL.out).trans HC2.out
        have HO := hide (World.ownsRow_lit (size := 3) (base := V2.heap.size + 1) (e := 29) (V2.alloc (.cells #[.string fa, .string fb, .bool false] 29)) #[.string fa, .string fb, .bool false] 1 (by simp) (by unfold maxLen; omega) rfl)
        rw [World.size_alloc] at HO
        have FAO := hide ((FA5.out.alloc (.cells #[.string fa, .string fb, .bool false] 29)).alloc (.cells #[.string fa, .string fb, .bool false] 29))
        go_wp2_with (at_builtin; refine wpList_append_fl _ rfl (.tmp 62) (.tmp 63) rfl (V2.heap.size + 1) _ 1 [⟨fa, fb, false⟩] rfl HO.out Aa nt ca T rfl FAO.out (by omega) (by simp) ?_; intro v6 w6 hown6 hg6; obtain ⟨A6, c6, rfl, hf6⟩ := own_fields hown6; have hb6 : Below (V2.alloc (.cells #[.string fa, .string fb, .bool false] 29)).heap.size (V2.alloc (.cells #[.string fa, .string fb, .bool false] 29)) w6 := own_below_f HO.out ((Below.refl _ _).alloc (Nat.le_refl _) _) (by simp) (Nat.le_refl _) hg6; have K56 := hide ((K55.out.alloc (.cells #[.string fa, .string fb, .bool false] 29)).keep hb6); have K9 := hide ((BlkIs.new V2 29 #[.string fa, .string fb, .bool false]).keep hb6); have FT6 := hide ((FT5.out.alloc (.cells #[.string fa, .string fb, .bool false] 29)).keep hb6); have FA6 := hide hf6; have B6 := hide ((B5.out.alloc B5.out.size (.cells #[.string fa, .string fb, .bool false] 29)).trans (hb6.mono (by have := B5.out.size; simp; omega))); clear hown6 hg6 hf6 hb6)
        obtain ⟨na, hna⟩ : ∃ na, na = 1 + nt := ⟨_, rfl⟩
        rw [← hna] at FA6 ⊢
        obtain ⟨g9, hg9⟩ : ∃ g, g = V2.heap.size := ⟨_, rfl⟩
        rw [← hg9] at K9 ⊢
        have hn4 : n4 = L2.length := FT6.out.len.symm
        have hLle : n4 ≤ na := by have h1 := HA1.out; have h2 := hkT.out; omega
        have hLc : n4 ≤ c6 := Nat.le_trans hLle FA6.out.le
        have hLi : decide ((na : Int) < (n4 : Int)) = false := by rw [decide_eq_false_iff_not]; omega
        have hLn : decide (na < n4) = false := by rw [decide_eq_false_iff_not]; omega
        have hEQ := hide (show L2 = (([⟨fa, fb, false⟩] : List Fd) ++ T).take n4 by rw [hn4]; exact HA2.out)
        have hn4b : (n4 : Int) ≤ 1000000 := by have := hnt; omega
        have hszL := hide (chk_small HMAY.out).1
        have HN4 := hide hn4
        have HLC := hide hLle
        clear hna hg9 d0 d1 d2 HO FAO K55 FT5 FA5 B5 hn4
        refine wp_region_noPanic ?_
        refine wp_region_held_drew (S := fun w' => Below w6.heap.size w6 w') (by kernel_rfl) (Below.refl _ _).drew (fun hS => ?_)
        refine wpAnyH_take (i := 0) (v := ?_) (by simp only [List.getElem?_toArray, List.getElem?_cons_zero] <;> exact rfl) (by kernel_rfl) (by kernel_rfl) (by kernel_rfl) (fun _ _ _ h => h) (Or.inl ⟨by rfl, ?_⟩) hS ?_
        rotate_left
        focus (intro w' hw'; have kk := K56.out.keep hw'; have c0 := kk.cell 0; have c1 := kk.cell 1; simp only [List.getElem?_toArray, List.getElem?_cons_zero, List.getElem?_cons_succ] at c0 c1; go_simp; all_goals with_reducible rfl)
        try simp only [Act.put, List.setIfInBounds_toArray, List.set_cons_zero, List.set_cons_succ]
        refine wpAnyH_ready (rs := [1]) (by kernel_rfl) (by simp) ?_
        refine AllReadyH.cons (o := _) (by simp only [List.getElem?_toArray, List.getElem?_cons_succ, List.getElem?_cons_zero] <;> exact rfl) (fun K hK => ?_) ?_
        focus (
          go_simp
          go_at_call 14
          refine (dy_Check M A4 n4 c4 L2 _ (FT6.out.keep hS) (by have := hszL.out; omega)).mono ?_
          rw [HMAY.out]
          rintro e wc1 ⟨rfl, hb⟩
          have hS := hS.trans (hb.mono hS.size)
          clear hb
          go_wp2_with fail
          refine hK.out _ _ hS (fun hS => ?_)
          clear hK K
          try simp only [Act.put, List.setIfInBounds_toArray, List.set_cons_zero, List.set_cons_succ])
        rotate_left
        focus (exact AllReadyH.nil)
        refine wpAnyH_take (i := 2) (v := ?_) (by simp only [List.getElem?_toArray, List.getElem?_cons_succ, List.getElem?_cons_zero] <;> exact rfl) (by kernel_rfl) (by kernel_rfl) (by kernel_rfl) (fun _ _ _ h => h) (Or.inl ⟨by rfl, ?_⟩) hS ?_
        rotate_left
        focus (intro w' hw'; go_simp; all_goals with_reducible rfl)
        try simp only [Act.put, List.setIfInBounds_toArray, List.set_cons_zero, List.set_cons_succ]
        refine wpAnyH_take (i := 3) (v := ?_) (by simp only [List.getElem?_toArray, List.getElem?_cons_succ, List.getElem?_cons_zero] <;> exact rfl) (by kernel_rfl) (by kernel_rfl) (by kernel_rfl) (fun _ _ _ h => h) (Or.inl ⟨by rfl, ?_⟩) hS ?_
        rotate_left
        focus (intro w' hw'; go_simp; all_goals with_reducible rfl)
        try simp only [Act.put, List.setIfInBounds_toArray, List.set_cons_zero, List.set_cons_succ]
        refine wpAnyH_take (i := 4) (v := ?_) (by simp only [List.getElem?_toArray, List.getElem?_cons_succ, List.getElem?_cons_zero] <;> exact rfl) (by kernel_rfl) (by kernel_rfl) (by kernel_rfl) (fun _ _ _ h => h) (Or.inl ⟨by rfl, ?_⟩) hS ?_
        rotate_left
        focus (intro w' hw'; go_simp; all_goals with_reducible rfl)
        try simp only [Act.put, List.setIfInBounds_toArray, List.set_cons_zero, List.set_cons_succ]
        refine wpAnyH_take (i := 5) (v := ?_) (by simp only [List.getElem?_toArray, List.getElem?_cons_succ, List.getElem?_cons_zero] <;> exact rfl) (by kernel_rfl) (by kernel_rfl) (by kernel_rfl) (fun _ _ _ h => h) (Or.inl ⟨by rfl, ?_⟩) hS ?_
        rotate_left
        focus (intro w' hw'; have kk := K56.out.keep hw'; have c0 := kk.cell 0; have c1 := kk.cell 1; simp only [List.getElem?_toArray, List.getElem?_cons_zero, List.getElem?_cons_succ] at c0 c1; go_simp; all_goals with_reducible rfl)
        try simp only [Act.put, List.setIfInBounds_toArray, List.set_cons_zero, List.set_cons_succ]
        refine wpAnyH_take (i := 6) (v := ?_) (by simp only [List.getElem?_toArray, List.getElem?_cons_succ, List.getElem?_cons_zero] <;> exact rfl) (by kernel_rfl) (by kernel_rfl) (by kernel_rfl) (fun _ _ _ h => h) (Or.inl ⟨by rfl, ?_⟩) hS ?_
        rotate_left
        focus (intro w' hw'; go_simp; all_goals with_reducible rfl)
        try simp only [Act.put, List.setIfInBounds_toArray, List.set_cons_zero, List.set_cons_succ]
        refine wpAnyH_take (i := 7) (v := ?_) (by simp only [List.getElem?_toArray, List.getElem?_cons_succ, List.getElem?_cons_zero] <;> exact rfl) (by kernel_rfl) (by kernel_rfl) (by kernel_rfl) (fun _ _ _ h => h) (Or.inl ⟨by rfl, ?_⟩) hS ?_
        rotate_left
        focus (intro w' hw'; go_simp; all_goals with_reducible rfl)
        try simp only [Act.put, List.setIfInBounds_toArray, List.set_cons_zero, List.set_cons_succ]
        refine wpAnyH_take (i := 8) (v := ?_) (by simp only [List.getElem?_toArray, List.getElem?_cons_succ, List.getElem?_cons_zero] <;> exact rfl) (by kernel_rfl) (by kernel_rfl) (by kernel_rfl) (fun _ _ _ h => h) (Or.inl ⟨by rfl, ?_⟩) hS ?_
        rotate_left
        focus (intro w' hw'; go_simp; all_goals with_reducible rfl)
        try simp only [Act.put, List.setIfInBounds_toArray, List.set_cons_zero, List.set_cons_succ]
        refine wpAnyH_take (i := 9) (v := ?_) (by simp only [List.getElem?_toArray, List.getElem?_cons_succ, List.getElem?_cons_zero] <;> exact rfl) (by kernel_rfl) (by kernel_rfl) (by kernel_rfl) (fun _ _ _ h => h) (Or.inl ⟨by rfl, ?_⟩) hS ?_
        rotate_left
        focus (intro w' hw'; go_simp; all_goals with_reducible rfl)
        try simp only [Act.put, List.setIfInBounds_toArray, List.set_cons_zero, List.set_cons_succ]
        refine wpAnyH_take (i := 10) (v := ?_) (by simp only [List.getElem?_toArray, List.getElem?_cons_succ, List.getElem?_cons_zero] <;> exact rfl) (by kernel_rfl) (by kernel_rfl) (by kernel_rfl) (fun _ _ _ h => h) (Or.inl ⟨by rfl, ?_⟩) hS ?_
        rotate_left
        focus (intro w' hw'; go_simp; all_goals with_reducible rfl)
        try simp only [Act.put, List.setIfInBounds_toArray, List.set_cons_zero, List.set_cons_succ]
        refine wpAnyH_take (i := 11) (v := ?_) (by simp only [List.getElem?_toArray, List.getElem?_cons_succ, List.getElem?_cons_zero] <;> exact rfl) (by kernel_rfl) (by kernel_rfl) (by kernel_rfl) (fun _ _ _ h => h) (Or.inl ⟨by rfl, ?_⟩) hS ?_
        rotate_left
        focus (intro w' hw'; go_simp; all_goals with_reducible rfl)
        try simp only [Act.put, List.setIfInBounds_toArray, List.set_cons_zero, List.set_cons_succ]
        refine wpAnyH_take (i := 12) (v := ?_) (by simp only [List.getElem?_toArray, List.getElem?_cons_succ, List.getElem?_cons_zero] <;> exact rfl) (by kernel_rfl) (by kernel_rfl) (by kernel_rfl) (fun _ _ _ h => h) (Or.inl ⟨by rfl, ?_⟩) hS ?_
        rotate_left
        focus (intro w' hw'; go_simp; all_goals with_reducible rfl)
        try simp only [Act.put, List.setIfInBounds_toArray, List.set_cons_zero, List.set_cons_succ]
        refine wpAnyH_take (i := 13) (v := ?_) (by simp only [List.getElem?_toArray, List.getElem?_cons_succ, List.getElem?_cons_zero] <;> exact rfl) (by kernel_rfl) (by kernel_rfl) (by kernel_rfl) (fun _ _ _ h => h) (Or.inl ⟨by rfl, ?_⟩) hS ?_
        rotate_left
        focus (intro w' hw'; have kk := K56.out.keep hw'; have c0 := kk.cell 0; have c1 := kk.cell 1; simp only [List.getElem?_toArray, List.getElem?_cons_zero, List.getElem?_cons_succ] at c0 c1; go_simp; all_goals with_reducible rfl)
        try simp only [Act.put, List.setIfInBounds_toArray, List.set_cons_zero, List.set_cons_succ]
        refine wpAnyH_take (i := 14) (v := ?_) (by simp only [List.getElem?_toArray, List.getElem?_cons_succ, List.getElem?_cons_zero] <;> exact rfl) (by kernel_rfl) (by kernel_rfl) (by kernel_rfl) (fun _ _ _ h => h) (Or.inl ⟨by rfl, ?_⟩) hS ?_
        rotate_left
        focus (intro w' hw'; go_simp; all_goals with_reducible rfl)
        try simp only [Act.put, List.setIfInBounds_toArray, List.set_cons_zero, List.set_cons_succ]
        refine wpAnyH_take (i := 15) (v := ?_) (by simp only [List.getElem?_toArray, List.getElem?_cons_succ, List.getElem?_cons_zero] <;> exact rfl) (by kernel_rfl) (by kernel_rfl) (by kernel_rfl) (fun _ _ _ h => h) (Or.inl ⟨by rfl, ?_⟩) hS ?_
        rotate_left
        focus (intro w' hw'; go_simp; all_goals with_reducible rfl)
        try simp only [Act.put, List.setIfInBounds_toArray, List.set_cons_zero, List.set_cons_succ]
        refine wpAnyH_take (i := 16) (v := ?_) (by simp only [List.getElem?_toArray, List.getElem?_cons_succ, List.getElem?_cons_zero] <;> exact rfl) (by kernel_rfl) (by kernel_rfl) (by kernel_rfl) (fun _ _ _ h => h) (Or.inl ⟨by rfl, ?_⟩) hS ?_
        rotate_left
        focus (intro w' hw'; have kk := K56.out.keep hw'; have c0 := kk.cell 0; have c1 := kk.cell 1; simp only [List.getElem?_toArray, List.getElem?_cons_zero, List.getElem?_cons_succ] at c0 c1; go_simp; all_goals with_reducible rfl)
        try simp only [Act.put, List.setIfInBounds_toArray, List.set_cons_zero, List.set_cons_succ]
        refine wpAnyH_take (i := 17) (v := ?_) (by simp only [List.getElem?_toArray, List.getElem?_cons_succ, List.getElem?_cons_zero] <;> exact rfl) (by kernel_rfl) (by kernel_rfl) (by kernel_rfl) (fun _ _ _ h => h) (Or.inl ⟨by rfl, ?_⟩) hS ?_
        rotate_left
        focus (intro w' hw'; go_simp; all_goals with_reducible rfl)
        try simp only [Act.put, List.setIfInBounds_toArray, List.set_cons_zero, List.set_cons_succ]
        refine wpAnyH_take (i := 18) (v := ?_) (by simp only [List.getElem?_toArray, List.getElem?_cons_succ, List.getElem?_cons_zero] <;> exact rfl) (by kernel_rfl) (by kernel_rfl) (by kernel_rfl) (fun _ _ _ h => h) (Or.inl ⟨by rfl, ?_⟩) hS ?_
        rotate_left
        focus (intro w' hw'; go_simp; all_goals with_reducible rfl)
        try simp only [Act.put, List.setIfInBounds_toArray, List.set_cons_zero, List.set_cons_succ]
        refine wpAnyH_ready (rs := [19]) (by kernel_rfl) (by simp) ?_
        refine AllReadyH.cons (o := _) (by simp only [List.getElem?_toArray, List.getElem?_cons_succ, List.getElem?_cons_zero] <;> exact rfl) (fun K hK => ?_) ?_
        focus (
          go_simp
          go_at_call 21
          refine (rf_SameFields A4 A6 n4 n4 c4 c6 L2 _ _ (FT6.out.keep hS) ((FA6.out.keep hS).take HLC.out) (by omega) (by omega)).mono ?_
          rw [decide_eq_true hEQ.out]
          rintro e wc2 ⟨rfl, hb⟩
          have hS := hS.trans (hb.mono hS.size)
          clear hb
          go_wp2_with fail
          refine hK.out _ _ hS (fun hS => ?_)
          clear hK K
          try simp only [Act.put, List.setIfInBounds_toArray, List.set_cons_zero, List.set_cons_succ])
        rotate_left
        focus (exact AllReadyH.nil)
        refine wpAnyH_take (i := 20) (v := ?_) (by simp only [List.getElem?_toArray, List.getElem?_cons_succ, List.getElem?_cons_zero] <;> exact rfl) (by kernel_rfl) (by kernel_rfl) (by kernel_rfl) (fun _ _ _ h => h) (Or.inl ⟨by rfl, ?_⟩) hS ?_
        rotate_left
        focus (intro w' hw'; go_simp; all_goals with_reducible rfl)
        try simp only [Act.put, List.setIfInBounds_toArray, List.set_cons_zero, List.set_cons_succ]
        refine wpAnyH_take (i := 21) (v := ?_) (by simp only [List.getElem?_toArray, List.getElem?_cons_succ, List.getElem?_cons_zero] <;> exact rfl) (by kernel_rfl) (by kernel_rfl) (by kernel_rfl) (fun _ _ _ h => h) (Or.inl ⟨by rfl, ?_⟩) hS ?_
        rotate_left
        focus (intro w' hw'; go_simp; all_goals with_reducible rfl)
        try simp only [Act.put, List.setIfInBounds_toArray, List.set_cons_zero, List.set_cons_succ]
        refine wpAnyH_done (by kernel_rfl) ?_ _
        refine NoPanic.normal ?_
        have K57 := hide (K56.out.keep hS)
        have K97 := hide (K9.out.keep hS)
        have FT7 := hide (FT6.out.keep hS)
        have FA7 := hide (FA6.out.keep hS)
        have B7 := hide (B6.out.trans (hS.mono B6.out.size))
        have q0 := K57.out.cell 0
        have q1 := K57.out.cell 1
        simp only [List.getElem?_toArray, List.getElem?_cons_zero, List.getElem?_cons_succ] at q0 q1
        obtain ⟨z, hz'⟩ : ∃ z : Nat, z = fa.size + fb.size + 32 := ⟨_, rfl⟩
        have HZ := hide (show (szF f0 : Int) = (z : Int) by rw [hz']; exact HSZ.out)
        have HC := hide (fd_Size fa fb false (by have h1 := HSZ.out; have h2 := HSZ0.out; omega))
        rw [← hz'] at HC
        clear hS K56 K9 FT6 FA6 B6 hz' hLi hLn HSZ
        by_cases hbig : M < (szF f0 : Int)
        · have hnil := HA3.out (by omega)
          subst hnil
          have hn0 : n4 = 0 := HN4.out
          subst hn0
          have HAT := hide (show Calls Try.prog 8 #[.agg #[.int .i64 M, .slice A4 0 c4], .int .i64 62] wc2 fun e w' => e = .returned (.tuple #[.agg #[.string ⟨#[]⟩, .string ⟨#[]⟩, .bool false], .bool false]) ∧ Below wc2.heap.size wc2 w' from by
            have := dy_At M A4 0 c4 [] wc2 FT7.out (by decide) 62 (by decide)
            unfold AtIs at this
            rw [show atF [] 62 = noFd by decide +kernel, show atB [] 62 = false by decide +kernel] at this
            exact this)
          have hzle : decide ((z : Int) ≤ M) = false := by have := HZ.out; simp; omega
          clear hbig HA3 HA4
          go_wp2_with fail
          refine HAT.out.mono ?_
          rintro e w7 ⟨rfl, hb7⟩
          have K58 := hide ((K57.out.keep hb7).alloc (.cells #[.string ⟨#[]⟩, .string ⟨#[]⟩, .bool false] 29))
          have K98 := hide ((K97.out.keep hb7).alloc (.cells #[.string ⟨#[]⟩, .string ⟨#[]⟩, .bool false] 29))
          have FT8 := hide ((FT7.out.keep hb7).alloc (.cells #[.string ⟨#[]⟩, .string ⟨#[]⟩, .bool false] 29))
          have FA8 := hide ((FA7.out.keep hb7).alloc (.cells #[.string ⟨#[]⟩, .string ⟨#[]⟩, .bool false] 29))
          have K10 := hide (BlkIs.new w7 29 #[.string ⟨#[]⟩, .string ⟨#[]⟩, .bool false])
          have B8 := hide ((B7.out.trans (hb7.mono B7.out.size)).alloc (by have h1 := hb7.size; have h2 := B7.out.size; omega) (.cells #[.string ⟨#[]⟩, .string ⟨#[]⟩, .bool false] 29))
          obtain ⟨g10, hg10⟩ : ∃ g, g = w7.heap.size := ⟨_, rfl⟩
          rw [← hg10] at K10
          clear hb7 HAT K57 K97 FT7 FA7 B7 q0 q1
          go_wp2_with fail
          rw [← hg10]
          generalize (w7.alloc (.cells #[.string ⟨#[]⟩, .string ⟨#[]⟩, .bool false] 29)) = V7 at K58 K98 FT8 FA8 K10 B8 ⊢
          clear hg10
          refine wp_region_noPanic ?_
          refine wp_region_held_drew (S := fun w' => Below V7.heap.size V7 w') (by kernel_rfl) (Below.refl _ _).drew (fun hS => ?_)
          refine wpAnyH_take (i := 0) (v := ?_) (by simp only [List.getElem?_toArray, List.getElem?_cons_zero] <;> exact rfl) (by kernel_rfl) (by kernel_rfl) (by kernel_rfl) (fun _ _ _ h => h) (Or.inl ⟨by rfl, ?_⟩) hS ?_
          rotate_left
          focus (intro w' hw'; have kk := K98.out.keep hw'; have c0 := kk.cell 0; have c1 := kk.cell 1; have ct := kk.cell 2; simp only [List.getElem?_toArray, List.getElem?_cons_zero, List.getElem?_cons_succ] at c0 c1 ct; go_simp; all_goals with_reducible rfl)
          try simp only [Act.put, List.setIfInBounds_toArray, List.set_cons_zero, List.set_cons_succ]
          refine wpAnyH_take (i := 2) (v := ?_) (by simp only [List.getElem?_toArray, List.getElem?_cons_succ, List.getElem?_cons_zero] <;> exact rfl) (by kernel_rfl) (by kernel_rfl) (by kernel_rfl) (fun _ _ _ h => h) (Or.inl ⟨by rfl, ?_⟩) hS ?_
          rotate_left
          focus (intro w' hw'; go_simp; all_goals with_reducible rfl)
          try simp only [Act.put, List.setIfInBounds_toArray, List.set_cons_zero, List.set_cons_succ]
          refine wpAnyH_take (i := 3) (v := ?_) (by simp only [List.getElem?_toArray, List.getElem?_cons_succ, List.getElem?_cons_zero] <;> exact rfl) (by kernel_rfl) (by kernel_rfl) (by kernel_rfl) (fun _ _ _ h => h) (Or.inl ⟨by rfl, ?_⟩) hS ?_
          rotate_left
          focus (intro w' hw'; have kk := K58.out.keep hw'; have c0 := kk.cell 0; have c1 := kk.cell 1; simp only [List.getElem?_toArray, List.getElem?_cons_zero, List.getElem?_cons_succ] at c0 c1; go_simp; all_goals with_reducible rfl)
          try simp only [Act.put, List.setIfInBounds_toArray, List.set_cons_zero, List.set_cons_succ]
          refine wpAnyH_take (i := 5) (v := ?_) (by simp only [List.getElem?_toArray, List.getElem?_cons_succ, List.getElem?_cons_zero] <;> exact rfl) (by kernel_rfl) (by kernel_rfl) (by kernel_rfl) (fun _ _ _ h => h) (Or.inl ⟨by rfl, ?_⟩) hS ?_
          rotate_left
          focus (intro w' hw'; go_simp; all_goals with_reducible rfl)
          try simp only [Act.put, List.setIfInBounds_toArray, List.set_cons_zero, List.set_cons_succ]
          refine wpAnyH_ready (rs := [1]) (by kernel_rfl) (by simp) ?_
          refine AllReadyH.cons (o := _) (by simp only [List.getElem?_toArray, List.getElem?_cons_succ, List.getElem?_cons_zero] <;> exact rfl) (fun K hK => ?_) ?_
          focus (
            go_simp
            go_at_call 22
            refine (HC.out _).mono ?_
            rintro e wd ⟨rfl, hb⟩
            have hS := hS.trans (hb.mono hS.size)
            clear hb
            go_wp2_with fail
            refine hK.out _ _ hS (fun hS => ?_)
            clear hK K
            try simp only [Act.put, List.setIfInBounds_toArray, List.set_cons_zero, List.set_cons_succ])
          rotate_left
          focus (exact AllReadyH.nil)
          refine wpAnyH_take (i := 4) (v := ?_) (by simp only [List.getElem?_toArray, List.getElem?_cons_succ, List.getElem?_cons_zero] <;> exact rfl) (by kernel_rfl) (by kernel_rfl) (by kernel_rfl) (fun _ _ _ h => h) (Or.inl ⟨by rfl, ?_⟩) hS ?_
          rotate_left
          focus (intro w' hw'; go_simp; all_goals with_reducible rfl)
          try simp only [Act.put, List.setIfInBounds_toArray, List.set_cons_zero, List.set_cons_succ]
          refine wpAnyH_take (i := 6) (v := ?_) (by simp only [List.getElem?_toArray, List.getElem?_cons_succ, List.getElem?_cons_zero] <;> exact rfl) (by kernel_rfl) (by kernel_rfl) (by kernel_rfl) (fun _ _ _ h => h) (Or.inl ⟨by rfl, ?_⟩) hS ?_
          rotate_left
          focus (intro w' hw'; go_simp; all_goals with_reducible rfl)
          try simp only [Act.put, List.setIfInBounds_toArray, List.set_cons_zero, List.set_cons_succ]
          refine wpAnyH_take (i := 7) (v := ?_) (by simp only [List.getElem?_toArray, List.getElem?_cons_succ, List.getElem?_cons_zero] <;> exact rfl) (by kernel_rfl) (by kernel_rfl) (by kernel_rfl) (fun _ _ _ h => h) (Or.inl ⟨by rfl, ?_⟩) hS ?_
          rotate_left
          focus (intro w' hw'; go_simp; all_goals with_reducible rfl)
          try simp only [Act.put, List.setIfInBounds_toArray, List.set_cons_zero, List.set_cons_succ]
          refine wpAnyH_take (i := 8) (v := ?_) (by simp only [List.getElem?_toArray, List.getElem?_cons_succ, List.getElem?_cons_zero] <;> exact rfl) (by kernel_rfl) (by kernel_rfl) (by kernel_rfl) (fun _ _ _ h => h) (Or.inl ⟨by rfl, ?_⟩) hS ?_
          rotate_left
          focus (intro w' hw'; go_simp; all_goals with_reducible rfl)
          try simp only [Act.put, List.setIfInBounds_toArray, List.set_cons_zero, List.set_cons_succ]
          refine wpAnyH_take (i := 9) (v := ?_) (by simp only [List.getElem?_toArray, List.getElem?_cons_succ, List.getElem?_cons_zero] <;> exact rfl) (by kernel_rfl) (by kernel_rfl) (by kernel_rfl) (fun _ _ _ h => h) (Or.inl ⟨by rfl, ?_⟩) hS ?_
          rotate_left
          focus (intro w' hw'; go_simp; all_goals with_reducible rfl)
          try simp only [Act.put, List.setIfInBounds_toArray, List.set_cons_zero, List.set_cons_succ]
          refine wpAnyH_take (i := 10) (v := undef) (by simp only [List.getElem?_toArray, List.getElem?_cons_succ, List.getElem?_cons_zero] <;> exact rfl) (by kernel_rfl) (by kernel_rfl) (by kernel_rfl) (fun _ _ _ h => h) (Or.inr ⟨by rfl, rfl⟩) hS ?_
          try simp only [Act.put, List.setIfInBounds_toArray, List.set_cons_zero, List.set_cons_succ]
          refine wpAnyH_take (i := 11) (v := undef) (by simp only [List.getElem?_toArray, List.getElem?_cons_succ, List.getElem?_cons_zero] <;> exact rfl) (by kernel_rfl) (by kernel_rfl) (by kernel_rfl) (fun _ _ _ h => h) (Or.inr ⟨by rfl, rfl⟩) hS ?_
          try simp only [Act.put, List.setIfInBounds_toArray, List.set_cons_zero, List.set_cons_succ]
          refine wpAnyH_take (i := 12) (v := undef) (by simp only [List.getElem?_toArray, List.getElem?_cons_succ, List.getElem?_cons_zero] <;> exact rfl) (by kernel_rfl) (by kernel_rfl) (by kernel_rfl) (fun _ _ _ h => h) (Or.inr ⟨by rfl, rfl⟩) hS ?_
          try simp only [Act.put, List.setIfInBounds_toArray, List.set_cons_zero, List.set_cons_succ]
          refine wpAnyH_take (i := 13) (v := ?_) (by simp only [List.getElem?_toArray, List.getElem?_cons_succ, List.getElem?_cons_zero] <;> exact rfl) (by kernel_rfl) (by kernel_rfl) (by kernel_rfl) (fun _ _ _ h => h) (Or.inl ⟨by rfl, ?_⟩) hS ?_
          rotate_left
          focus (intro w' hw'; go_simp; all_goals with_reducible rfl)
          try simp only [Act.put, List.setIfInBounds_toArray, List.set_cons_zero, List.set_cons_succ]
          refine wpAnyH_take (i := 14) (v := ?_) (by simp only [List.getElem?_toArray, List.getElem?_cons_succ, List.getElem?_cons_zero] <;> exact rfl) (by kernel_rfl) (by kernel_rfl) (by kernel_rfl) (fun _ _ _ h => h) (Or.inl ⟨by rfl, ?_⟩) hS ?_
          rotate_left
          focus (intro w' hw'; go_simp; all_goals with_reducible rfl)
          try simp only [Act.put, List.setIfInBounds_toArray, List.set_cons_zero, List.set_cons_succ]
          refine wpAnyH_done (by kernel_rfl) ?_ _
          refine NoPanic.normal ?_
          have K59 := hide (K58.out.keep hS)
          have FT9 := hide (FT8.out.keep hS)
          have FA9 := hide (FA8.out.keep hS)
          have B9 := hide (B8.out.trans (hS.mono B8.out.size))
          have q1 := K59.out.cell 1
          simp only [List.getElem?_toArray, List.getElem?_cons_zero, List.getElem?_cons_succ] at q1
          clear hS K58 K98 FT8 FA8 K10 B8 HC hzle
          go_wp2_with fail
          go_roundw
          case rel =>
            have hfin := FA9.out.take HLC.out
            rw [← hEQ.out] at hfin
            exact ⟨i + 1, M, A4, A6, 0, c4, c6, _, by omega, by go_num, rfl, K59.out, FT9.out, hfin, HMAY.out, B9.out⟩
          case measure => simp [intOf]; omega
        · obtain ⟨r0, hr0⟩ := HA4.out (by omega)
          subst hr0
          have HAT := hide (show Calls Try.prog 8 #[.agg #[.int .i64 M, .slice A4 n4 c4], .int .i64 62] wc2 fun e w' => e = .returned (.tuple #[.agg #[.string fa, .string fb, .bool false], .bool true]) ∧ Below wc2.heap.size wc2 w' from by
            have := dy_At M A4 n4 c4 _ wc2 FT7.out (by omega) 62 (by decide)
            unfold AtIs at this
            have h62 := atF_high ((⟨fa, fb, false⟩ : Fd) :: r0) (k := 0) (f := ⟨fa, fb, false⟩) rfl
            rw [show (((0 : Nat) : Int) + 62) = 62 from rfl] at h62
            rw [h62.1, h62.2] at this
            exact this)
          have hzle : decide ((z : Int) ≤ M) = true := by have := HZ.out; simp; omega
          clear hbig HA3 HA4
          go_wp2_with fail
          refine HAT.out.mono ?_
          rintro e w7 ⟨rfl, hb7⟩
          have K58 := hide ((K57.out.keep hb7).alloc (.cells #[.string fa, .string fb, .bool false] 29))
          have K98 := hide ((K97.out.keep hb7).alloc (.cells #[.string fa, .string fb, .bool false] 29))
          have FT8 := hide ((FT7.out.keep hb7).alloc (.cells #[.string fa, .string fb, .bool false] 29))
          have FA8 := hide ((FA7.out.keep hb7).alloc (.cells #[.string fa, .string fb, .bool false] 29))
          have K10 := hide (BlkIs.new w7 29 #[.string fa, .string fb, .bool false])
          have B8 := hide ((B7.out.trans (hb7.mono B7.out.size)).alloc (by have h1 := hb7.size; have h2 := B7.out.size; omega) (.cells #[.string fa, .string fb, .bool false] 29))
          obtain ⟨g10, hg10⟩ : ∃ g, g = w7.heap.size := ⟨_, rfl⟩
          rw [← hg10] at K10
          clear hb7 HAT K57 K97 FT7 FA7 B7 q0 q1
          go_wp2_with fail
          rw [← hg10]
          generalize (w7.alloc (.cells #[.string fa, .string fb, .bool false] 29)) = V7 at K58 K98 FT8 FA8 K10 B8 ⊢
          clear hg10
          refine wp_region_noPanic ?_
          refine wp_region_held_drew (S := fun w' => Below V7.heap.size V7 w') (by kernel_rfl) (Below.refl _ _).drew (fun hS => ?_)
          refine wpAnyH_take (i := 0) (v := ?_) (by simp only [List.getElem?_toArray, List.getElem?_cons_zero] <;> exact rfl) (by kernel_rfl) (by kernel_rfl) (by kernel_rfl) (fun _ _ _ h => h) (Or.inl ⟨by rfl, ?_⟩) hS ?_
          rotate_left
          focus (intro w' hw'; have kk := K98.out.keep hw'; have c0 := kk.cell 0; have c1 := kk.cell 1; have ct := kk.cell 2; simp only [List.getElem?_toArray, List.getElem?_cons_zero, List.getElem?_cons_succ] at c0 c1 ct; go_simp; all_goals with_reducible rfl)
          try simp only [Act.put, List.setIfInBounds_toArray, List.set_cons_zero, List.set_cons_succ]
          refine wpAnyH_take (i := 2) (v := ?_) (by simp only [List.getElem?_toArray, List.getElem?_cons_succ, List.getElem?_cons_zero] <;> exact rfl) (by kernel_rfl) (by kernel_rfl) (by kernel_rfl) (fun _ _ _ h => h) (Or.inl ⟨by rfl, ?_⟩) hS ?_
          rotate_left
          focus (intro w' hw'; go_simp; all_goals with_reducible rfl)
          try simp only [Act.put, List.setIfInBounds_toArray, List.set_cons_zero, List.set_cons_succ]
          refine wpAnyH_take (i := 3) (v := ?_) (by simp only [List.getElem?_toArray, List.getElem?_cons_succ, List.getElem?_cons_zero] <;> exact rfl) (by kernel_rfl) (by kernel_rfl) (by kernel_rfl) (fun _ _ _ h => h) (Or.inl ⟨by rfl, ?_⟩) hS ?_
          rotate_left
          focus (intro w' hw'; have kk := K58.out.keep hw'; have c0 := kk.cell 0; have c1 := kk.cell 1; simp only [List.getElem?_toArray, List.getElem?_cons_zero, List.getElem?_cons_succ] at c0 c1; go_simp; all_goals with_reducible rfl)
          try simp only [Act.put, List.setIfInBounds_toArray, List.set_cons_zero, List.set_cons_succ]
          refine wpAnyH_take (i := 5) (v := ?_) (by simp only [List.getElem?_toArray, List.getElem?_cons_succ, List.getElem?_cons_zero] <;> exact rfl) (by kernel_rfl) (by kernel_rfl) (by kernel_rfl) (fun _ _ _ h => h) (Or.inl ⟨by rfl, ?_⟩) hS ?_
          rotate_left
          focus (intro w' hw'; go_simp; all_goals with_reducible rfl)
          try simp only [Act.put, List.setIfInBounds_toArray, List.set_cons_zero, List.set_cons_succ]
          refine wpAnyH_ready (rs := [1]) (by kernel_rfl) (by simp) ?_
          refine AllReadyH.cons (o := _) (by simp only [List.getElem?_toArray, List.getElem?_cons_succ, List.getElem?_cons_zero] <;> exact rfl) (fun K hK => ?_) ?_
          focus (
            go_simp
            go_at_call 22
            refine (HC.out _).mono ?_
            rintro e wd ⟨rfl, hb⟩
            have hS := hS.trans (hb.mono hS.size)
            clear hb
            go_wp2_with fail
            refine hK.out _ _ hS (fun hS => ?_)
            clear hK K
            try simp only [Act.put, List.setIfInBounds_toArray, List.set_cons_zero, List.set_cons_succ])
          rotate_left
          focus (exact AllReadyH.nil)
          refine wpAnyH_take (i := 4) (v := ?_) (by simp only [List.getElem?_toArray, List.getElem?_cons_succ, List.getElem?_cons_zero] <;> exact rfl) (by kernel_rfl) (by kernel_rfl) (by kernel_rfl) (fun _ _ _ h => h) (Or.inl ⟨by rfl, ?_⟩) hS ?_
          rotate_left
          focus (intro w' hw'; go_simp; all_goals with_reducible rfl)
          try simp only [Act.put, List.setIfInBounds_toArray, List.set_cons_zero, List.set_cons_succ]
          refine wpAnyH_take (i := 6) (v := ?_) (by simp only [List.getElem?_toArray, List.getElem?_cons_succ, List.getElem?_cons_zero] <;> exact rfl) (by kernel_rfl) (by kernel_rfl) (by kernel_rfl) (fun _ _ _ h => h) (Or.inl ⟨by rfl, ?_⟩) hS ?_
          rotate_left
          focus (intro w' hw'; go_simp; all_goals with_reducible rfl)
          try simp only [Act.put, List.setIfInBounds_toArray, List.set_cons_zero, List.set_cons_succ]
          refine wpAnyH_take (i := 7) (v := ?_) (by simp only [List.getElem?_toArray, List.getElem?_cons_succ, List.getElem?_cons_zero] <;> exact rfl) (by kernel_rfl) (by kernel_rfl) (by kernel_rfl) (fun _ _ _ h => h) (Or.inl ⟨by rfl, ?_⟩) hS ?_
          rotate_left
          focus (intro w' hw'; go_simp; all_goals with_reducible rfl)
          try simp only [Act.put, List.setIfInBounds_toArray, List.set_cons_zero, List.set_cons_succ]
          refine wpAnyH_take (i := 8) (v := ?_) (by simp only [List.getElem?_toArray, List.getElem?_cons_succ, List.getElem?_cons_zero] <;> exact rfl) (by kernel_rfl) (by kernel_rfl) (by kernel_rfl) (fun _ _ _ h => h) (Or.inl ⟨by rfl, ?_⟩) hS ?_
          rotate_left
          focus (intro w' hw'; go_simp; all_goals with_reducible rfl)
          try simp only [Act.put, List.setIfInBounds_toArray, List.set_cons_zero, List.set_cons_succ]
          refine wpAnyH_take (i := 9) (v := ?_) (by simp only [List.getElem?_toArray, List.getElem?_cons_succ, List.getElem?_cons_zero] <;> exact rfl) (by kernel_rfl) (by kernel_rfl) (by kernel_rfl) (fun _ _ _ h => h) (Or.inl ⟨by rfl, ?_⟩) hS ?_
          rotate_left
          focus (intro w' hw'; go_simp; all_goals with_reducible rfl)
          try simp only [Act.put, List.setIfInBounds_toArray, List.set_cons_zero, List.set_cons_succ]
          refine wpAnyH_take (i := 10) (v := ?_) (by simp only [List.getElem?_toArray, List.getElem?_cons_succ, List.getElem?_cons_zero] <;> exact rfl) (by kernel_rfl) (by kernel_rfl) (by kernel_rfl) (fun _ _ _ h => h) (Or.inl ⟨by rfl, ?_⟩) hS ?_
          rotate_left
          focus (intro w' hw'; have kk := K10.out.keep hw'; have c0 := kk.cell 0; have c1 := kk.cell 1; have ct := kk.cell 2; simp only [List.getElem?_toArray, List.getElem?_cons_zero, List.getElem?_cons_succ] at c0 c1 ct; go_simp; all_goals with_reducible rfl)
          try simp only [Act.put, List.setIfInBounds_toArray, List.set_cons_zero, List.set_cons_succ]
          refine wpAnyH_take (i := 11) (v := ?_) (by simp only [List.getElem?_toArray, List.getElem?_cons_succ, List.getElem?_cons_zero] <;> exact rfl) (by kernel_rfl) (by kernel_rfl) (by kernel_rfl) (fun _ _ _ h => h) (Or.inl ⟨by rfl, ?_⟩) hS ?_
          rotate_left
          focus (intro w' hw'; have kk := K98.out.keep hw'; have c0 := kk.cell 0; have c1 := kk.cell 1; have ct := kk.cell 2; simp only [List.getElem?_toArray, List.getElem?_cons_zero, List.getElem?_cons_succ] at c0 c1 ct; go_simp; all_goals with_reducible rfl)
          try simp only [Act.put, List.setIfInBounds_toArray, List.set_cons_zero, List.set_cons_succ]
          refine wpAnyH_take (i := 12) (v := ?_) (by simp only [List.getElem?_toArray, List.getElem?_cons_succ, List.getElem?_cons_zero] <;> exact rfl) (by kernel_rfl) (by kernel_rfl) (by kernel_rfl) (fun _ _ _ h => h) (Or.inl ⟨by rfl, ?_⟩) hS ?_
          rotate_left
          focus (intro w' hw'; go_simp; all_goals with_reducible rfl)
          try simp only [Act.put, List.setIfInBounds_toArray, List.set_cons_zero, List.set_cons_succ]
          refine wpAnyH_take (i := 13) (v := ?_) (by simp only [List.getElem?_toArray, List.getElem?_cons_succ, List.getElem?_cons_zero] <;> exact rfl) (by kernel_rfl) (by kernel_rfl) (by kernel_rfl) (fun _ _ _ h => h) (Or.inl ⟨by rfl, ?_⟩) hS ?_
          rotate_left
          focus (intro w' hw'; go_simp; all_goals with_reducible rfl)
          try simp only [Act.put, List.setIfInBounds_toArray, List.set_cons_zero, List.set_cons_succ]
          refine wpAnyH_take (i := 14) (v := ?_) (by simp only [List.getElem?_toArray, List.getElem?_cons_succ, List.getElem?_cons_zero] <;> exact rfl) (by kernel_rfl) (by kernel_rfl) (by kernel_rfl) (fun _ _ _ h => h) (Or.inl ⟨by rfl, ?_⟩) hS ?_
          rotate_left
          focus (intro w' hw'; go_simp; all_goals with_reducible rfl)
          try simp only [Act.put, List.setIfInBounds_toArray, List.set_cons_zero, List.set_cons_succ]
          refine wpAnyH_done (by kernel_rfl) ?_ _
          refine NoPanic.normal ?_
          have K59 := hide (K58.out.keep hS)
          have FT9 := hide (FT8.out.keep hS)
          have FA9 := hide (FA8.out.keep hS)
          have B9 := hide (B8.out.trans (hS.mono B8.out.size))
          have q1 := K59.out.cell 1
          simp only [List.getElem?_toArray, List.getElem?_cons_zero, List.getElem?_cons_succ] at q1
          clear hS K58 K98 FT8 FA8 K10 B8 HC hzle
          go_wp2_with fail
          go_roundw
          case rel =>
            have hfin := FA9.out.take HLC.out
            rw [← hEQ.out] at hfin
            exact ⟨i + 1, M, A4, A6, n4, c4, c6, _, by omega, by go_num, rfl, K59.out, FT9.out, hfin, HMAY.out, B9.out⟩
          case measure => simp [intOf]; omega
    · have hge : ¬ (i : Int) < (n : Int) := by omega
      clear hk5 hft hfa hck hb
      go_wp2_with (go_at_call 7; refine (aw_dyntab _).mono ?_; rintro e w7 ⟨rfl, hb7⟩; have HB7 := hide hb7; clear hb7)
      go_ret
      exact ⟨rfl, HB.out.trans (HB7.out.mono HB.out.size)⟩

theorem walk (A : Option Addr) (n c : Nat) (l : List Fd) (A' : Option Addr) (n' c' : Nat) (zs : Nat → Int) (w : World) (hfl : FL w A n c l) (hul : UL .u16 w A' n' c' zs) :
    Calls Try.prog 4 #[.slice A n c, .slice A' n' c'] w fun e w' => e = .returned (.bool true) ∧ Below w.heap.size w w' := by
  cases h : lightB l with
  | false => exact walk_long A A' n n' c c' l w hfl h
  | true =>
    by_cases h2 : (30 : Int) < (n' : Int)
    · exact walk_long2 A A' n n' c c' l w hfl h h2
    · exact walk_right A n c l A' n' c' zs w hfl hul h h2
end Go.Proofs.Ytchndegcnjejiaa.dyntabOrder
