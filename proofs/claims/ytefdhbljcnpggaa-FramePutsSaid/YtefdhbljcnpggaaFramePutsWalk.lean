/-
  FramePuts: its walk.
-/
import Derived.Test.YtefdhbljcnpggaaRpPut
import Derived.Test.YtefdhbljcnpggaaFrOpen
namespace Go.Proofs.Ytefdhbljcnpggaa.framePuts
open Go.RowKit Go.Proofs.Ytefdhbljcnpggaa

/-- The contracts that the law asks for, under one name. -/
structure Cons (F G : Fr) (A : Option Addr) (n : Nat) (l : List Pr) (B : Option Addr) (m : Nat) (k : List Pr) (c d : Nat) (cs ds : Array Value) : Prop where
  put : ∀ w, PL w A n c l → Calls Try.prog 14 #[.agg cs] w (GivesPut w.heap.size (F.put l) (F.chk n) w)
  rput : ∀ w, PL w A n c l → Calls Try.prog 15 #[.agg cs] w (GivesPut w.heap.size (F.put l) (F.chk n) w)
  chk : ∀ w, Calls Try.prog 16 #[.agg cs] w fun e w' => e = .returned (.int .i64 (F.chk n)) ∧ Below w.heap.size w w'
  rchk : ∀ w, PL w A n c l → Calls Try.prog 17 #[.agg cs] w fun e w' => e = .returned (.int .i64 (F.chk n)) ∧ Below w.heap.size w w'
  len : ∀ w, Calls Try.prog 18 #[.agg cs] w fun e w' => e = .returned (.int .i64 (F.len n)) ∧ Below w.heap.size w w'
  rlen : ∀ w, PL w A n c l → Calls Try.prog 19 #[.agg cs] w fun e w' => e = .returned (.int .i64 (F.len n)) ∧ Below w.heap.size w w'
  same : ∀ w, PL w A n c l → PL w B m d k → Calls Try.prog 20 #[.agg cs, .agg ds] w fun e w' => e = .returned (.bool (sameF F G l k)) ∧ Below w.heap.size w w'
  rsame : ∀ w, PL w A n c l → PL w B m d k → Calls Try.prog 11 #[.agg cs, .agg ds] w fun e w' => e = .returned (.bool (sameF F G l k)) ∧ Below w.heap.size w w'
theorem light_bd {F : Fr} {n : Nat} (h : F.light n = true) : (F.data.size : Int) ≤ 400 ∧ (n : Int) ≤ 40 := by
  unfold Fr.light at h
  simpa using h
theorem puts_cons (F G : Fr) (A : Option Addr) (n c : Nat) (l : List Pr) (B : Option Addr) (m d : Nat) (k : List Pr) (t0 : 0 ≤ F.ty) (_t1 : F.ty ≤ 255) (f0 : 0 ≤ F.fl) (f1 : F.fl ≤ 255) (hp : AllP l) (c0 : 0 ≤ F.code) (c1 : F.code ≤ 4294967295)
    (w0 : 0 ≤ F.wt) (w1 : F.wt ≤ 255) (hF : F.light n = true) (hG : G.light m = true) : Cons F G A n l B m k c d (F.cs A n c) (G.cs B m d) := by
  obtain ⟨s1, n1⟩ := light_bd hF
  obtain ⟨_, m1⟩ := light_bd hG
  exact ⟨fun w h => fr_Put F A n c l t0 c0 c1 w0 w1 hp (by omega) (by omega) w h, fun w h => rp_Put F A n c l t0 f0 f1 hp c0 c1 w0 w1 (by omega) (by omega) w h,
    fun w => fr_Check F A n c t0 (by omega) (by omega) w, fun w h => rp_Check F A n c l t0 f0 f1 hp c0 c1 w0 w1 (by omega) (by omega) w h,
    fun w => fr_Length F A n c t0 (by omega) (by omega) w, fun w h => rp_Length F A n c l t0 f0 f1 hp c0 c1 w0 w1 (by omega) (by omega) w h,
    fun w h h' => fr_Same F G A B n c m d l k w h h' (by omega) (by omega), fun w h h' => rf_Same F G A B n c m d l k w h h' (by omega) (by omega)⟩

set_option maxRecDepth 100000 in
set_option maxHeartbeats 3200000 in
theorem walk (F : Fr) (A : Option Addr) (n c : Nat) (l : List Pr) (G : Fr) (B : Option Addr) (m d : Nat) (k : List Pr) (w : World) (hPF : PL w A n c l) (hAF : AllP l) (FO : FrOk F) (hPG : PL w B m d k) (hAG : AllP k) (GO : FrOk G) :
    Calls Try.prog 4 #[.agg (F.cs A n c), .agg (G.cs B m d)] w fun e w' => e = .returned (.bool true) ∧ Below w.heap.size w w' := by
  obtain ⟨t0, t1⟩ := bounds_u8 FO.ty
  obtain ⟨f0, f1⟩ := bounds_u8 FO.fl
  obtain ⟨w0, w1⟩ := bounds_u8 FO.wt
  obtain ⟨c0, c1⟩ := bounds_u32 FO.code
  have HLF := hide (fun w => rp_Light F A n c w)
  have HLG := hide (fun w => rp_Light G B m d w)
  have HZR := hide (show (Try.prog.info? 35).map (·.size) = some (F.cs A n c).size from rfr_sz)
  have HZG := hide (show (Try.prog.info? 35).map (·.size) = some (G.cs B m d).size from rfr_sz)
  have HZP := hide (show (Try.prog.info? 28).map (·.size) = some (F.cs A n c).size from fr_sz)
  have HSZ := hide (show 12 = (F.cs A n c).size from rfl)
  have H1C := hide (Fr.cs_one F A n c)
  have CS := hide (fun (hF : F.light n = true) (hG : G.light m = true) => puts_cons F G A n c l B m d k t0 t1 f0 f1 hAF c0 c1 w0 w1 hF hG)
  have HPF := hide hPF
  have HPG := hide hPG
  clear FO GO hAF hAG t0 t1 f0 f1 w0 w1 c0 c1 hPF hPG
  generalize F.cs A n c = cs at *
  generalize G.cs B m d = ds at *
  go_enter Try.func4, Try.ntmps4
  go_upto_region 1 with (fail)
  have B0 := hide (Below.refl w.heap.size w)
  rw [show w.heap.size + 1 = (w.alloc (.cells cs 35)).heap.size by simp]
  have KN1 := hide (BlkIs.new w 35 cs)
  obtain ⟨x, hx⟩ : ∃ g, g = w.heap.size := ⟨_, rfl⟩
  have Lx := hide (show w.heap.size ≤ x by rw [hx]; exact B0.out.size)
  have B1 := hide (B0.out.alloc B0.out.size (.cells cs 35))
  rw [← hx] at KN1 ⊢
  generalize w.alloc (.cells cs 35) = w1 at B1 KN1 ⊢
  clear hx B0
  have KN2 := hide (BlkIs.new w1 35 ds)
  obtain ⟨y, hy⟩ : ∃ g, g = w1.heap.size := ⟨_, rfl⟩
  have Ly := hide (show w.heap.size ≤ y by rw [hy]; exact B1.out.size)
  have Nxy := hide (show x ≠ y by have := KN1.out.lt; omega)
  have Kx2 := hide (KN1.out.alloc (.cells ds 35))
  have B2 := hide (B1.out.alloc B1.out.size (.cells ds 35))
  rw [← hy] at KN2 ⊢
  generalize w1.alloc (.cells ds 35) = w2 at Kx2 B2 KN2 ⊢
  clear hy KN1 B1
  have LTF := hide (HPF.out.lts (Nat.le_refl _))
  have LTG := hide (HPG.out.lts (Nat.le_refl _))
  go_wp2_with (refine wpList_load_want (by rfl) 35 (.tmp 2) rfl x rfl 35 cs _ Kx2.out Try.underlying35 rfl HZR.out ?_)
  refine (HLF.out _).mono ?_
  rintro e w3 ⟨rfl, hb3⟩
  have Kx3 := hide (Kx2.out.keep hb3)
  have Ky3 := hide (KN2.out.keep hb3)
  have B3 := hide (B2.out.trans (hb3.mono B2.out.size))
  clear hb3 Kx2 KN2 B2
  cases hlf : F.light n with
  | false =>
    clear hlf
    go_wp2_with fail
    refine (aw_frame _).mono ?_
    rintro e w4 ⟨rfl, hb4⟩
    have Kx4 := hide (Kx3.out.keep hb4)
    have Ky4 := hide (Ky3.out.keep hb4)
    have B4 := hide (B3.out.trans (hb4.mono B3.out.size))
    clear hb4 Kx3 Ky3 B3
    go_wp2_with fail
    go_ret
    exact ⟨rfl, B4.out⟩
  | true =>
    have hlf := hide hlf
    go_wp2_with (refine wpList_load_want (by rfl) 35 (.tmp 3) rfl y rfl 35 ds _ Ky3.out Try.underlying35 rfl HZG.out ?_)
    refine (HLG.out _).mono ?_
    rintro e w4 ⟨rfl, hb4⟩
    have Kx4 := hide (Kx3.out.keep hb4)
    have Ky4 := hide (Ky3.out.keep hb4)
    have B4 := hide (B3.out.trans (hb4.mono B3.out.size))
    clear hb4 Kx3 Ky3 B3
    cases hlg : G.light m with
    | false =>
      clear hlg
      go_wp2_with fail
      refine (aw_frame _).mono ?_
      rintro e w5 ⟨rfl, hb5⟩
      have Kx5 := hide (Kx4.out.keep hb5)
      have Ky5 := hide (Ky4.out.keep hb5)
      have B5 := hide (B4.out.trans (hb5.mono B4.out.size))
      clear hb5 Kx4 Ky4 B4
      go_wp2_with fail
      go_ret
      exact ⟨rfl, B5.out⟩
    | true =>
      have HC := hide (CS.out hlf.out hlg)
      clear hlg hlf CS HLF HLG
      go_upto_region 4 with (first | (refine wpList_load_want (by rfl) 35 (.tmp 2) rfl x rfl 35 cs _ Kx4.out Try.underlying35 rfl HZR.out ?_) | (refine wpList_store_new rfl 28 (.tmp 5) (.tmp 19) rfl cs #[.int .u8 0, .int .u8 0, .int .i64 0, .string ⟨#[]⟩, .int .i64 0, .int .i64 0, .bool false, .int .u8 0, .int .u32 0, .int .i64 0, .int .i64 0, .slice none 0 0] 28 rfl rfl HZP.out HSZ.out H1C.out ?_))
      have KN5 := hide (BlkIs.new w4 28 cs)
      obtain ⟨p, hp⟩ : ∃ g, g = w4.heap.size := ⟨_, rfl⟩
      have Lp := hide (show w.heap.size ≤ p by rw [hp]; exact B4.out.size)
      have Nxp := hide (show x ≠ p by have := Kx4.out.lt; omega)
      have Nyp := hide (show y ≠ p by have := Ky4.out.lt; omega)
      have Kx5 := hide (Kx4.out.alloc (.cells cs 28))
      have Ky5 := hide (Ky4.out.alloc (.cells cs 28))
      have B5 := hide (B4.out.alloc B4.out.size (.cells cs 28))
      rw [← hp] at KN5 ⊢
      generalize w4.alloc (.cells cs 28) = w5 at Kx5 Ky5 B5 KN5 ⊢
      clear hp Kx4 Ky4 B4
      go_wp2_with (refine wpList_load_want (by rfl) 28 (.tmp 5) rfl p rfl 28 cs _ KN5.out Try.underlying28 rfl HZP.out ?_)
      refine (HC.out.put _ (HPF.out.keepB B5.out LTF.out)).mono ?_
      rintro e w6 ⟨v1, rfl, ho1, hb6⟩
      have Kx6 := hide (Kx5.out.keep hb6)
      have Ky6 := hide (Ky5.out.keep hb6)
      have Kp6 := hide (KN5.out.keep hb6)
      have B6 := hide (B5.out.trans (hb6.mono B5.out.size))
      clear hb6 Kx5 Ky5 KN5 B5
      have OA6 := hide ho1
      clear ho1
      go_wp2_with (refine wpList_load_want (by rfl) 35 (.tmp 2) rfl x rfl 35 cs _ Kx6.out Try.underlying35 rfl HZR.out ?_)
      refine (HC.out.rput _ (HPF.out.keepB B6.out LTF.out)).mono ?_
      rintro e w7 ⟨v2, rfl, ho2, hb7⟩
      have Kx7 := hide (Kx6.out.keep hb7)
      have Ky7 := hide (Ky6.out.keep hb7)
      have Kp7 := hide (Kp6.out.keep hb7)
      have EA7 := hide (own_keep OA6.out hb7)
      have B7 := hide (B6.out.trans (hb7.mono B6.out.size))
      clear hb7 Kx6 Ky6 Kp6 OA6 B6
      have OB7 := hide ho2
      clear ho2
      go_wp2_with fail
      refine wp_region_noPanic ?_
      refine wp_region_held_drew (S := fun w' => Below w7.heap.size w7 w') (by kernel_rfl) (Below.refl _ _).drew (fun hS => ?_)
      refine wpAnyH_take (i := 0) (v := ?_) (by simp only [List.getElem?_toArray, List.getElem?_cons_zero] <;> exact rfl) (by kernel_rfl) (by kernel_rfl) (by kernel_rfl) (fun _ _ _ h => h) (Or.inl ⟨by rfl, ?_⟩) hS ?_
      rotate_left
      focus (intro w' hw'; go_simp; all_goals with_reducible rfl)
      try simp only [Act.put, List.setIfInBounds_toArray, List.set_cons_zero, List.set_cons_succ]
      refine wpAnyH_take (i := 1) (v := ?_) (by simp only [List.getElem?_toArray, List.getElem?_cons_succ, List.getElem?_cons_zero] <;> exact rfl) (by kernel_rfl) (by kernel_rfl) (by kernel_rfl) (fun _ _ _ h => h) (Or.inl ⟨by rfl, ?_⟩) hS ?_
      rotate_left
      focus (intro w' hw'; have kk := own_string (own_keep EA7.out hw'); go_simp; all_goals with_reducible rfl)
      try simp only [Act.put, List.setIfInBounds_toArray, List.set_cons_zero, List.set_cons_succ]
      refine wpAnyH_take (i := 2) (v := ?_) (by simp only [List.getElem?_toArray, List.getElem?_cons_succ, List.getElem?_cons_zero] <;> exact rfl) (by kernel_rfl) (by kernel_rfl) (by kernel_rfl) (fun _ _ _ h => h) (Or.inl ⟨by rfl, ?_⟩) hS ?_
      rotate_left
      focus (intro w' hw'; go_simp; all_goals with_reducible rfl)
      try simp only [Act.put, List.setIfInBounds_toArray, List.set_cons_zero, List.set_cons_succ]
      refine wpAnyH_take (i := 3) (v := ?_) (by simp only [List.getElem?_toArray, List.getElem?_cons_succ, List.getElem?_cons_zero] <;> exact rfl) (by kernel_rfl) (by kernel_rfl) (by kernel_rfl) (fun _ _ _ h => h) (Or.inl ⟨by rfl, ?_⟩) hS ?_
      rotate_left
      focus (intro w' hw'; have kk := own_string (own_keep OB7.out hw'); go_simp; all_goals with_reducible rfl)
      try simp only [Act.put, List.setIfInBounds_toArray, List.set_cons_zero, List.set_cons_succ]
      refine wpAnyH_take (i := 4) (v := (.bool true)) (by simp only [List.getElem?_toArray, List.getElem?_cons_succ, List.getElem?_cons_zero] <;> exact rfl) (by kernel_rfl) (by kernel_rfl) (by kernel_rfl) (fun _ _ _ h => h) (Or.inl ⟨by rfl, ?_⟩) hS ?_
      focus (intro w' hw'; go_simp)
      try simp only [Act.put, List.setIfInBounds_toArray, List.set_cons_zero, List.set_cons_succ]
      refine wpAnyH_take (i := 5) (v := ?_) (by simp only [List.getElem?_toArray, List.getElem?_cons_succ, List.getElem?_cons_zero] <;> exact rfl) (by kernel_rfl) (by kernel_rfl) (by kernel_rfl) (fun _ _ _ h => h) (Or.inl ⟨by rfl, ?_⟩) hS ?_
      rotate_left
      focus (intro w' hw'; go_simp; all_goals with_reducible rfl)
      try simp only [Act.put, List.setIfInBounds_toArray, List.set_cons_zero, List.set_cons_succ]
      refine wpAnyH_take (i := 6) (v := ?_) (by simp only [List.getElem?_toArray, List.getElem?_cons_succ, List.getElem?_cons_zero] <;> exact rfl) (by kernel_rfl) (by kernel_rfl) (by kernel_rfl) (fun _ _ _ h => h) (Or.inl ⟨by rfl, ?_⟩) hS ?_
      rotate_left
      focus (intro w' hw'; go_simp; all_goals with_reducible rfl)
      try simp only [Act.put, List.setIfInBounds_toArray, List.set_cons_zero, List.set_cons_succ]
      refine wpAnyH_take (i := 7) (v := ?_) (by simp only [List.getElem?_toArray, List.getElem?_cons_succ, List.getElem?_cons_zero] <;> exact rfl) (by kernel_rfl) (by kernel_rfl) (by kernel_rfl) (fun _ _ _ h => h) (Or.inl ⟨by rfl, ?_⟩) hS ?_
      rotate_left
      focus (intro w' hw'; go_simp; all_goals with_reducible rfl)
      try simp only [Act.put, List.setIfInBounds_toArray, List.set_cons_zero, List.set_cons_succ]
      refine wpAnyH_take (i := 8) (v := (.bool true)) (by simp only [List.getElem?_toArray, List.getElem?_cons_succ, List.getElem?_cons_zero] <;> exact rfl) (by kernel_rfl) (by kernel_rfl) (by kernel_rfl) (fun _ _ _ h => h) (Or.inl ⟨by rfl, ?_⟩) hS ?_
      focus (intro w' hw'; go_simp)
      try simp only [Act.put, List.setIfInBounds_toArray, List.set_cons_zero, List.set_cons_succ]
      refine wpAnyH_take (i := 9) (v := ?_) (by simp only [List.getElem?_toArray, List.getElem?_cons_succ, List.getElem?_cons_zero] <;> exact rfl) (by kernel_rfl) (by kernel_rfl) (by kernel_rfl) (fun _ _ _ h => h) (Or.inl ⟨by rfl, ?_⟩) hS ?_
      rotate_left
      focus (intro w' hw'; go_simp; all_goals with_reducible rfl)
      try simp only [Act.put, List.setIfInBounds_toArray, List.set_cons_zero, List.set_cons_succ]
      refine wpAnyH_take (i := 10) (v := ?_) (by simp only [List.getElem?_toArray, List.getElem?_cons_succ, List.getElem?_cons_zero] <;> exact rfl) (by kernel_rfl) (by kernel_rfl) (by kernel_rfl) (fun _ _ _ h => h) (Or.inl ⟨by rfl, ?_⟩) hS ?_
      rotate_left
      focus (intro w' hw'; go_simp; all_goals with_reducible rfl)
      try simp only [Act.put, List.setIfInBounds_toArray, List.set_cons_zero, List.set_cons_succ]
      refine wpAnyH_take (i := 11) (by simp only [List.getElem?_toArray, List.getElem?_cons_succ, List.getElem?_cons_zero] <;> exact rfl) (by kernel_rfl) (by kernel_rfl) (by kernel_rfl) (fun _ _ _ h => h) (yields_blk (by rfl) 28 (.tmp 5) (by rfl) p (by rfl) 28 cs _ (fun w' hw' => Kp7.out.keep hw') Try.underlying28 rfl HZP.out) hS ?_
      try simp only [Act.put, List.setIfInBounds_toArray, List.set_cons_zero, List.set_cons_succ]
      refine wpAnyH_take (i := 13) (by simp only [List.getElem?_toArray, List.getElem?_cons_succ, List.getElem?_cons_zero] <;> exact rfl) (by kernel_rfl) (by kernel_rfl) (by kernel_rfl) (fun _ _ _ h => h) (yields_blk (by rfl) 35 (.tmp 2) (by rfl) x (by rfl) 35 cs _ (fun w' hw' => Kx7.out.keep hw') Try.underlying35 rfl HZR.out) hS ?_
      try simp only [Act.put, List.setIfInBounds_toArray, List.set_cons_zero, List.set_cons_succ]
      refine wpAnyH_ready (rs := [12]) (by kernel_rfl) (by simp) ?_
      refine AllReadyH.cons (o := _) (by simp only [List.getElem?_toArray, List.getElem?_cons_succ, List.getElem?_cons_zero] <;> exact rfl) (fun K hK => ?_) ?_
      focus (
        go_simp
        go_at_call 16
        refine (HC.out.chk _).mono ?_
        rintro e wc1 ⟨rfl, hb⟩
        have hS := hS.trans (hb.mono hS.size)
        clear hb
        go_wp2_with fail
        refine hK.out _ _ hS (fun _ => ?_)
        clear hK K
        try simp only [Act.put, List.setIfInBounds_toArray, List.set_cons_zero, List.set_cons_succ])
      rotate_left
      focus (exact AllReadyH.nil)
      refine wpAnyH_ready (rs := [14]) (by kernel_rfl) (by simp) ?_
      refine AllReadyH.cons (o := _) (by simp only [List.getElem?_toArray, List.getElem?_cons_succ, List.getElem?_cons_zero] <;> exact rfl) (fun K hK => ?_) ?_
      focus (
        go_simp
        go_at_call 17
        refine (HC.out.rchk _ (HPF.out.keepB (B7.out.trans (hS.mono B7.out.size)) LTF.out)).mono ?_
        rintro e wc2 ⟨rfl, hb⟩
        have hS := hS.trans (hb.mono hS.size)
        clear hb
        go_wp2_with fail
        refine hK.out _ _ hS (fun _ => ?_)
        clear hK K
        try simp only [Act.put, List.setIfInBounds_toArray, List.set_cons_zero, List.set_cons_succ])
      rotate_left
      focus (exact AllReadyH.nil)
      refine wpAnyH_take (i := 15) (v := (.bool true)) (by simp only [List.getElem?_toArray, List.getElem?_cons_succ, List.getElem?_cons_zero] <;> exact rfl) (by kernel_rfl) (by kernel_rfl) (by kernel_rfl) (fun _ _ _ h => h) (Or.inl ⟨by rfl, ?_⟩) hS ?_
      focus (intro w' hw'; go_simp)
      try simp only [Act.put, List.setIfInBounds_toArray, List.set_cons_zero, List.set_cons_succ]
      refine wpAnyH_take (i := 16) (v := ?_) (by simp only [List.getElem?_toArray, List.getElem?_cons_succ, List.getElem?_cons_zero] <;> exact rfl) (by kernel_rfl) (by kernel_rfl) (by kernel_rfl) (fun _ _ _ h => h) (Or.inl ⟨by rfl, ?_⟩) hS ?_
      rotate_left
      focus (intro w' hw'; go_simp; all_goals with_reducible rfl)
      try simp only [Act.put, List.setIfInBounds_toArray, List.set_cons_zero, List.set_cons_succ]
      refine wpAnyH_take (i := 17) (v := ?_) (by simp only [List.getElem?_toArray, List.getElem?_cons_succ, List.getElem?_cons_zero] <;> exact rfl) (by kernel_rfl) (by kernel_rfl) (by kernel_rfl) (fun _ _ _ h => h) (Or.inl ⟨by rfl, ?_⟩) hS ?_
      rotate_left
      focus (intro w' hw'; go_simp; all_goals with_reducible rfl)
      try simp only [Act.put, List.setIfInBounds_toArray, List.set_cons_zero, List.set_cons_succ]
      refine wpAnyH_take (i := 18) (by simp only [List.getElem?_toArray, List.getElem?_cons_succ, List.getElem?_cons_zero] <;> exact rfl) (by kernel_rfl) (by kernel_rfl) (by kernel_rfl) (fun _ _ _ h => h) (yields_blk (by rfl) 28 (.tmp 5) (by rfl) p (by rfl) 28 cs _ (fun w' hw' => Kp7.out.keep hw') Try.underlying28 rfl HZP.out) hS ?_
      try simp only [Act.put, List.setIfInBounds_toArray, List.set_cons_zero, List.set_cons_succ]
      refine wpAnyH_take (i := 20) (by simp only [List.getElem?_toArray, List.getElem?_cons_succ, List.getElem?_cons_zero] <;> exact rfl) (by kernel_rfl) (by kernel_rfl) (by kernel_rfl) (fun _ _ _ h => h) (yields_blk (by rfl) 35 (.tmp 2) (by rfl) x (by rfl) 35 cs _ (fun w' hw' => Kx7.out.keep hw') Try.underlying35 rfl HZR.out) hS ?_
      try simp only [Act.put, List.setIfInBounds_toArray, List.set_cons_zero, List.set_cons_succ]
      refine wpAnyH_ready (rs := [19]) (by kernel_rfl) (by simp) ?_
      refine AllReadyH.cons (o := _) (by simp only [List.getElem?_toArray, List.getElem?_cons_succ, List.getElem?_cons_zero] <;> exact rfl) (fun K hK => ?_) ?_
      focus (
        go_simp
        go_at_call 18
        refine (HC.out.len _).mono ?_
        rintro e wc3 ⟨rfl, hb⟩
        have hS := hS.trans (hb.mono hS.size)
        clear hb
        go_wp2_with fail
        refine hK.out _ _ hS (fun _ => ?_)
        clear hK K
        try simp only [Act.put, List.setIfInBounds_toArray, List.set_cons_zero, List.set_cons_succ])
      rotate_left
      focus (exact AllReadyH.nil)
      refine wpAnyH_ready (rs := [21]) (by kernel_rfl) (by simp) ?_
      refine AllReadyH.cons (o := _) (by simp only [List.getElem?_toArray, List.getElem?_cons_succ, List.getElem?_cons_zero] <;> exact rfl) (fun K hK => ?_) ?_
      focus (
        go_simp
        go_at_call 19
        refine (HC.out.rlen _ (HPF.out.keepB (B7.out.trans (hS.mono B7.out.size)) LTF.out)).mono ?_
        rintro e wc4 ⟨rfl, hb⟩
        have hS := hS.trans (hb.mono hS.size)
        clear hb
        go_wp2_with fail
        refine hK.out _ _ hS (fun _ => ?_)
        clear hK K
        try simp only [Act.put, List.setIfInBounds_toArray, List.set_cons_zero, List.set_cons_succ])
      rotate_left
      focus (exact AllReadyH.nil)
      refine wpAnyH_take (i := 22) (v := (.bool true)) (by simp only [List.getElem?_toArray, List.getElem?_cons_succ, List.getElem?_cons_zero] <;> exact rfl) (by kernel_rfl) (by kernel_rfl) (by kernel_rfl) (fun _ _ _ h => h) (Or.inl ⟨by rfl, ?_⟩) hS ?_
      focus (intro w' hw'; go_simp)
      try simp only [Act.put, List.setIfInBounds_toArray, List.set_cons_zero, List.set_cons_succ]
      refine wpAnyH_take (i := 23) (v := ?_) (by simp only [List.getElem?_toArray, List.getElem?_cons_succ, List.getElem?_cons_zero] <;> exact rfl) (by kernel_rfl) (by kernel_rfl) (by kernel_rfl) (fun _ _ _ h => h) (Or.inl ⟨by rfl, ?_⟩) hS ?_
      rotate_left
      focus (intro w' hw'; go_simp; all_goals with_reducible rfl)
      try simp only [Act.put, List.setIfInBounds_toArray, List.set_cons_zero, List.set_cons_succ]
      refine wpAnyH_take (i := 24) (v := ?_) (by simp only [List.getElem?_toArray, List.getElem?_cons_succ, List.getElem?_cons_zero] <;> exact rfl) (by kernel_rfl) (by kernel_rfl) (by kernel_rfl) (fun _ _ _ h => h) (Or.inl ⟨by rfl, ?_⟩) hS ?_
      rotate_left
      focus (intro w' hw'; go_simp; all_goals with_reducible rfl)
      try simp only [Act.put, List.setIfInBounds_toArray, List.set_cons_zero, List.set_cons_succ]
      refine wpAnyH_take (i := 25) (by simp only [List.getElem?_toArray, List.getElem?_cons_succ, List.getElem?_cons_zero] <;> exact rfl) (by kernel_rfl) (by kernel_rfl) (by kernel_rfl) (fun _ _ _ h => h) (yields_blk (by rfl) 28 (.tmp 5) (by rfl) p (by rfl) 28 cs _ (fun w' hw' => Kp7.out.keep hw') Try.underlying28 rfl HZP.out) hS ?_
      try simp only [Act.put, List.setIfInBounds_toArray, List.set_cons_zero, List.set_cons_succ]
      refine wpAnyH_take (i := 26) (by simp only [List.getElem?_toArray, List.getElem?_cons_succ, List.getElem?_cons_zero] <;> exact rfl) (by kernel_rfl) (by kernel_rfl) (by kernel_rfl) (fun _ _ _ h => h) (yields_blk (by rfl) 35 (.tmp 3) (by rfl) y (by rfl) 35 ds _ (fun w' hw' => Ky7.out.keep hw') Try.underlying35 rfl HZG.out) hS ?_
      try simp only [Act.put, List.setIfInBounds_toArray, List.set_cons_zero, List.set_cons_succ]
      refine wpAnyH_take (i := 28) (by simp only [List.getElem?_toArray, List.getElem?_cons_succ, List.getElem?_cons_zero] <;> exact rfl) (by kernel_rfl) (by kernel_rfl) (by kernel_rfl) (fun _ _ _ h => h) (yields_blk (by rfl) 35 (.tmp 2) (by rfl) x (by rfl) 35 cs _ (fun w' hw' => Kx7.out.keep hw') Try.underlying35 rfl HZR.out) hS ?_
      try simp only [Act.put, List.setIfInBounds_toArray, List.set_cons_zero, List.set_cons_succ]
      refine wpAnyH_take (i := 29) (by simp only [List.getElem?_toArray, List.getElem?_cons_succ, List.getElem?_cons_zero] <;> exact rfl) (by kernel_rfl) (by kernel_rfl) (by kernel_rfl) (fun _ _ _ h => h) (yields_blk (by rfl) 35 (.tmp 3) (by rfl) y (by rfl) 35 ds _ (fun w' hw' => Ky7.out.keep hw') Try.underlying35 rfl HZG.out) hS ?_
      try simp only [Act.put, List.setIfInBounds_toArray, List.set_cons_zero, List.set_cons_succ]
      refine wpAnyH_ready (rs := [27]) (by kernel_rfl) (by simp) ?_
      refine AllReadyH.cons (o := _) (by simp only [List.getElem?_toArray, List.getElem?_cons_succ, List.getElem?_cons_zero] <;> exact rfl) (fun K hK => ?_) ?_
      focus (
        go_simp
        go_at_call 20
        refine (HC.out.same _ (HPF.out.keepB (B7.out.trans (hS.mono B7.out.size)) LTF.out) (HPG.out.keepB (B7.out.trans (hS.mono B7.out.size)) LTG.out)).mono ?_
        rintro e wc5 ⟨rfl, hb⟩
        have hS := hS.trans (hb.mono hS.size)
        clear hb
        go_wp2_with fail
        refine hK.out _ _ hS (fun _ => ?_)
        clear hK K
        try simp only [Act.put, List.setIfInBounds_toArray, List.set_cons_zero, List.set_cons_succ])
      rotate_left
      focus (exact AllReadyH.nil)
      refine wpAnyH_ready (rs := [30]) (by kernel_rfl) (by simp) ?_
      refine AllReadyH.cons (o := _) (by simp only [List.getElem?_toArray, List.getElem?_cons_succ, List.getElem?_cons_zero] <;> exact rfl) (fun K hK => ?_) ?_
      focus (
        go_simp
        go_at_call 11
        refine (HC.out.rsame _ (HPF.out.keepB (B7.out.trans (hS.mono B7.out.size)) LTF.out) (HPG.out.keepB (B7.out.trans (hS.mono B7.out.size)) LTG.out)).mono ?_
        rintro e wc6 ⟨rfl, hb⟩
        have hS := hS.trans (hb.mono hS.size)
        clear hb
        go_wp2_with fail
        refine hK.out _ _ hS (fun _ => ?_)
        clear hK K
        try simp only [Act.put, List.setIfInBounds_toArray, List.set_cons_zero, List.set_cons_succ])
      rotate_left
      focus (exact AllReadyH.nil)
      refine wpAnyH_take (i := 31) (v := (.bool true)) (by simp only [List.getElem?_toArray, List.getElem?_cons_succ, List.getElem?_cons_zero] <;> exact rfl) (by kernel_rfl) (by kernel_rfl) (by kernel_rfl) (fun _ _ _ h => h) (Or.inl ⟨by rfl, ?_⟩) hS ?_
      focus (intro w' hw'; go_simp)
      try simp only [Act.put, List.setIfInBounds_toArray, List.set_cons_zero, List.set_cons_succ]
      refine wpAnyH_take (i := 32) (v := ?_) (by simp only [List.getElem?_toArray, List.getElem?_cons_succ, List.getElem?_cons_zero] <;> exact rfl) (by kernel_rfl) (by kernel_rfl) (by kernel_rfl) (fun _ _ _ h => h) (Or.inl ⟨by rfl, ?_⟩) hS ?_
      rotate_left
      focus (intro w' hw'; go_simp; all_goals with_reducible rfl)
      try simp only [Act.put, List.setIfInBounds_toArray, List.set_cons_zero, List.set_cons_succ]
      refine wpAnyH_take (i := 33) (v := ?_) (by simp only [List.getElem?_toArray, List.getElem?_cons_succ, List.getElem?_cons_zero] <;> exact rfl) (by kernel_rfl) (by kernel_rfl) (by kernel_rfl) (fun _ _ _ h => h) (Or.inl ⟨by rfl, ?_⟩) hS ?_
      rotate_left
      focus (intro w' hw'; go_simp; all_goals with_reducible rfl)
      try simp only [Act.put, List.setIfInBounds_toArray, List.set_cons_zero, List.set_cons_succ]
      refine wpAnyH_ready (rs := [34]) (by kernel_rfl) (by simp) ?_
      refine AllReadyH.cons (o := _) (by simp only [List.getElem?_toArray, List.getElem?_cons_succ, List.getElem?_cons_zero] <;> exact rfl) (fun K hK => ?_) ?_
      focus (
        go_simp
        go_at_call 8
        refine (aw_frame _).mono ?_
        rintro e wc7 ⟨rfl, hb⟩
        have hS := hS.trans (hb.mono hS.size)
        clear hb
        go_wp2_with fail
        refine hK.out _ _ hS (fun _ => ?_)
        clear hK K
        try simp only [Act.put, List.setIfInBounds_toArray, List.set_cons_zero, List.set_cons_succ])
      rotate_left
      focus (exact AllReadyH.nil)
      refine wpAnyH_take (i := 35) (v := ?_) (by simp only [List.getElem?_toArray, List.getElem?_cons_succ, List.getElem?_cons_zero] <;> exact rfl) (by kernel_rfl) (by kernel_rfl) (by kernel_rfl) (fun _ _ _ h => h) (Or.inl ⟨by rfl, ?_⟩) hS ?_
      rotate_left
      focus (intro w' hw'; go_simp; all_goals with_reducible rfl)
      try simp only [Act.put, List.setIfInBounds_toArray, List.set_cons_zero, List.set_cons_succ]
      refine wpAnyH_take (i := 36) (v := ?_) (by simp only [List.getElem?_toArray, List.getElem?_cons_succ, List.getElem?_cons_zero] <;> exact rfl) (by kernel_rfl) (by kernel_rfl) (by kernel_rfl) (fun _ _ _ h => h) (Or.inl ⟨by rfl, ?_⟩) hS ?_
      rotate_left
      focus (intro w' hw'; go_simp; all_goals with_reducible rfl)
      try simp only [Act.put, List.setIfInBounds_toArray, List.set_cons_zero, List.set_cons_succ]
      refine wpAnyH_done (by kernel_rfl) ?_ _
      refine NoPanic.normal ?_
      have HB := hide (B7.out.trans (hS.mono B7.out.size))
      clear hS
      go_wp2_with fail
      go_ret
      exact ⟨rfl, HB.out⟩
end Go.Proofs.Ytefdhbljcnpggaa.framePuts
