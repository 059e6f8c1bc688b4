/-
  Layer 9: Grow of a head's bytes; Put (the program's).
-/
import Derived.Test.YtefdhbljcnpggaaFrLay
import Derived.Test.YtefdhbljcnpggaaFrLength
namespace Go.Proofs.Ytefdhbljcnpggaa
open Go.RowKit

theorem own_cut {w : World} {B n c k g : Nat} {e : TypeId} {xs : List Value} (h : w.ownsRow B e 1 (.slice (some ⟨g, 0, none⟩) n c) n xs) (hk : k ≤ n) : w.ownsRow B e 1 (.slice (some ⟨g, 0, none⟩) k c) k (xs.take k) := by
  have hl : xs.length = n := by simpa using h.1
  refine ⟨by rw [List.length_take]; omega, ?_⟩
  rcases h.2 with ⟨he, _⟩ | ⟨g', cap, cur, he, hb, hg, hn, hm, hs, ht⟩
  · cases he
  · injection he with e1 e2 e3
    injection e1 with e1
    injection e1 with e1
    subst e1 e3
    refine .inr ⟨g, c, cur, rfl, hb, hg, Nat.le_trans hk hn, hm, hs, ?_⟩
    rw [← ht, List.take_take]
    congr 1
    omega
theorem own_some {w : World} {B n : Nat} {e : TypeId} {v : Value} {xs : List Value} (h : w.ownsRow B e 1 v n xs) (hn : 0 < n) : ∃ g c, v = .slice (some ⟨g, 0, none⟩) n c ∧ n ≤ c := by
  rcases h.2 with ⟨_, h0⟩ | ⟨g, cap, cur, he, _, _, hc, _⟩
  · omega
  · exact ⟨g, cap, he, hc⟩

set_option maxRecDepth 100000 in
set_option maxHeartbeats 1600000 in
theorem sl_Grow9 (h : Nat) (xs : List Int) (hx : xs.length = 9) (N : Nat) (hN : (N : Int) ≤ 20000) (B : Nat) (hBh : B ≤ h) (w : World) (hB : B ≤ w.heap.size) (hk : BlkIs w h 5 (u8s xs).toArray) :
    Calls Try.prog 39 #[.slice (some ⟨h, 0, none⟩) 9 9, .int .i64 (N : Int)] w (GrowsRow B xs (.slice (some ⟨h, 0, none⟩) 9 9) w) := by
  obtain ⟨i0, hi0, hz0, hz1, hz2⟩ := info_parts u8_info
  have hown := own_blk B xs 9 hx (by omega) hk hBh
  have HO := hide hown
  have HX := hide hx
  by_cases h0 : N = 0
  · subst h0
    clear hown hk
    go_enter Try.func39, Try.ntmps39
    go_wp2
    go_ret
    exact ⟨_, rfl, by rw [HX.out]; exact HO.out, ⟨rfl, rfl, rfl, Nat.le_refl _, fun _ _ _ => rfl⟩⟩
  · obtain ⟨v', w', hr, ho, hg⟩ := run_append_own_zeros (P := Try.prog) w B 44 3 44 5 i0 Try.underlying44 Try.underlying3 hi0 hz0 hz1 hz2 (.slice (some ⟨h, 0, none⟩) 9 9) 9 xs hown N (by omega) hB
    obtain ⟨g, c, rfl, hc⟩ := own_some ho (by omega)
    have hcut := own_cut ho (k := 9) (by omega)
    have htk : (u8s (xs ++ zs N)).take 9 = u8s xs := by
      rw [show u8s (xs ++ zs N) = u8s xs ++ u8s (zs N) by simp [u8s], List.take_append_of_le_length (by simp [u8s, hx]), List.take_of_length_le (by simp [u8s, hx])]
    rw [htk] at hcut
    have HR := hide hr
    have HC := hide hcut
    have HG := hide hg
    have hN0 : (0 : Int) < (N : Int) := by omega
    have hc9 : (9 : Int) ≤ (c : Int) := by omega
    clear hown hk hr ho hcut hg htk hx h0 hc
    go_enter Try.func39, Try.ntmps39
    go_wp2_with (at_builtin; refine Lib.wpList_append_run _ rfl _ _ _ _ rfl _ _ rfl rfl _ _ HR.out ?_)
    go_ret
    exact ⟨_, rfl, by rw [HX.out]; exact HC.out, HG.out⟩

/-- A frame's bytes behind xs; what Put answers. -/
def Fr.lay (F : Fr) (l : List Pr) (xs : List Int) : List Int :=
  ((((((xs ++ ifB (shP F.ty F.fl) [F.pad]) ++ ifB (shD F.ty F.fl) (num4 F.top ++ [F.wt])) ++ ifB (shL F.ty) (num4 F.last)) ++ ifB (shC F.ty) (num4 F.code)) ++ ifB (shI F.ty) (num4 F.inc)) ++ prB l) ++ bts F.data ++ zs F.pad.toNat
theorem lay_eq (F : Fr) (l : List Pr) (xs : List Int) : F.lay l xs = xs ++ F.lay l [] := by simp [Fr.lay]
def Fr.put (F : Fr) (l : List Pr) : List Int := if F.chk l.length = 0 then F.lay l (hdB (F.siz l.length) F.ty F.fl F.st) else []
theorem siz_bd {F : Fr} {n : Nat} (hin : F.inB = true) (h : F.siz n ≤ 16384) : 0 ≤ F.siz n ∧ (n : Int) ≤ 20000 ∧ (F.data.size : Int) ≤ 20000 := by
  have hb := fixN_bd (shD F.ty F.fl) (shL F.ty) (shC F.ty) (shI F.ty)
  have hi := (inB_iff F).1 hin
  unfold Fr.siz sizV at *
  split at h <;> omega

set_option maxRecDepth 100000 in
set_option maxHeartbeats 3200000 in
theorem fr_Put_yes (F : Fr) (A : Option Addr) (n c : Nat) (lp : List Pr) (t0 : 0 ≤ F.ty) (hc0 : 0 ≤ F.code) (hc1 : F.code ≤ 4294967295) (hw0 : 0 ≤ F.wt) (hw1 : F.wt ≤ 255) (hp : AllP lp) (hchk : F.chk n = 0)
    (hn : (n : Int) ≤ 150000000000000) (hs : (F.data.size : Int) ≤ 150000000000000) (w : World) (hpl : PL w A n c lp) :
    Calls Try.prog 14 #[.agg (F.cs A n c)] w (GivesPut w.heap.size (F.lay lp (hdB (F.siz n) F.ty F.fl F.st)) 0 w) := by
  obtain ⟨hin, _, _, hsz⟩ := chk_zero hchk
  obtain ⟨z0, zn, zd⟩ := siz_bd hin hsz
  obtain ⟨s0, s1, _, _, _, _, _, _, p0, p1⟩ := (inB_iff F).1 hin
  have HC := hide (fun w => fr_Check F A n c t0 hn hs w)
  rw [hchk] at HC
  have HH := hide (fun w => fr_head F A n c w)
  have HS := hide (fun w => fr_shapeOf 0 F.ty F.fl F.st t0 w)
  have HSz := hide (fun w => fr_size (shP F.ty F.fl) (shD F.ty F.fl) (shL F.ty) (shC F.ty) (shI F.ty) (shR F.ty F.fl) (shX F.ty) F A n c hn hs p0 p1 w)
  have HLay := hide (fun B v w hB ho hpl hlt => fr_lay (shP F.ty F.fl) (shD F.ty F.fl) (shL F.ty) (shC F.ty) (shI F.ty) (shR F.ty F.fl) (shX F.ty) F A n c lp B v (hdB (F.siz n) F.ty F.fl F.st) hp hin hc0 hc1 hw0 hw1 zn zd (by rw [hdB_len]; omega) w hB ho hpl hlt)
  have HPut := hide (fun w => fh_Put_blk (F.siz n) F.ty F.fl F.st z0 (by omega) s0 s1 w)
  have HQ : F.siz n = sizV (shP F.ty F.fl) (shD F.ty F.fl) (shL F.ty) (shC F.ty) (shI F.ty) F n := rfl
  have HV : shV F.ty F.fl = #[.bool (shP F.ty F.fl), .bool (shD F.ty F.fl), .bool (shL F.ty), .bool (shC F.ty), .bool (shI F.ty), .bool (shR F.ty F.fl), .bool (shX F.ty)] := rfl
  rw [← HQ] at HSz
  rw [HV] at HS
  clear HQ HV
  have HL := hide (show F.lay lp (hdB (F.siz n) F.ty F.fl F.st) = _ from rfl)
  unfold Fr.lay at HL
  obtain ⟨R, hR⟩ : ∃ R, R = F.lay lp (hdB (F.siz n) F.ty F.fl F.st) := ⟨_, rfl⟩
  rw [← hR]
  unfold Fr.lay at hR
  rw [← hR] at HLay
  clear HL hR
  have HZ := hide (show (Try.prog.info? 28).map (·.size) = some (F.cs A n c).size from fr_sz)
  have HP := hide hpl
  obtain ⟨X, hX⟩ : ∃ X : Nat, F.siz n = (X : Int) := ⟨(F.siz n).toNat, by omega⟩
  have HXL := hide (show (X : Int) ≤ 20000 by omega)
  rw [hX] at HSz HPut HLay
  generalize shP F.ty F.fl = p at *
  generalize shD F.ty F.fl = d at *
  generalize shL F.ty = l at *
  generalize shC F.ty = c0 at *
  generalize shI F.ty = i at *
  generalize shR F.ty F.fl = r at *
  generalize shX F.ty = x at *
  generalize F.cs A n c = cs at *
  clear hpl hin hsz z0 zn zd s0 s1 p0 p1 hchk hX hp
  go_enter Try.func14, Try.ntmps14
  go_upto_region 1 with (fail)
  have B0 := hide (Below.refl w.heap.size w)
  have KN1 := hide (BlkIs.new w 28 cs)
  obtain ⟨g, hg⟩ : ∃ g, g = w.heap.size := ⟨_, rfl⟩
  have Lg := hide (show w.heap.size ≤ g by rw [hg]; exact B0.out.size)
  have EP1 := hide (HP.out.alloc (.cells cs 28))
  have B1 := hide (B0.out.alloc B0.out.size (.cells cs 28))
  rw [← hg] at KN1 ⊢
  generalize w.alloc (.cells cs 28) = w1 at EP1 B1 KN1 ⊢
  clear hg HP B0
  go_wp2_with (refine wpList_load_blk rfl 28 (.tmp 1) rfl g rfl 28 cs _ KN1.out Try.underlying28 rfl HZ.out ?_)
  refine (HC.out _).mono ?_
  rintro e w2 ⟨rfl, hb2⟩
  have Kg2 := hide (KN1.out.keep hb2)
  have EP2 := hide (EP1.out.keep hb2)
  have B2 := hide (B1.out.trans (hb2.mono B1.out.size))
  clear hb2 KN1 EP1 B1
  go_wp2_with (refine wpList_load_blk rfl 28 (.tmp 1) rfl g rfl 28 cs _ Kg2.out Try.underlying28 rfl HZ.out ?_)
  refine (HH.out _).mono ?_
  rintro e w3 ⟨rfl, hb3⟩
  have Kg3 := hide (Kg2.out.keep hb3)
  have EP3 := hide (EP2.out.keep hb3)
  have B3 := hide (B2.out.trans (hb3.mono B2.out.size))
  clear hb3 Kg2 EP2 B2
  go_upto_region 5 with (fail)
  have KN4 := hide (BlkIs.new w3 34 #[.int .i64 0, .int .u8 F.ty, .int .u8 F.fl, .int .i64 F.st])
  obtain ⟨y, hy⟩ : ∃ g, g = w3.heap.size := ⟨_, rfl⟩
  have Ly := hide (show w.heap.size ≤ y by rw [hy]; exact B3.out.size)
  have Ngy := hide (show g ≠ y by have := Kg3.out.lt; omega)
  have Kg4 := hide (Kg3.out.alloc (.cells #[.int .i64 0, .int .u8 F.ty, .int .u8 F.fl, .int .i64 F.st] 34))
  have EP4 := hide (EP3.out.alloc (.cells #[.int .i64 0, .int .u8 F.ty, .int .u8 F.fl, .int .i64 F.st] 34))
  have B4 := hide (B3.out.alloc B3.out.size (.cells #[.int .i64 0, .int .u8 F.ty, .int .u8 F.fl, .int .i64 F.st] 34))
  rw [← hy] at KN4 ⊢
  generalize w3.alloc (.cells #[.int .i64 0, .int .u8 F.ty, .int .u8 F.fl, .int .i64 F.st] 34) = w4 at Kg4 EP4 B4 KN4 ⊢
  clear hy Kg3 EP3 B3
  obtain ⟨k0, k1, k2, k3⟩ := hd_cells KN4.out
  go_wp2_with fail
  clear k0 k1 k2 k3
  refine (HS.out _).mono ?_
  rintro e w5 ⟨rfl, hb5⟩
  have Kg5 := hide (Kg4.out.keep hb5)
  have Ky5 := hide (KN4.out.keep hb5)
  have EP5 := hide (EP4.out.keep hb5)
  have B5 := hide (B4.out.trans (hb5.mono B4.out.size))
  clear hb5 Kg4 KN4 EP4 B4
  go_upto_region 6 with (fail)
  have KN6 := hide (BlkIs.new w5 62 #[.bool p, .bool d, .bool l, .bool c0, .bool i, .bool r, .bool x])
  obtain ⟨z, hz⟩ : ∃ g, g = w5.heap.size := ⟨_, rfl⟩
  have Lz := hide (show w.heap.size ≤ z by rw [hz]; exact B5.out.size)
  have Ngz := hide (show g ≠ z by have := Kg5.out.lt; omega)
  have Nyz := hide (show y ≠ z by have := Ky5.out.lt; omega)
  have Kg6 := hide (Kg5.out.alloc (.cells #[.bool p, .bool d, .bool l, .bool c0, .bool i, .bool r, .bool x] 62))
  have Ky6 := hide (Ky5.out.alloc (.cells #[.bool p, .bool d, .bool l, .bool c0, .bool i, .bool r, .bool x] 62))
  have EP6 := hide (EP5.out.alloc (.cells #[.bool p, .bool d, .bool l, .bool c0, .bool i, .bool r, .bool x] 62))
  have B6 := hide (B5.out.alloc B5.out.size (.cells #[.bool p, .bool d, .bool l, .bool c0, .bool i, .bool r, .bool x] 62))
  rw [← hz] at KN6 ⊢
  generalize w5.alloc (.cells #[.bool p, .bool d, .bool l, .bool c0, .bool i, .bool r, .bool x] 62) = w6 at Kg6 Ky6 EP6 B6 KN6 ⊢
  clear hz Kg5 Ky5 EP5 B5
  obtain ⟨c0_, c1_, c2_, c3_, c4_, c5_, c6_⟩ := sh_cells KN6.out
  go_wp2_with (refine wpList_load_blk rfl 28 (.tmp 1) rfl g rfl 28 cs _ Kg6.out Try.underlying28 rfl HZ.out ?_)
  clear c0_ c1_ c2_ c3_ c4_ c5_ c6_
  refine (HSz.out _).mono ?_
  rintro e w7 ⟨rfl, hb7⟩
  have Kg7 := hide (Kg6.out.keep hb7)
  have Ky7 := hide (Ky6.out.keep hb7)
  have Kz7 := hide (KN6.out.keep hb7)
  have EP7 := hide (EP6.out.keep hb7)
  have B7 := hide (B6.out.trans (hb7.mono B6.out.size))
  clear hb7 Kg6 Ky6 KN6 EP6 B6
  have k0 := Ky7.out.cell 0
  simp only [List.getElem?_toArray, List.getElem?_cons_zero] at k0
  have kz := Ky7.out.frozen 0
  go_upto_region 7 with (fail)
  clear k0 kz
  have EPf := hide (EP7.out.far (p := ⟨y, 0, none⟩) (t := 34) (cs := #[.int .i64 0, .int .u8 F.ty, .int .u8 F.fl, .int .i64 F.st]) Ky7.out (by intro i x; match i with | 0 | 1 | 2 | 3 => simp | k + 4 => simp) (.int .i64 (X : Int)))
  clear EP7
  have Kg8 := hide (Kg7.out.far (p := ⟨y, 0, none⟩) Ngy.out (.int .i64 (X : Int)))
  have Ky8 := hide (show BlkIs (w7.setCell ⟨y, 0, none⟩ (.int .i64 (X : Int))) y _ #[.int .i64 (X : Int), .int .u8 F.ty, .int .u8 F.fl, .int .i64 F.st] from Ky7.out.put 0 (.int .i64 (X : Int)))
  have Kz8 := hide (Kz7.out.far (p := ⟨y, 0, none⟩) (Ne.symm Nyz.out) (.int .i64 (X : Int)))
  have B8 := hide (B7.out.setCell (p := ⟨y, 0, none⟩) Ly.out (.int .i64 (X : Int)))
  generalize w7.setCell ⟨y, 0, none⟩ (.int .i64 (X : Int)) = w8 at Kg8 Ky8 Kz8 B8 EPf ⊢
  clear Kg7 Ky7 Kz7 B7
  obtain ⟨k0, k1, k2, k3⟩ := hd_cells Ky8.out
  go_wp2_with fail
  clear k0 k1 k2 k3
  have L8g := hide (show g < w8.heap.size from Kg8.out.lt)
  have L8y := hide (show y < w8.heap.size from Ky8.out.lt)
  have L8z := hide (show z < w8.heap.size from Kz8.out.lt)
  have LP8 := hide (EPf.out.lts (B := w8.heap.size) (Nat.le_refl _))
  have LB8 := hide (B8.out.size)
  obtain ⟨B, hB8⟩ : ∃ B, B = w8.heap.size := ⟨_, rfl⟩
  rw [← hB8] at L8g L8y L8z LP8 LB8
  refine (HPut.out _).mono ?_
  rintro e w9 ⟨hq, rfl, hbk, hbB, hb9⟩
  have Kg9 := hide (Kg8.out.keep hb9)
  have Ky9 := hide (Ky8.out.keep hb9)
  have Kz9 := hide (Kz8.out.keep hb9)
  have EP9 := hide (EPf.out.keep hb9)
  have B9 := hide (B8.out.trans (hb9.mono B8.out.size))
  clear hb9 Kg8 Ky8 Kz8 EPf B8
  rw [← hB8] at hbB
  have HQK := hide hbk
  have HBB := hide hbB
  have HB9 := hide (show B ≤ w9.heap.size by have := hbk.lt; omega)
  clear hbk hbB hB8
  go_wp2_with fail
  refine wp_region_noPanic ?_
  refine wp_region_held_drew (S := fun w' => BlkIs w' g 28 cs ∧ BlkIs w' y 34 #[.int .i64 (X : Int), .int .u8 F.ty, .int .u8 F.fl, .int .i64 F.st] ∧ BlkIs w' z 62 #[.bool p, .bool d, .bool l, .bool c0, .bool i, .bool r, .bool x]) (by kernel_rfl) ⟨Kg9.out.drew, Ky9.out.drew, Kz9.out.drew⟩ (fun hS => ?_)
  refine wpAnyH_take (i := 0) (v := ?_) (by simp only [List.getElem?_toArray, List.getElem?_cons_zero] <;> exact rfl) (by kernel_rfl) (by kernel_rfl) (by kernel_rfl) (fun _ _ _ h => h) (Or.inl ⟨by rfl, ?_⟩) hS ?_
  rotate_left
  focus (intro w' hw'; go_simp; all_goals with_reducible rfl)
  try simp only [Act.put, List.setIfInBounds_toArray, List.set_cons_zero, List.set_cons_succ]
  refine wpAnyH_take (i := 1) (v := ?_) (by simp only [List.getElem?_toArray, List.getElem?_cons_succ, List.getElem?_cons_zero] <;> exact rfl) (by kernel_rfl) (by kernel_rfl) (by kernel_rfl) (fun _ _ _ h => h) (Or.inl ⟨by rfl, ?_⟩) hS ?_
  rotate_left
  focus (intro w' hw'; go_simp; all_goals with_reducible rfl)
  try simp only [Act.put, List.setIfInBounds_toArray, List.set_cons_zero, List.set_cons_succ]
  refine wpAnyH_take (i := 2) (v := ?_) (by simp only [List.getElem?_toArray, List.getElem?_cons_succ, List.getElem?_cons_zero] <;> exact rfl) (by kernel_rfl) (by kernel_rfl) (by kernel_rfl) (fun _ _ _ h => h) (Or.inl ⟨by rfl, ?_⟩) hS ?_
  rotate_left
  focus (intro w' hw'; have kk := hw'.2.1.cell 0; simp only [List.getElem?_toArray, List.getElem?_cons_zero, List.getElem?_cons_succ] at kk; go_simp; all_goals with_reducible rfl)
  try simp only [Act.put, List.setIfInBounds_toArray, List.set_cons_zero, List.set_cons_succ]
  refine wpAnyH_take (i := 4) (by simp only [List.getElem?_toArray, List.getElem?_cons_succ, List.getElem?_cons_zero] <;> exact rfl) (by kernel_rfl) (by kernel_rfl) (by kernel_rfl) (fun _ _ _ h => h) (yields_blk (by rfl) 28 (.tmp 1) (by rfl) g (by rfl) 28 cs _ (fun w' hw' => hw'.1) Try.underlying28 rfl HZ.out) hS ?_
  try simp only [Act.put, List.setIfInBounds_toArray, List.set_cons_zero, List.set_cons_succ]
  refine wpAnyH_take (i := 5) (by simp only [List.getElem?_toArray, List.getElem?_cons_succ, List.getElem?_cons_zero] <;> exact rfl) (by kernel_rfl) (by kernel_rfl) (by kernel_rfl) (fun _ _ _ h => h) (yields_blk (by rfl) 62 (.tmp 6) (by rfl) z (by rfl) 62 #[.bool p, .bool d, .bool l, .bool c0, .bool i, .bool r, .bool x] _ (fun w' hw' => hw'.2.2) Try.underlying62 rfl sh_size) hS ?_
  try simp only [Act.put, List.setIfInBounds_toArray, List.set_cons_zero, List.set_cons_succ]
  refine wpAnyH_ready (rs := [3]) (by kernel_rfl) (by simp) ?_
  refine AllReadyH.cons (o := _) (by simp only [List.getElem?_toArray, List.getElem?_cons_succ, List.getElem?_cons_zero] <;> exact rfl) (fun K hK => ?_) ?_
  focus (
    go_simp
    go_at_call 39
    refine (sl_Grow9 hq (hdB (X : Int) F.ty F.fl F.st) rfl X HXL.out B HBB.out w9.drew HB9.out HQK.out.drew).mono ?_
    rintro e wc1 ⟨v1, rfl, ho1, hg1⟩
    have hS := And.intro (hS.1.grown hg1 (by have := L8g.out; have := HBB.out; simp [Value.ownBlock]; omega)) (And.intro (hS.2.1.grown hg1 (by have := L8y.out; have := HBB.out; simp [Value.ownBlock]; omega)) (hS.2.2.grown hg1 (by have := L8z.out; have := HBB.out; simp [Value.ownBlock]; omega)))
    have BC1 := hide ((Below.refl B w9.drew).grown hg1 HB9.out (fun k hk => by simp [Value.ownBlock] at hk; have := HBB.out; omega))
    have PC1 := hide (EP9.out.drew.keepB BC1.out LP8.out)
    have O1 := hide ho1
    clear ho1 hg1
    go_wp2_with fail
    refine hK.out _ _ hS (fun _ => ?_)
    clear hK K
    try simp only [Act.put, List.setIfInBounds_toArray, List.set_cons_zero, List.set_cons_succ])
  rotate_left
  focus (exact AllReadyH.nil)
  refine wpAnyH_ready (rs := [6]) (by kernel_rfl) (by simp) ?_
  refine AllReadyH.cons (o := _) (by simp only [List.getElem?_toArray, List.getElem?_cons_succ, List.getElem?_cons_zero] <;> exact rfl) (fun K hK => ?_) ?_
  focus (
    go_simp
    go_at_call 38
    refine (HLay.out B v1 wc1 (Nat.le_trans HB9.out BC1.out.size) O1.out PC1.out LP8.out).mono ?_
    rintro e wc2 ⟨v2, rfl, ho2, hb2⟩
    have hS := And.intro (hS.1.below hb2 L8g.out) (And.intro (hS.2.1.below hb2 L8y.out) (hS.2.2.below hb2 L8z.out))
    have O2 := hide ho2
    have BC2 := hide hb2
    clear ho2 hb2
    go_wp2_with fail
    refine hK.out _ _ hS (fun _ => ?_)
    clear hK K
    try simp only [Act.put, List.setIfInBounds_toArray, List.set_cons_zero, List.set_cons_succ])
  rotate_left
  focus (exact AllReadyH.nil)
  refine wpAnyH_take (i := 7) (v := ?_) (by simp only [List.getElem?_toArray, List.getElem?_cons_succ, List.getElem?_cons_zero] <;> exact rfl) (by kernel_rfl) (by kernel_rfl) (by kernel_rfl) (fun _ _ _ h => h) (Or.inl ⟨by rfl, ?_⟩) hS ?_
  rotate_left
  focus (intro w' hw'; go_simp; all_goals with_reducible rfl)
  try simp only [Act.put, List.setIfInBounds_toArray, List.set_cons_zero, List.set_cons_succ]
  refine wpAnyH_take (i := 8) (v := ?_) (by simp only [List.getElem?_toArray, List.getElem?_cons_succ, List.getElem?_cons_zero] <;> exact rfl) (by kernel_rfl) (by kernel_rfl) (by kernel_rfl) (fun _ _ _ h => h) (Or.inl ⟨by rfl, ?_⟩) hS ?_
  rotate_left
  focus (intro w' hw'; go_simp; all_goals with_reducible rfl)
  try simp only [Act.put, List.setIfInBounds_toArray, List.set_cons_zero, List.set_cons_succ]
  refine wpAnyH_done (by kernel_rfl) ?_ _
  refine NoPanic.normal ?_
  have BF := hide (B9.out.drew.trans ((BC1.out.trans BC2.out).mono LB8.out))
  clear hS
  go_wp2
  go_ret2
  exact ⟨_, rfl, own_base O2.out LB8.out, BF.out⟩

theorem fr_Put_no (F : Fr) (A : Option Addr) (n c : Nat) (t0 : 0 ≤ F.ty) (hchk : F.chk n ≠ 0) (hn : (n : Int) ≤ 150000000000000) (hs : (F.data.size : Int) ≤ 150000000000000) (w : World) :
    Calls Try.prog 14 #[.agg (F.cs A n c)] w (GivesPut w.heap.size [] (F.chk n) w) := by
  have HC := hide (fun w => fr_Check F A n c t0 hn hs w)
  have HZ := hide (show (Try.prog.info? 28).map (·.size) = some (F.cs A n c).size from fr_sz)
  have hcc : (F.chk n != 0) = true := by simp [hchk]
  generalize F.cs A n c = cs at *
  clear hchk
  go_enter Try.func14, Try.ntmps14
  go_upto_region 1 with (fail)
  have B0 := hide (Below.refl w.heap.size w)
  have KN1 := hide (BlkIs.new w 28 cs)
  obtain ⟨g, hg⟩ : ∃ g, g = w.heap.size := ⟨_, rfl⟩
  have Lg := hide (show w.heap.size ≤ g by rw [hg]; exact B0.out.size)
  have B1 := hide (B0.out.alloc B0.out.size (.cells cs 28))
  rw [← hg] at KN1 ⊢
  generalize w.alloc (.cells cs 28) = w1 at B1 KN1 ⊢
  clear hg B0
  go_wp2_with (refine wpList_load_blk rfl 28 (.tmp 1) rfl g rfl 28 cs _ KN1.out Try.underlying28 rfl HZ.out ?_)
  refine (HC.out _).mono ?_
  rintro e w2 ⟨rfl, hb2⟩
  have Kg2 := hide (KN1.out.keep hb2)
  have B2 := hide (B1.out.trans (hb2.mono B1.out.size))
  clear hb2 KN1 B1
  go_wp2
  go_ret2
  exact ⟨_, rfl, World.ownsRow_nil _ _ _ _, B2.out⟩

theorem fr_Put (F : Fr) (A : Option Addr) (n c : Nat) (lp : List Pr) (t0 : 0 ≤ F.ty) (hc0 : 0 ≤ F.code) (hc1 : F.code ≤ 4294967295) (hw0 : 0 ≤ F.wt) (hw1 : F.wt ≤ 255) (hp : AllP lp)
    (hn : (n : Int) ≤ 150000000000000) (hs : (F.data.size : Int) ≤ 150000000000000) (w : World) (hpl : PL w A n c lp) :
    Calls Try.prog 14 #[.agg (F.cs A n c)] w (GivesPut w.heap.size (F.put lp) (F.chk n) w) := by
  have hl := hpl.len
  by_cases h : F.chk n = 0
  · rw [Fr.put, hl, if_pos h, h]
    exact fr_Put_yes F A n c lp t0 hc0 hc1 hw0 hw1 hp h hn hs w hpl
  · rw [Fr.put, hl, if_neg h]
    exact fr_Put_no F A n c t0 h hn hs w
end Go.Proofs.Ytefdhbljcnpggaa
