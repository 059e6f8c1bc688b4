/-
  Layer 9: FrameLongs: the walk.
-/
import Derived.Test.YtefdhbljcnpggaaFrLongs0
import Derived.BigGuardPart
namespace Go.Proofs.Ytefdhbljcnpggaa.frameLongs
open Go.RowKit Go.Proofs.Ytefdhbljcnpggaa

set_option maxRecDepth 100000 in
set_option maxHeartbeats 3200000 in
theorem walk_a (n0 p n2 : Int) (a0 : 0 ≤ n0) (a1 : n0 ≤ 65535) (b0 : 0 ≤ n2) (b1 : n2 ≤ 255)  (hl :  16384 < n0 % 17001 + 0) (w : World) :
    Calls Try.prog 5 #[.int .u16 n0, .int .u8 0, .int .u8 n2] w fun e w' => e = .returned (.bool true) ∧ Below w.heap.size w w' := by
  obtain ⟨i0, hi0, hz0, hz1, hz2⟩ := info_parts u8_info
  have hk : n2 % 2 = 0 ∨ n2 % 2 = 1 := by omega
  obtain ⟨N, hN⟩ : ∃ N : Nat, n0 % 17001 = (N : Int) := ⟨(n0 % 17001).toNat, by omega⟩
  have hN1 : (N : Int) ≤ 17000 := by omega
  have hmk := run_make (P := Try.prog) w 44 5 i0 (.int .u8 0) Try.underlying44 hi0 hz0 .i64 .i64 (N : Int) (N : Int) (by omega) (by omega) (by rw [hz2]; omega) (by omega)
  rw [hz1, show ((N : Int).toNat * 1) = N by omega, made_zs, show (N : Int).toNat = N by omega] at hmk
  obtain ⟨Z, hZ⟩ : ∃ Z, Z = strOfNums (zs N) := ⟨_, rfl⟩
  have hzl : Z.size = N := by rw [hZ, strOfNums_size]; simp [zs]
  have s1 := rb_string N (blk_rb (BlkIs.new w 5 (u8s (zs N)).toArray) (n := N) (by simp [zs]) (zs_all N))
  rw [← hZ] at s1
  have hF := lg_facts (n2 % 2) 0 0 Z hk (Or.inl ⟨rfl, rfl⟩)
  rw [hzl, show lgM 0 = 0 by rfl] at hF
  obtain ⟨hsz, hck, hln⟩ := hF
  have hlong :  16384 < (N : Int) + 0 := by omega
  rw [if_pos hlong] at hck
  have HF : (lgF (n2 % 2) 0 Z 0).cs none 0 0 = #[.int .u8 (n2 % 2), .int .u8 0, .int .i64 1, .string Z, .int .i64 0, .int .i64 0, .bool false, .int .u8 0, .int .u32 0, .int .i64 0, .int .i64 0, .slice none 0 0] := rfl
  have k0 : 0 ≤ n2 % 2 := by omega
  have HZS := hide (show (Z.size : Int) ≤ 2000000 by omega)
  have HPut := hide (fun w => fr_Put (lgF (n2 % 2) 0 Z 0) none 0 0 [] k0 (by show (0 : Int) ≤ 0; decide) (by show (0 : Int) ≤ 4294967295; decide) (by show (0 : Int) ≤ 0; decide) (by show (0 : Int) ≤ 255; decide) allP_nil (by decide) HZS.out w (PL.none_ _))
  rw [hck] at HPut
  have HLen := hide (fun w => fr_Length (lgF (n2 % 2) 0 Z 0) none 0 0 k0 (by decide) HZS.out w)
  rw [show (lgF (n2 % 2) 0 Z 0).len 0 = 0 by rw [Fr.len, hck, hsz]; rfl] at HLen
  rw [show (lgF (n2 % 2) 0 Z 0).put [] = [] by rw [Fr.put, List.length_nil, hck]; rfl] at HPut
  have HCS := hide HF
  have e17 : (n0 % 17001) = (N : Int) := hN
  have HZL := hide hzl
  have hzi : (Z.size : Int) = (N : Int) := by omega
  clear hln hck hsz hN hZ HF hzl
  go_enter Try.func5, Try.ntmps5
  go_wp2_with fail
  have KG := hide (show BlkIs ((w.alloc (.cells (u8s (zs N)).toArray 5)).alloc (.cells ((lgF (n2 % 2) 0 Z 0).cs none 0 0) 28)) (w.heap.size + 1) 28 ((lgF (n2 % 2) 0 Z 0).cs none 0 0) from blk_two)
  have B0 := hide (show Below w.heap.size w ((w.alloc (.cells (u8s (zs N)).toArray 5)).alloc (.cells ((lgF (n2 % 2) 0 Z 0).cs none 0 0) 28)) from below_two)
  rw [HCS.out] at KG B0
  obtain ⟨g, hg⟩ : ∃ g, g = w.heap.size + 1 := ⟨_, rfl⟩
  rw [← hg] at KG ⊢
  generalize hw0 : (w.alloc (.cells (u8s (zs N)).toArray 5)).alloc (.cells #[.int .u8 (n2 % 2), .int .u8 0, .int .i64 1, .string Z, .int .i64 0, .int .i64 0, .bool false, .int .u8 0, .int .u32 0, .int .i64 0, .int .i64 0, .slice none 0 0] 28) = w0 at KG B0 ⊢
  have KG1 := hide (show BlkIs w0 g 28 ((lgF (n2 % 2) 0 Z 0).cs none 0 0) from KG.out)
  clear hw0 hg KG s1 hmk
  refine (HPut.out _).mono ?_
  rintro e w1 ⟨v2, rfl, ho2, hb1⟩
  have Kg1 := hide (KG1.out.keep hb1)
  have B1 := hide (B0.out.trans (hb1.mono B0.out.size))
  clear hb1 KG1 B0
  obtain ⟨A2, c2, rfl⟩ := own_form ho2
  have g3 := (Kg1.out.cell 3).trans (show ((lgF (n2 % 2) 0 Z 0).cs none 0 0)[3]? = some (.string Z) from rfl)
  rw [show ([] : List Int).length = 0 from rfl]
  clear ho2
  go_wp2_with (refine wpList_load_want (by rfl) 28  (.tmp 7) rfl g rfl 28 ((lgF (n2 % 2) 0 Z 0).cs none 0 0) _ Kg1.out Try.underlying28 rfl fr_sz ?_)
  clear g3
  refine (HLen.out _).mono ?_
  rintro e w2 ⟨rfl, hb2⟩
  have Kg2 := hide (Kg1.out.keep hb2)
  have B2 := hide (B1.out.trans (hb2.mono B1.out.size))
  clear hb2 Kg1 B1
  go_wp2_with fail
  refine (aw_frame _).mono ?_
  rintro e w3 ⟨rfl, hb3⟩
  have Kg3 := hide (Kg2.out.keep hb3)
  have B3 := hide (B2.out.trans (hb3.mono B2.out.size))
  clear hb3 Kg2 B2
  go_wp2_with fail
  go_ret
  exact ⟨rfl, B3.out⟩

set_option maxRecDepth 100000 in
set_option maxHeartbeats 3200000 in
theorem walk_b (n0 p n2 : Int) (a0 : 0 ≤ n0) (a1 : n0 ≤ 65535) (b0 : 0 ≤ n2) (b1 : n2 ≤ 255)  (hl : ¬ 16384 < n0 % 17001 + 0) (w : World) :
    Calls Try.prog 5 #[.int .u16 n0, .int .u8 0, .int .u8 n2] w fun e w' => e = .returned (.bool true) ∧ Below w.heap.size w w' := by
  obtain ⟨i0, hi0, hz0, hz1, hz2⟩ := info_parts u8_info
  have hk : n2 % 2 = 0 ∨ n2 % 2 = 1 := by omega
  obtain ⟨N, hN⟩ : ∃ N : Nat, n0 % 17001 = (N : Int) := ⟨(n0 % 17001).toNat, by omega⟩
  have hN1 : (N : Int) ≤ 17000 := by omega
  have hmk := run_make (P := Try.prog) w 44 5 i0 (.int .u8 0) Try.underlying44 hi0 hz0 .i64 .i64 (N : Int) (N : Int) (by omega) (by omega) (by rw [hz2]; omega) (by omega)
  rw [hz1, show ((N : Int).toNat * 1) = N by omega, made_zs, show (N : Int).toNat = N by omega] at hmk
  obtain ⟨Z, hZ⟩ : ∃ Z, Z = strOfNums (zs N) := ⟨_, rfl⟩
  have hzl : Z.size = N := by rw [hZ, strOfNums_size]; simp [zs]
  have s1 := rb_string N (blk_rb (BlkIs.new w 5 (u8s (zs N)).toArray) (n := N) (by simp [zs]) (zs_all N))
  rw [← hZ] at s1
  have hF := lg_facts (n2 % 2) 0 0 Z hk (Or.inl ⟨rfl, rfl⟩)
  rw [hzl, show lgM 0 = 0 by rfl] at hF
  obtain ⟨hsz, hck, hln⟩ := hF
  have hlong : ¬ 16384 < (N : Int) + 0 := by omega
  rw [if_neg hlong] at hck
  have HF : (lgF (n2 % 2) 0 Z 0).cs none 0 0 = #[.int .u8 (n2 % 2), .int .u8 0, .int .i64 1, .string Z, .int .i64 0, .int .i64 0, .bool false, .int .u8 0, .int .u32 0, .int .i64 0, .int .i64 0, .slice none 0 0] := rfl
  have k0 : 0 ≤ n2 % 2 := by omega
  have HZS := hide (show (Z.size : Int) ≤ 2000000 by omega)
  have HPut := hide (fun w => fr_Put (lgF (n2 % 2) 0 Z 0) none 0 0 [] k0 (by show (0 : Int) ≤ 0; decide) (by show (0 : Int) ≤ 4294967295; decide) (by show (0 : Int) ≤ 0; decide) (by show (0 : Int) ≤ 255; decide) allP_nil (by decide) HZS.out w (PL.none_ _))
  rw [hck] at HPut
  have HLen := hide (fun w => fr_Length (lgF (n2 % 2) 0 Z 0) none 0 0 k0 (by decide) HZS.out w)
  rw [show (lgF (n2 % 2) 0 Z 0).len 0 = (N : Int) + 0 by rw [Fr.len, hck, hsz]; rfl] at HLen
  obtain ⟨R, hR⟩ : ∃ R, R = (lgF (n2 % 2) 0 Z 0).put [] := ⟨_, rfl⟩
  have hRl : (R.length : Int) = 9 + (N : Int) + 0 := by rw [hR, Fr.put, List.length_nil, hck, if_pos rfl]; exact hln
  rw [← hR] at HPut
  obtain ⟨L, hL⟩ : ∃ L, L = R.length := ⟨_, rfl⟩
  rw [← hL] at hRl
  have HLL := hide hL.symm
  clear hR hL
  have HCS := hide HF
  have e17 : (n0 % 17001) = (N : Int) := hN
  have HZL := hide hzl
  have hzi : (Z.size : Int) = (N : Int) := by omega
  clear hln hck hsz hN hZ HF hzl
  go_enter Try.func5, Try.ntmps5
  go_wp2_with fail
  have KG := hide (show BlkIs ((w.alloc (.cells (u8s (zs N)).toArray 5)).alloc (.cells ((lgF (n2 % 2) 0 Z 0).cs none 0 0) 28)) (w.heap.size + 1) 28 ((lgF (n2 % 2) 0 Z 0).cs none 0 0) from blk_two)
  have B0 := hide (show Below w.heap.size w ((w.alloc (.cells (u8s (zs N)).toArray 5)).alloc (.cells ((lgF (n2 % 2) 0 Z 0).cs none 0 0) 28)) from below_two)
  rw [HCS.out] at KG B0
  obtain ⟨g, hg⟩ : ∃ g, g = w.heap.size + 1 := ⟨_, rfl⟩
  rw [← hg] at KG ⊢
  generalize hw0 : (w.alloc (.cells (u8s (zs N)).toArray 5)).alloc (.cells #[.int .u8 (n2 % 2), .int .u8 0, .int .i64 1, .string Z, .int .i64 0, .int .i64 0, .bool false, .int .u8 0, .int .u32 0, .int .i64 0, .int .i64 0, .slice none 0 0] 28) = w0 at KG B0 ⊢
  have KG1 := hide (show BlkIs w0 g 28 ((lgF (n2 % 2) 0 Z 0).cs none 0 0) from KG.out)
  clear hw0 hg KG s1 hmk
  refine (HPut.out _).mono ?_
  rintro e w1 ⟨v2, rfl, ho2, hb1⟩
  have Kg1 := hide (KG1.out.keep hb1)
  have B1 := hide (B0.out.trans (hb1.mono B0.out.size))
  clear hb1 KG1 B0
  obtain ⟨A2, c2, rfl⟩ := own_form ho2
  have g3 := (Kg1.out.cell 3).trans (show ((lgF (n2 % 2) 0 Z 0).cs none 0 0)[3]? = some (.string Z) from rfl)
  rw [HLL.out]
  clear ho2
  go_wp2_with fail
  have e1 : IntKind.i64.wrap (9 + (N : Int)) = 9 + (N : Int) := IntWalk.i64_in _ (by omega)
  have e3 : IntKind.i64.wrap (N : Int) = (N : Int) := IntWalk.i64_in _ (by omega)
  have hRl2 : (L : Int) = 9 + (N : Int) := by omega
  clear hRl
  clear g3
  refine wp_region_noPanic ?_
  refine wp_region_held_drew (S := fun w' => Below w1.heap.size w1 w') (by kernel_rfl) (Below.refl _ _).drew (fun hS => ?_)
  refine wpAnyH_take (i := 0) (v := ?_) (by simp only [List.getElem?_toArray, List.getElem?_cons_zero] <;> exact rfl) (by kernel_rfl) (by kernel_rfl) (by kernel_rfl) (fun _ _ _ h => h) (Or.inl ⟨by rfl, ?_⟩) hS ?_
  rotate_left
  focus (intro w' hw'; go_simp; all_goals with_reducible rfl)
  try simp only [Act.put, List.setIfInBounds_toArray, List.set_cons_zero, List.set_cons_succ]
  refine wpAnyH_take (i := 1) (v := ?_) (by simp only [List.getElem?_toArray, List.getElem?_cons_succ, List.getElem?_cons_zero] <;> exact rfl) (by kernel_rfl) (by kernel_rfl) (by kernel_rfl) (fun _ _ _ h => h) (Or.inl ⟨by rfl, ?_⟩) hS ?_
  rotate_left
  focus (intro w' hw'; go_simp; all_goals with_reducible rfl)
  try simp only [Act.put, List.setIfInBounds_toArray, List.set_cons_zero, List.set_cons_succ]
  refine wpAnyH_take (i := 2) (v := ?_) (by simp only [List.getElem?_toArray, List.getElem?_cons_succ, List.getElem?_cons_zero] <;> exact rfl) (by kernel_rfl) (by kernel_rfl) (by kernel_rfl) (fun _ _ _ h => h) (Or.inl ⟨by rfl, ?_⟩) hS ?_
  rotate_left
  focus (intro w' hw'; go_simp; all_goals with_reducible rfl)
  try simp only [Act.put, List.setIfInBounds_toArray, List.set_cons_zero, List.set_cons_succ]
  refine wpAnyH_take (i := 3) (v := ?_) (by simp only [List.getElem?_toArray, List.getElem?_cons_succ, List.getElem?_cons_zero] <;> exact rfl) (by kernel_rfl) (by kernel_rfl) (by kernel_rfl) (fun _ _ _ h => h) (Or.inl ⟨by rfl, ?_⟩) hS ?_
  rotate_left
  focus (intro w' hw'; go_simp; all_goals with_reducible rfl)
  try simp only [Act.put, List.setIfInBounds_toArray, List.set_cons_zero, List.set_cons_succ]
  refine wpAnyH_take (i := 4) (v := ?_) (by simp only [List.getElem?_toArray, List.getElem?_cons_succ, List.getElem?_cons_zero] <;> exact rfl) (by kernel_rfl) (by kernel_rfl) (by kernel_rfl) (fun _ _ _ h => h) (Or.inl ⟨by rfl, ?_⟩) hS ?_
  rotate_left
  focus (intro w' hw'; go_simp; all_goals with_reducible rfl)
  try simp only [Act.put, List.setIfInBounds_toArray, List.set_cons_zero, List.set_cons_succ]
  refine wpAnyH_take (i := 5) (v := ?_) (by simp only [List.getElem?_toArray, List.getElem?_cons_succ, List.getElem?_cons_zero] <;> exact rfl) (by kernel_rfl) (by kernel_rfl) (by kernel_rfl) (fun _ _ _ h => h) (Or.inl ⟨by rfl, ?_⟩) hS ?_
  rotate_left
  focus (intro w' hw'; go_simp; all_goals with_reducible rfl)
  try simp only [Act.put, List.setIfInBounds_toArray, List.set_cons_zero, List.set_cons_succ]
  refine wpAnyH_take (i := 6) (v := ?_) (by simp only [List.getElem?_toArray, List.getElem?_cons_succ, List.getElem?_cons_zero] <;> exact rfl) (by kernel_rfl) (by kernel_rfl) (by kernel_rfl) (fun _ _ _ h => h) (Or.inl ⟨by rfl, ?_⟩) hS ?_
  rotate_left
  focus (intro w' hw'; have kk := (Kg1.out.keep hw').cell 3; rw [show ((lgF (n2 % 2) 0 Z 0).cs none 0 0)[3]? = some (.string Z) from rfl] at kk; go_simp; all_goals with_reducible rfl)
  try simp only [Act.put, List.setIfInBounds_toArray, List.set_cons_zero, List.set_cons_succ]
  refine wpAnyH_take (i := 7) (v := ?_) (by simp only [List.getElem?_toArray, List.getElem?_cons_succ, List.getElem?_cons_zero] <;> exact rfl) (by kernel_rfl) (by kernel_rfl) (by kernel_rfl) (fun _ _ _ h => h) (Or.inl ⟨by rfl, ?_⟩) hS ?_
  rotate_left
  focus (intro w' hw'; go_simp; all_goals with_reducible rfl)
  try simp only [Act.put, List.setIfInBounds_toArray, List.set_cons_zero, List.set_cons_succ]
  refine wpAnyH_take (i := 8) (v := ?_) (by simp only [List.getElem?_toArray, List.getElem?_cons_succ, List.getElem?_cons_zero] <;> exact rfl) (by kernel_rfl) (by kernel_rfl) (by kernel_rfl) (fun _ _ _ h => h) (Or.inl ⟨by rfl, ?_⟩) hS ?_
  rotate_left
  focus (intro w' hw'; go_simp; all_goals with_reducible rfl)
  try simp only [Act.put, List.setIfInBounds_toArray, List.set_cons_zero, List.set_cons_succ]
  refine wpAnyH_take (i := 9) (v := ?_) (by simp only [List.getElem?_toArray, List.getElem?_cons_succ, List.getElem?_cons_zero] <;> exact rfl) (by kernel_rfl) (by kernel_rfl) (by kernel_rfl) (fun _ _ _ h => h) (Or.inl ⟨by rfl, ?_⟩) hS ?_
  rotate_left
  focus (intro w' hw'; go_simp; all_goals with_reducible rfl)
  try simp only [Act.put, List.setIfInBounds_toArray, List.set_cons_zero, List.set_cons_succ]
  refine wpAnyH_take (i := 10) (v := ?_) (by simp only [List.getElem?_toArray, List.getElem?_cons_succ, List.getElem?_cons_zero] <;> exact rfl) (by kernel_rfl) (by kernel_rfl) (by kernel_rfl) (fun _ _ _ h => h) (Or.inl ⟨by rfl, ?_⟩) hS ?_
  rotate_left
  focus (intro w' hw'; go_simp; all_goals with_reducible rfl)
  try simp only [Act.put, List.setIfInBounds_toArray, List.set_cons_zero, List.set_cons_succ]
  refine wpAnyH_take (i := 11) (v := ?_) (by simp only [List.getElem?_toArray, List.getElem?_cons_succ, List.getElem?_cons_zero] <;> exact rfl) (by kernel_rfl) (by kernel_rfl) (by kernel_rfl) (fun _ _ _ h => h) (Or.inl ⟨by rfl, ?_⟩) hS ?_
  rotate_left
  focus (intro w' hw'; go_simp; all_goals with_reducible rfl)
  try simp only [Act.put, List.setIfInBounds_toArray, List.set_cons_zero, List.set_cons_succ]
  refine wpAnyH_take (i := 12) (v := ?_) (by simp only [List.getElem?_toArray, List.getElem?_cons_succ, List.getElem?_cons_zero] <;> exact rfl) (by kernel_rfl) (by kernel_rfl) (by kernel_rfl) (fun _ _ _ h => h) (Or.inl ⟨by rfl, ?_⟩) hS ?_
  rotate_left
  focus (intro w' hw'; go_simp; all_goals with_reducible rfl)
  try simp only [Act.put, List.setIfInBounds_toArray, List.set_cons_zero, List.set_cons_succ]
  refine wpAnyH_take (i := 13) (v := ?_) (by simp only [List.getElem?_toArray, List.getElem?_cons_succ, List.getElem?_cons_zero] <;> exact rfl) (by kernel_rfl) (by kernel_rfl) (by kernel_rfl) (fun _ _ _ h => h) (Or.inl ⟨by rfl, ?_⟩) hS ?_
  rotate_left
  focus (intro w' hw'; go_simp; all_goals with_reducible rfl)
  try simp only [Act.put, List.setIfInBounds_toArray, List.set_cons_zero, List.set_cons_succ]
  refine wpAnyH_take (i := 14) (by simp only [List.getElem?_toArray, List.getElem?_cons_succ, List.getElem?_cons_zero] <;> exact rfl) (by kernel_rfl) (by kernel_rfl) (by kernel_rfl) (fun _ _ _ h => h) (yields_blk (by rfl) 28 (.tmp 7) (by rfl) g (by rfl) 28 ((lgF (n2 % 2) 0 Z 0).cs none 0 0) _ (fun w' hw' => Kg1.out.keep hw') Try.underlying28 rfl fr_sz) hS ?_
  try simp only [Act.put, List.setIfInBounds_toArray, List.set_cons_zero, List.set_cons_succ]
  refine wpAnyH_take (i := 16) (v := ?_) (by simp only [List.getElem?_toArray, List.getElem?_cons_succ, List.getElem?_cons_zero] <;> exact rfl) (by kernel_rfl) (by kernel_rfl) (by kernel_rfl) (fun _ _ _ h => h) (Or.inl ⟨by rfl, ?_⟩) hS ?_
  rotate_left
  focus (intro w' hw'; go_simp; all_goals with_reducible rfl)
  try simp only [Act.put, List.setIfInBounds_toArray, List.set_cons_zero, List.set_cons_succ]
  refine wpAnyH_take (i := 17) (v := ?_) (by simp only [List.getElem?_toArray, List.getElem?_cons_succ, List.getElem?_cons_zero] <;> exact rfl) (by kernel_rfl) (by kernel_rfl) (by kernel_rfl) (fun _ _ _ h => h) (Or.inl ⟨by rfl, ?_⟩) hS ?_
  rotate_left
  focus (intro w' hw'; have kk := (Kg1.out.keep hw').cell 3; rw [show ((lgF (n2 % 2) 0 Z 0).cs none 0 0)[3]? = some (.string Z) from rfl] at kk; go_simp; all_goals with_reducible rfl)
  try simp only [Act.put, List.setIfInBounds_toArray, List.set_cons_zero, List.set_cons_succ]
  refine wpAnyH_take (i := 18) (v := ?_) (by simp only [List.getElem?_toArray, List.getElem?_cons_succ, List.getElem?_cons_zero] <;> exact rfl) (by kernel_rfl) (by kernel_rfl) (by kernel_rfl) (fun _ _ _ h => h) (Or.inl ⟨by rfl, ?_⟩) hS ?_
  rotate_left
  focus (intro w' hw'; go_simp; all_goals with_reducible rfl)
  try simp only [Act.put, List.setIfInBounds_toArray, List.set_cons_zero, List.set_cons_succ]
  refine wpAnyH_take (i := 19) (v := ?_) (by simp only [List.getElem?_toArray, List.getElem?_cons_succ, List.getElem?_cons_zero] <;> exact rfl) (by kernel_rfl) (by kernel_rfl) (by kernel_rfl) (fun _ _ _ h => h) (Or.inl ⟨by rfl, ?_⟩) hS ?_
  rotate_left
  focus (intro w' hw'; go_simp; all_goals with_reducible rfl)
  try simp only [Act.put, List.setIfInBounds_toArray, List.set_cons_zero, List.set_cons_succ]
  refine wpAnyH_take (i := 20) (v := ?_) (by simp only [List.getElem?_toArray, List.getElem?_cons_succ, List.getElem?_cons_zero] <;> exact rfl) (by kernel_rfl) (by kernel_rfl) (by kernel_rfl) (fun _ _ _ h => h) (Or.inl ⟨by rfl, ?_⟩) hS ?_
  rotate_left
  focus (intro w' hw'; go_simp; all_goals with_reducible rfl)
  try simp only [Act.put, List.setIfInBounds_toArray, List.set_cons_zero, List.set_cons_succ]
  refine wpAnyH_ready (rs := [15]) (by kernel_rfl) (by simp) ?_
  refine AllReadyH.cons (o := _) (by simp only [List.getElem?_toArray, List.getElem?_cons_succ, List.getElem?_cons_zero] <;> exact rfl) (fun K hK => ?_) ?_
  focus (
    go_simp
    go_at_call 18
    refine (HLen.out _).mono ?_
    rintro e wc1 ⟨rfl, hb⟩
    have hS := hS.trans (hb.mono hS.size)
    clear hb
    go_wp2_with fail
    refine hK.out _ _ hS (fun _ => ?_)
    clear hK K
    try simp only [Act.put, List.setIfInBounds_toArray, List.set_cons_zero, List.set_cons_succ])
  rotate_left
  focus (exact AllReadyH.nil)
  refine wpAnyH_take (i := 21) (v := ?_) (by simp only [List.getElem?_toArray, List.getElem?_cons_succ, List.getElem?_cons_zero] <;> exact rfl) (by kernel_rfl) (by kernel_rfl) (by kernel_rfl) (fun _ _ _ h => h) (Or.inl ⟨by rfl, ?_⟩) hS ?_
  rotate_left
  focus (intro w' hw'; go_simp; all_goals with_reducible rfl)
  try simp only [Act.put, List.setIfInBounds_toArray, List.set_cons_zero, List.set_cons_succ]
  refine wpAnyH_take (i := 22) (v := ?_) (by simp only [List.getElem?_toArray, List.getElem?_cons_succ, List.getElem?_cons_zero] <;> exact rfl) (by kernel_rfl) (by kernel_rfl) (by kernel_rfl) (fun _ _ _ h => h) (Or.inl ⟨by rfl, ?_⟩) hS ?_
  rotate_left
  focus (intro w' hw'; go_simp; all_goals with_reducible rfl)
  try simp only [Act.put, List.setIfInBounds_toArray, List.set_cons_zero, List.set_cons_succ]
  refine wpAnyH_take (i := 23) (v := ?_) (by simp only [List.getElem?_toArray, List.getElem?_cons_succ, List.getElem?_cons_zero] <;> exact rfl) (by kernel_rfl) (by kernel_rfl) (by kernel_rfl) (fun _ _ _ h => h) (Or.inl ⟨by rfl, ?_⟩) hS ?_
  rotate_left
  focus (intro w' hw'; go_simp; all_goals with_reducible rfl)
  try simp only [Act.put, List.setIfInBounds_toArray, List.set_cons_zero, List.set_cons_succ]
  refine wpAnyH_ready (rs := [24]) (by kernel_rfl) (by simp) ?_
  refine AllReadyH.cons (o := _) (by simp only [List.getElem?_toArray, List.getElem?_cons_succ, List.getElem?_cons_zero] <;> exact rfl) (fun K hK => ?_) ?_
  focus (
    go_simp
    go_at_call 8
    refine (aw_frame _).mono ?_
    rintro e wc2 ⟨rfl, hb⟩
    have hS := hS.trans (hb.mono hS.size)
    clear hb
    go_wp2_with fail
    refine hK.out _ _ hS (fun _ => ?_)
    clear hK K
    try simp only [Act.put, List.setIfInBounds_toArray, List.set_cons_zero, List.set_cons_succ])
  rotate_left
  focus (exact AllReadyH.nil)
  refine wpAnyH_take (i := 25) (v := ?_) (by simp only [List.getElem?_toArray, List.getElem?_cons_succ, List.getElem?_cons_zero] <;> exact rfl) (by kernel_rfl) (by kernel_rfl) (by kernel_rfl) (fun _ _ _ h => h) (Or.inl ⟨by rfl, ?_⟩) hS ?_
  rotate_left
  focus (intro w' hw'; go_simp; all_goals with_reducible rfl)
  try simp only [Act.put, List.setIfInBounds_toArray, List.set_cons_zero, List.set_cons_succ]
  refine wpAnyH_take (i := 26) (v := ?_) (by simp only [List.getElem?_toArray, List.getElem?_cons_succ, List.getElem?_cons_zero] <;> exact rfl) (by kernel_rfl) (by kernel_rfl) (by kernel_rfl) (fun _ _ _ h => h) (Or.inl ⟨by rfl, ?_⟩) hS ?_
  rotate_left
  focus (intro w' hw'; go_simp; all_goals with_reducible rfl)
  try simp only [Act.put, List.setIfInBounds_toArray, List.set_cons_zero, List.set_cons_succ]
  refine wpAnyH_done (by kernel_rfl) ?_ _
  refine NoPanic.normal ?_
  have hb2 := hS
  have Kg2 := hide (Kg1.out.keep hb2)
  have B2 := hide (B1.out.trans (hb2.mono B1.out.size))
  clear hb2 Kg1 B1
  clear hS
  go_wp2_with fail
  go_ret
  exact ⟨rfl, B2.out⟩

set_option maxRecDepth 100000 in
set_option maxHeartbeats 3200000 in
theorem walk_c (n0 p n2 : Int) (a0 : 0 ≤ n0) (a1 : n0 ≤ 65535) (b0 : 0 ≤ n2) (b1 : n2 ≤ 255) (hp : 0 < p) (p1 : p ≤ 255) (hl :  16384 < n0 % 17001 + (1 + p)) (w : World) :
    Calls Try.prog 5 #[.int .u16 n0, .int .u8 p, .int .u8 n2] w fun e w' => e = .returned (.bool true) ∧ Below w.heap.size w w' := by
  obtain ⟨i0, hi0, hz0, hz1, hz2⟩ := info_parts u8_info
  have hk : n2 % 2 = 0 ∨ n2 % 2 = 1 := by omega
  obtain ⟨N, hN⟩ : ∃ N : Nat, n0 % 17001 = (N : Int) := ⟨(n0 % 17001).toNat, by omega⟩
  have hN1 : (N : Int) ≤ 17000 := by omega
  have hmk := run_make (P := Try.prog) w 44 5 i0 (.int .u8 0) Try.underlying44 hi0 hz0 .i64 .i64 (N : Int) (N : Int) (by omega) (by omega) (by rw [hz2]; omega) (by omega)
  rw [hz1, show ((N : Int).toNat * 1) = N by omega, made_zs, show (N : Int).toNat = N by omega] at hmk
  obtain ⟨Z, hZ⟩ : ∃ Z, Z = strOfNums (zs N) := ⟨_, rfl⟩
  have hzl : Z.size = N := by rw [hZ, strOfNums_size]; simp [zs]
  have s1 := rb_string N (blk_rb (BlkIs.new w 5 (u8s (zs N)).toArray) (n := N) (by simp [zs]) (zs_all N))
  rw [← hZ] at s1
  have hF := lg_facts (n2 % 2) 8 p Z hk (Or.inr ⟨by omega, by omega, rfl⟩)
  rw [hzl, show lgM p = (1 + p) by rw [lgM, if_neg (by omega)]] at hF
  obtain ⟨hsz, hck, hln⟩ := hF
  have hlong :  16384 < (N : Int) + (1 + p) := by omega
  rw [if_pos hlong] at hck
  have HF : (lgF (n2 % 2) 8 Z p).cs none 0 0 = #[.int .u8 (n2 % 2), .int .u8 8, .int .i64 1, .string Z, .int .i64 p, .int .i64 0, .bool false, .int .u8 0, .int .u32 0, .int .i64 0, .int .i64 0, .slice none 0 0] := rfl
  have k0 : 0 ≤ n2 % 2 := by omega
  have HZS := hide (show (Z.size : Int) ≤ 2000000 by omega)
  have HPut := hide (fun w => fr_Put (lgF (n2 % 2) 8 Z p) none 0 0 [] k0 (by show (0 : Int) ≤ 0; decide) (by show (0 : Int) ≤ 4294967295; decide) (by show (0 : Int) ≤ 0; decide) (by show (0 : Int) ≤ 255; decide) allP_nil (by decide) HZS.out w (PL.none_ _))
  rw [hck] at HPut
  have HLen := hide (fun w => fr_Length (lgF (n2 % 2) 8 Z p) none 0 0 k0 (by decide) HZS.out w)
  rw [show (lgF (n2 % 2) 8 Z p).len 0 = 0 by rw [Fr.len, hck, hsz]; rfl] at HLen
  rw [show (lgF (n2 % 2) 8 Z p).put [] = [] by rw [Fr.put, List.length_nil, hck]; rfl] at HPut
  have HCS := hide HF
  have e17 : (n0 % 17001) = (N : Int) := hN
  have HZL := hide hzl
  have hzi : (Z.size : Int) = (N : Int) := by omega
  clear hln hck hsz hN hZ HF hzl
  go_enter Try.func5, Try.ntmps5
  go_wp2_with fail
  have KG := hide (show BlkIs ((w.alloc (.cells (u8s (zs N)).toArray 5)).alloc (.cells ((lgF (n2 % 2) 8 Z p).cs none 0 0) 28)) (w.heap.size + 1) 28 ((lgF (n2 % 2) 8 Z p).cs none 0 0) from blk_two)
  have B0 := hide (show Below w.heap.size w ((w.alloc (.cells (u8s (zs N)).toArray 5)).alloc (.cells ((lgF (n2 % 2) 8 Z p).cs none 0 0) 28)) from below_two)
  rw [HCS.out] at KG B0
  obtain ⟨g, hg⟩ : ∃ g, g = w.heap.size + 1 := ⟨_, rfl⟩
  rw [← hg] at KG ⊢
  generalize hw0 : (w.alloc (.cells (u8s (zs N)).toArray 5)).alloc (.cells #[.int .u8 (n2 % 2), .int .u8 8, .int .i64 1, .string Z, .int .i64 p, .int .i64 0, .bool false, .int .u8 0, .int .u32 0, .int .i64 0, .int .i64 0, .slice none 0 0] 28) = w0 at KG B0 ⊢
  have KG1 := hide (show BlkIs w0 g 28 ((lgF (n2 % 2) 8 Z p).cs none 0 0) from KG.out)
  clear hw0 hg KG s1 hmk
  refine (HPut.out _).mono ?_
  rintro e w1 ⟨v2, rfl, ho2, hb1⟩
  have Kg1 := hide (KG1.out.keep hb1)
  have B1 := hide (B0.out.trans (hb1.mono B0.out.size))
  clear hb1 KG1 B0
  obtain ⟨A2, c2, rfl⟩ := own_form ho2
  have g3 := (Kg1.out.cell 3).trans (show ((lgF (n2 % 2) 8 Z p).cs none 0 0)[3]? = some (.string Z) from rfl)
  rw [show ([] : List Int).length = 0 from rfl]
  clear ho2
  go_wp2_with (refine wpList_load_want (by rfl) 28  (.tmp 7) rfl g rfl 28 ((lgF (n2 % 2) 8 Z p).cs none 0 0) _ Kg1.out Try.underlying28 rfl fr_sz ?_)
  clear g3
  refine (HLen.out _).mono ?_
  rintro e w2 ⟨rfl, hb2⟩
  have Kg2 := hide (Kg1.out.keep hb2)
  have B2 := hide (B1.out.trans (hb2.mono B1.out.size))
  clear hb2 Kg1 B1
  go_wp2_with fail
  refine (aw_frame _).mono ?_
  rintro e w3 ⟨rfl, hb3⟩
  have Kg3 := hide (Kg2.out.keep hb3)
  have B3 := hide (B2.out.trans (hb3.mono B2.out.size))
  clear hb3 Kg2 B2
  go_wp2_with fail
  go_ret
  exact ⟨rfl, B3.out⟩

set_option maxRecDepth 100000 in
set_option maxHeartbeats 3200000 in
theorem walk_d (n0 p n2 : Int) (a0 : 0 ≤ n0) (a1 : n0 ≤ 65535) (b0 : 0 ≤ n2) (b1 : n2 ≤ 255) (hp : 0 < p) (p1 : p ≤ 255) (hl : ¬ 16384 < n0 % 17001 + (1 + p)) (w : World) :
    Calls Try.prog 5 #[.int .u16 n0, .int .u8 p, .int .u8 n2] w fun e w' => e = .returned (.bool true) ∧ Below w.heap.size w w' := by
  obtain ⟨i0, hi0, hz0, hz1, hz2⟩ := info_parts u8_info
  have hk : n2 % 2 = 0 ∨ n2 % 2 = 1 := by omega
  obtain ⟨N, hN⟩ : ∃ N : Nat, n0 % 17001 = (N : Int) := ⟨(n0 % 17001).toNat, by omega⟩
  have hN1 : (N : Int) ≤ 17000 := by omega
  have hmk := run_make (P := Try.prog) w 44 5 i0 (.int .u8 0) Try.underlying44 hi0 hz0 .i64 .i64 (N : Int) (N : Int) (by omega) (by omega) (by rw [hz2]; omega) (by omega)
  rw [hz1, show ((N : Int).toNat * 1) = N by omega, made_zs, show (N : Int).toNat = N by omega] at hmk
  obtain ⟨Z, hZ⟩ : ∃ Z, Z = strOfNums (zs N) := ⟨_, rfl⟩
  have hzl : Z.size = N := by rw [hZ, strOfNums_size]; simp [zs]
  have s1 := rb_string N (blk_rb (BlkIs.new w 5 (u8s (zs N)).toArray) (n := N) (by simp [zs]) (zs_all N))
  rw [← hZ] at s1
  have hF := lg_facts (n2 % 2) 8 p Z hk (Or.inr ⟨by omega, by omega, rfl⟩)
  rw [hzl, show lgM p = (1 + p) by rw [lgM, if_neg (by omega)]] at hF
  obtain ⟨hsz, hck, hln⟩ := hF
  have hlong : ¬ 16384 < (N : Int) + (1 + p) := by omega
  rw [if_neg hlong] at hck
  have HF : (lgF (n2 % 2) 8 Z p).cs none 0 0 = #[.int .u8 (n2 % 2), .int .u8 8, .int .i64 1, .string Z, .int .i64 p, .int .i64 0, .bool false, .int .u8 0, .int .u32 0, .int .i64 0, .int .i64 0, .slice none 0 0] := rfl
  have k0 : 0 ≤ n2 % 2 := by omega
  have HZS := hide (show (Z.size : Int) ≤ 2000000 by omega)
  have HPut := hide (fun w => fr_Put (lgF (n2 % 2) 8 Z p) none 0 0 [] k0 (by show (0 : Int) ≤ 0; decide) (by show (0 : Int) ≤ 4294967295; decide) (by show (0 : Int) ≤ 0; decide) (by show (0 : Int) ≤ 255; decide) allP_nil (by decide) HZS.out w (PL.none_ _))
  rw [hck] at HPut
  have HLen := hide (fun w => fr_Length (lgF (n2 % 2) 8 Z p) none 0 0 k0 (by decide) HZS.out w)
  rw [show (lgF (n2 % 2) 8 Z p).len 0 = (N : Int) + (1 + p) by rw [Fr.len, hck, hsz]; rfl] at HLen
  obtain ⟨R, hR⟩ : ∃ R, R = (lgF (n2 % 2) 8 Z p).put [] := ⟨_, rfl⟩
  have hRl : (R.length : Int) = 9 + (N : Int) + (1 + p) := by rw [hR, Fr.put, List.length_nil, hck, if_pos rfl]; exact hln
  rw [← hR] at HPut
  obtain ⟨L, hL⟩ : ∃ L, L = R.length := ⟨_, rfl⟩
  rw [← hL] at hRl
  have HLL := hide hL.symm
  clear hR hL
  have HCS := hide HF
  have e17 : (n0 % 17001) = (N : Int) := hN
  have HZL := hide hzl
  have hzi : (Z.size : Int) = (N : Int) := by omega
  clear hln hck hsz hN hZ HF hzl
  go_enter Try.func5, Try.ntmps5
  go_wp2_with fail
  have KG := hide (show BlkIs ((w.alloc (.cells (u8s (zs N)).toArray 5)).alloc (.cells ((lgF (n2 % 2) 8 Z p).cs none 0 0) 28)) (w.heap.size + 1) 28 ((lgF (n2 % 2) 8 Z p).cs none 0 0) from blk_two)
  have B0 := hide (show Below w.heap.size w ((w.alloc (.cells (u8s (zs N)).toArray 5)).alloc (.cells ((lgF (n2 % 2) 8 Z p).cs none 0 0) 28)) from below_two)
  rw [HCS.out] at KG B0
  obtain ⟨g, hg⟩ : ∃ g, g = w.heap.size + 1 := ⟨_, rfl⟩
  rw [← hg] at KG ⊢
  generalize hw0 : (w.alloc (.cells (u8s (zs N)).toArray 5)).alloc (.cells #[.int .u8 (n2 % 2), .int .u8 8, .int .i64 1, .string Z, .int .i64 p, .int .i64 0, .bool false, .int .u8 0, .int .u32 0, .int .i64 0, .int .i64 0, .slice none 0 0] 28) = w0 at KG B0 ⊢
  have KG1 := hide (show BlkIs w0 g 28 ((lgF (n2 % 2) 8 Z p).cs none 0 0) from KG.out)
  clear hw0 hg KG s1 hmk
  refine (HPut.out _).mono ?_
  rintro e w1 ⟨v2, rfl, ho2, hb1⟩
  have Kg1 := hide (KG1.out.keep hb1)
  have B1 := hide (B0.out.trans (hb1.mono B0.out.size))
  clear hb1 KG1 B0
  obtain ⟨A2, c2, rfl⟩ := own_form ho2
  have g3 := (Kg1.out.cell 3).trans (show ((lgF (n2 % 2) 8 Z p).cs none 0 0)[3]? = some (.string Z) from rfl)
  rw [HLL.out]
  clear ho2
  go_wp2_with fail
  have e1 : IntKind.i64.wrap (9 + (N : Int)) = 9 + (N : Int) := IntWalk.i64_in _ (by omega)
  have e2 : IntKind.i64.wrap (9 + (N : Int) + (1 + p)) = 9 + (N : Int) + (1 + p) := IntWalk.i64_in _ (by omega)
  have e3 : IntKind.i64.wrap ((N : Int) + (1 + p)) = (N : Int) + (1 + p) := IntWalk.i64_in _ (by omega)
  clear g3
  refine wp_region_noPanic ?_
  refine wp_region_held_drew (S := fun w' => Below w1.heap.size w1 w') (by kernel_rfl) (Below.refl _ _).drew (fun hS => ?_)
  refine wpAnyH_take (i := 0) (v := ?_) (by simp only [List.getElem?_toArray, List.getElem?_cons_zero] <;> exact rfl) (by kernel_rfl) (by kernel_rfl) (by kernel_rfl) (fun _ _ _ h => h) (Or.inl ⟨by rfl, ?_⟩) hS ?_
  rotate_left
  focus (intro w' hw'; go_simp; all_goals with_reducible rfl)
  try simp only [Act.put, List.setIfInBounds_toArray, List.set_cons_zero, List.set_cons_succ]
  refine wpAnyH_take (i := 1) (v := ?_) (by simp only [List.getElem?_toArray, List.getElem?_cons_succ, List.getElem?_cons_zero] <;> exact rfl) (by kernel_rfl) (by kernel_rfl) (by kernel_rfl) (fun _ _ _ h => h) (Or.inl ⟨by rfl, ?_⟩) hS ?_
  rotate_left
  focus (intro w' hw'; go_simp; all_goals with_reducible rfl)
  try simp only [Act.put, List.setIfInBounds_toArray, List.set_cons_zero, List.set_cons_succ]
  refine wpAnyH_take (i := 2) (v := ?_) (by simp only [List.getElem?_toArray, List.getElem?_cons_succ, List.getElem?_cons_zero] <;> exact rfl) (by kernel_rfl) (by kernel_rfl) (by kernel_rfl) (fun _ _ _ h => h) (Or.inl ⟨by rfl, ?_⟩) hS ?_
  rotate_left
  focus (intro w' hw'; go_simp; all_goals with_reducible rfl)
  try simp only [Act.put, List.setIfInBounds_toArray, List.set_cons_zero, List.set_cons_succ]
  refine wpAnyH_take (i := 3) (v := ?_) (by simp only [List.getElem?_toArray, List.getElem?_cons_succ, List.getElem?_cons_zero] <;> exact rfl) (by kernel_rfl) (by kernel_rfl) (by kernel_rfl) (fun _ _ _ h => h) (Or.inl ⟨by rfl, ?_⟩) hS ?_
  rotate_left
  focus (intro w' hw'; go_simp; all_goals with_reducible rfl)
  try simp only [Act.put, List.setIfInBounds_toArray, List.set_cons_zero, List.set_cons_succ]
  refine wpAnyH_take (i := 4) (v := ?_) (by simp only [List.getElem?_toArray, List.getElem?_cons_succ, List.getElem?_cons_zero] <;> exact rfl) (by kernel_rfl) (by kernel_rfl) (by kernel_rfl) (fun _ _ _ h => h) (Or.inl ⟨by rfl, ?_⟩) hS ?_
  rotate_left
  focus (intro w' hw'; go_simp; all_goals with_reducible rfl)
  try simp only [Act.put, List.setIfInBounds_toArray, List.set_cons_zero, List.set_cons_succ]
  refine wpAnyH_take (i := 5) (v := ?_) (by simp only [List.getElem?_toArray, List.getElem?_cons_succ, List.getElem?_cons_zero] <;> exact rfl) (by kernel_rfl) (by kernel_rfl) (by kernel_rfl) (fun _ _ _ h => h) (Or.inl ⟨by rfl, ?_⟩) hS ?_
  rotate_left
  focus (intro w' hw'; go_simp; all_goals with_reducible rfl)
  try simp only [Act.put, List.setIfInBounds_toArray, List.set_cons_zero, List.set_cons_succ]
  refine wpAnyH_take (i := 6) (v := ?_) (by simp only [List.getElem?_toArray, List.getElem?_cons_succ, List.getElem?_cons_zero] <;> exact rfl) (by kernel_rfl) (by kernel_rfl) (by kernel_rfl) (fun _ _ _ h => h) (Or.inl ⟨by rfl, ?_⟩) hS ?_
  rotate_left
  focus (intro w' hw'; have kk := (Kg1.out.keep hw').cell 3; rw [show ((lgF (n2 % 2) 8 Z p).cs none 0 0)[3]? = some (.string Z) from rfl] at kk; go_simp; all_goals with_reducible rfl)
  try simp only [Act.put, List.setIfInBounds_toArray, List.set_cons_zero, List.set_cons_succ]
  refine wpAnyH_take (i := 7) (v := ?_) (by simp only [List.getElem?_toArray, List.getElem?_cons_succ, List.getElem?_cons_zero] <;> exact rfl) (by kernel_rfl) (by kernel_rfl) (by kernel_rfl) (fun _ _ _ h => h) (Or.inl ⟨by rfl, ?_⟩) hS ?_
  rotate_left
  focus (intro w' hw'; go_simp; all_goals with_reducible rfl)
  try simp only [Act.put, List.setIfInBounds_toArray, List.set_cons_zero, List.set_cons_succ]
  refine wpAnyH_take (i := 8) (v := ?_) (by simp only [List.getElem?_toArray, List.getElem?_cons_succ, List.getElem?_cons_zero] <;> exact rfl) (by kernel_rfl) (by kernel_rfl) (by kernel_rfl) (fun _ _ _ h => h) (Or.inl ⟨by rfl, ?_⟩) hS ?_
  rotate_left
  focus (intro w' hw'; go_simp; all_goals with_reducible rfl)
  try simp only [Act.put, List.setIfInBounds_toArray, List.set_cons_zero, List.set_cons_succ]
  refine wpAnyH_take (i := 9) (v := ?_) (by simp only [List.getElem?_toArray, List.getElem?_cons_succ, List.getElem?_cons_zero] <;> exact rfl) (by kernel_rfl) (by kernel_rfl) (by kernel_rfl) (fun _ _ _ h => h) (Or.inl ⟨by rfl, ?_⟩) hS ?_
  rotate_left
  focus (intro w' hw'; go_simp; all_goals with_reducible rfl)
  try simp only [Act.put, List.setIfInBounds_toArray, List.set_cons_zero, List.set_cons_succ]
  refine wpAnyH_take (i := 10) (v := ?_) (by simp only [List.getElem?_toArray, List.getElem?_cons_succ, List.getElem?_cons_zero] <;> exact rfl) (by kernel_rfl) (by kernel_rfl) (by kernel_rfl) (fun _ _ _ h => h) (Or.inl ⟨by rfl, ?_⟩) hS ?_
  rotate_left
  focus (intro w' hw'; go_simp; all_goals with_reducible rfl)
  try simp only [Act.put, List.setIfInBounds_toArray, List.set_cons_zero, List.set_cons_succ]
  refine wpAnyH_take (i := 11) (v := ?_) (by simp only [List.getElem?_toArray, List.getElem?_cons_succ, List.getElem?_cons_zero] <;> exact rfl) (by kernel_rfl) (by kernel_rfl) (by kernel_rfl) (fun _ _ _ h => h) (Or.inl ⟨by rfl, ?_⟩) hS ?_
  rotate_left
  focus (intro w' hw'; go_simp; all_goals with_reducible rfl)
  try simp only [Act.put, List.setIfInBounds_toArray, List.set_cons_zero, List.set_cons_succ]
  refine wpAnyH_take (i := 12) (v := ?_) (by simp only [List.getElem?_toArray, List.getElem?_cons_succ, List.getElem?_cons_zero] <;> exact rfl) (by kernel_rfl) (by kernel_rfl) (by kernel_rfl) (fun _ _ _ h => h) (Or.inl ⟨by rfl, ?_⟩) hS ?_
  rotate_left
  focus (intro w' hw'; go_simp; all_goals with_reducible rfl)
  try simp only [Act.put, List.setIfInBounds_toArray, List.set_cons_zero, List.set_cons_succ]
  refine wpAnyH_take (i := 13) (v := ?_) (by simp only [List.getElem?_toArray, List.getElem?_cons_succ, List.getElem?_cons_zero] <;> exact rfl) (by kernel_rfl) (by kernel_rfl) (by kernel_rfl) (fun _ _ _ h => h) (Or.inl ⟨by rfl, ?_⟩) hS ?_
  rotate_left
  focus (intro w' hw'; go_simp; all_goals with_reducible rfl)
  try simp only [Act.put, List.setIfInBounds_toArray, List.set_cons_zero, List.set_cons_succ]
  refine wpAnyH_take (i := 14) (by simp only [List.getElem?_toArray, List.getElem?_cons_succ, List.getElem?_cons_zero] <;> exact rfl) (by kernel_rfl) (by kernel_rfl) (by kernel_rfl) (fun _ _ _ h => h) (yields_blk (by rfl) 28 (.tmp 7) (by rfl) g (by rfl) 28 ((lgF (n2 % 2) 8 Z p).cs none 0 0) _ (fun w' hw' => Kg1.out.keep hw') Try.underlying28 rfl fr_sz) hS ?_
  try simp only [Act.put, List.setIfInBounds_toArray, List.set_cons_zero, List.set_cons_succ]
  refine wpAnyH_take (i := 16) (v := ?_) (by simp only [List.getElem?_toArray, List.getElem?_cons_succ, List.getElem?_cons_zero] <;> exact rfl) (by kernel_rfl) (by kernel_rfl) (by kernel_rfl) (fun _ _ _ h => h) (Or.inl ⟨by rfl, ?_⟩) hS ?_
  rotate_left
  focus (intro w' hw'; go_simp; all_goals with_reducible rfl)
  try simp only [Act.put, List.setIfInBounds_toArray, List.set_cons_zero, List.set_cons_succ]
  refine wpAnyH_take (i := 17) (v := ?_) (by simp only [List.getElem?_toArray, List.getElem?_cons_succ, List.getElem?_cons_zero] <;> exact rfl) (by kernel_rfl) (by kernel_rfl) (by kernel_rfl) (fun _ _ _ h => h) (Or.inl ⟨by rfl, ?_⟩) hS ?_
  rotate_left
  focus (intro w' hw'; have kk := (Kg1.out.keep hw').cell 3; rw [show ((lgF (n2 % 2) 8 Z p).cs none 0 0)[3]? = some (.string Z) from rfl] at kk; go_simp; all_goals with_reducible rfl)
  try simp only [Act.put, List.setIfInBounds_toArray, List.set_cons_zero, List.set_cons_succ]
  refine wpAnyH_take (i := 18) (v := ?_) (by simp only [List.getElem?_toArray, List.getElem?_cons_succ, List.getElem?_cons_zero] <;> exact rfl) (by kernel_rfl) (by kernel_rfl) (by kernel_rfl) (fun _ _ _ h => h) (Or.inl ⟨by rfl, ?_⟩) hS ?_
  rotate_left
  focus (intro w' hw'; go_simp; all_goals with_reducible rfl)
  try simp only [Act.put, List.setIfInBounds_toArray, List.set_cons_zero, List.set_cons_succ]
  refine wpAnyH_take (i := 19) (v := ?_) (by simp only [List.getElem?_toArray, List.getElem?_cons_succ, List.getElem?_cons_zero] <;> exact rfl) (by kernel_rfl) (by kernel_rfl) (by kernel_rfl) (fun _ _ _ h => h) (Or.inl ⟨by rfl, ?_⟩) hS ?_
  rotate_left
  focus (intro w' hw'; go_simp; all_goals with_reducible rfl)
  try simp only [Act.put, List.setIfInBounds_toArray, List.set_cons_zero, List.set_cons_succ]
  refine wpAnyH_take (i := 20) (v := ?_) (by simp only [List.getElem?_toArray, List.getElem?_cons_succ, List.getElem?_cons_zero] <;> exact rfl) (by kernel_rfl) (by kernel_rfl) (by kernel_rfl) (fun _ _ _ h => h) (Or.inl ⟨by rfl, ?_⟩) hS ?_
  rotate_left
  focus (intro w' hw'; go_simp; all_goals with_reducible rfl)
  try simp only [Act.put, List.setIfInBounds_toArray, List.set_cons_zero, List.set_cons_succ]
  refine wpAnyH_ready (rs := [15]) (by kernel_rfl) (by simp) ?_
  refine AllReadyH.cons (o := _) (by simp only [List.getElem?_toArray, List.getElem?_cons_succ, List.getElem?_cons_zero] <;> exact rfl) (fun K hK => ?_) ?_
  focus (
    go_simp
    go_at_call 18
    refine (HLen.out _).mono ?_
    rintro e wc1 ⟨rfl, hb⟩
    have hS := hS.trans (hb.mono hS.size)
    clear hb
    go_wp2_with fail
    refine hK.out _ _ hS (fun _ => ?_)
    clear hK K
    try simp only [Act.put, List.setIfInBounds_toArray, List.set_cons_zero, List.set_cons_succ])
  rotate_left
  focus (exact AllReadyH.nil)
  refine wpAnyH_take (i := 21) (v := ?_) (by simp only [List.getElem?_toArray, List.getElem?_cons_succ, List.getElem?_cons_zero] <;> exact rfl) (by kernel_rfl) (by kernel_rfl) (by kernel_rfl) (fun _ _ _ h => h) (Or.inl ⟨by rfl, ?_⟩) hS ?_
  rotate_left
  focus (intro w' hw'; go_simp; all_goals with_reducible rfl)
  try simp only [Act.put, List.setIfInBounds_toArray, List.set_cons_zero, List.set_cons_succ]
  refine wpAnyH_take (i := 22) (v := ?_) (by simp only [List.getElem?_toArray, List.getElem?_cons_succ, List.getElem?_cons_zero] <;> exact rfl) (by kernel_rfl) (by kernel_rfl) (by kernel_rfl) (fun _ _ _ h => h) (Or.inl ⟨by rfl, ?_⟩) hS ?_
  rotate_left
  focus (intro w' hw'; go_simp; all_goals with_reducible rfl)
  try simp only [Act.put, List.setIfInBounds_toArray, List.set_cons_zero, List.set_cons_succ]
  refine wpAnyH_take (i := 23) (v := ?_) (by simp only [List.getElem?_toArray, List.getElem?_cons_succ, List.getElem?_cons_zero] <;> exact rfl) (by kernel_rfl) (by kernel_rfl) (by kernel_rfl) (fun _ _ _ h => h) (Or.inl ⟨by rfl, ?_⟩) hS ?_
  rotate_left
  focus (intro w' hw'; go_simp; all_goals with_reducible rfl)
  try simp only [Act.put, List.setIfInBounds_toArray, List.set_cons_zero, List.set_cons_succ]
  refine wpAnyH_ready (rs := [24]) (by kernel_rfl) (by simp) ?_
  refine AllReadyH.cons (o := _) (by simp only [List.getElem?_toArray, List.getElem?_cons_succ, List.getElem?_cons_zero] <;> exact rfl) (fun K hK => ?_) ?_
  focus (
    go_simp
    go_at_call 8
    refine (aw_frame _).mono ?_
    rintro e wc2 ⟨rfl, hb⟩
    have hS := hS.trans (hb.mono hS.size)
    clear hb
    go_wp2_with fail
    refine hK.out _ _ hS (fun _ => ?_)
    clear hK K
    try simp only [Act.put, List.setIfInBounds_toArray, List.set_cons_zero, List.set_cons_succ])
  rotate_left
  focus (exact AllReadyH.nil)
  refine wpAnyH_take (i := 25) (v := ?_) (by simp only [List.getElem?_toArray, List.getElem?_cons_succ, List.getElem?_cons_zero] <;> exact rfl) (by kernel_rfl) (by kernel_rfl) (by kernel_rfl) (fun _ _ _ h => h) (Or.inl ⟨by rfl, ?_⟩) hS ?_
  rotate_left
  focus (intro w' hw'; go_simp; all_goals with_reducible rfl)
  try simp only [Act.put, List.setIfInBounds_toArray, List.set_cons_zero, List.set_cons_succ]
  refine wpAnyH_take (i := 26) (v := ?_) (by simp only [List.getElem?_toArray, List.getElem?_cons_succ, List.getElem?_cons_zero] <;> exact rfl) (by kernel_rfl) (by kernel_rfl) (by kernel_rfl) (fun _ _ _ h => h) (Or.inl ⟨by rfl, ?_⟩) hS ?_
  rotate_left
  focus (intro w' hw'; go_simp; all_goals with_reducible rfl)
  try simp only [Act.put, List.setIfInBounds_toArray, List.set_cons_zero, List.set_cons_succ]
  refine wpAnyH_done (by kernel_rfl) ?_ _
  refine NoPanic.normal ?_
  have hb2 := hS
  have Kg2 := hide (Kg1.out.keep hb2)
  have B2 := hide (B1.out.trans (hb2.mono B1.out.size))
  clear hb2 Kg1 B1
  clear hS
  go_wp2_with fail
  go_ret
  exact ⟨rfl, B2.out⟩

theorem walk (n0 p n2 : Int) (w : World) (w0 : (Lit.int .u16 n0).wf = true) (w1 : (Lit.int .u8 p).wf = true) (w2 : (Lit.int .u8 n2).wf = true) :
    Calls Try.prog 5 #[.int .u16 n0, .int .u8 p, .int .u8 n2] w fun e w' => e = .returned (.bool true) ∧ Below w.heap.size w w' := by
  obtain ⟨a0, a1⟩ := bounds_u16 w0
  obtain ⟨p0, p1⟩ := bounds_u8 w1
  obtain ⟨b0, b1⟩ := bounds_u8 w2
  by_cases hp : p = 0
  · subst hp
    by_cases hl : 16384 < n0 % 17001 + 0
    · exact walk_a n0 0 n2 a0 a1 b0 b1 hl w
    · exact walk_b n0 0 n2 a0 a1 b0 b1 hl w
  · by_cases hl : 16384 < n0 % 17001 + (1 + p)
    · exact walk_c n0 p n2 a0 a1 b0 b1 (by omega) p1 hl w
    · exact walk_d n0 p n2 a0 a1 b0 b1 (by omega) p1 hl w
end Go.Proofs.Ytefdhbljcnpggaa.frameLongs
