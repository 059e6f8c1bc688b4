/-
  DyntabFinds: its walk: for every two tables and number the Go text returns true, and leaves what was there as it was.
-/
import Derived.Test.YtchndegcnjejiaaDyAwake
import Derived.BigGuardPart
import Derived.Deep.RegionHeld3
namespace Go.Proofs.Ytchndegcnjejiaa.dyntabFinds
open Go.RowKit Go.Proofs.Ytchndegcnjejiaa

set_option maxRecDepth 100000 in
set_option maxHeartbeats 1600000 in
theorem walk_long (m m' : Int) (A A' : Option Addr) (n n' c c' : Nat) (l _l' : List Fd) (i : Int) (w : World) (hfl : FL w A n c l) (h : lightB l = false) :
    Calls Try.prog 3 #[.agg #[.int .i64 m, .slice A n c], .agg #[.int .i64 m', .slice A' n' c'], .int .i64 i] w fun e w' => e = .returned (.bool true) ∧ Below w.heap.size w w' := by
  have HL := hide (fun w' (hf : FL w' A n c l) => rf_Light A n c l w' hf)
  rw [h] at HL
  have HFL := hide ((hfl.alloc (.cells #[.int .i64 m, .slice A n c] 24)).alloc (.cells #[.int .i64 m', .slice A' n' c'] 24))
  clear h hfl
  go_enter Try.func3, Try.ntmps3
  go_wp2_with (first
    | (go_at_call 6; ((with_reducible refine (HL.out _ HFL.out).mono ?_); rintro e w2 ⟨rfl, rfl⟩))
    | (go_at_call 7; refine (aw_dyntab _).mono ?_; rintro e w7 ⟨rfl, hb7⟩; have HB7 := hide hb7; clear hb7))
  go_ret
  exact ⟨rfl, (((Below.refl _ _).alloc (Nat.le_refl _) _).alloc (by simp) _).trans (HB7.out.mono (by simp; omega))⟩

set_option maxRecDepth 100000 in
set_option maxHeartbeats 1600000 in
theorem walk_long2 (m m' : Int) (A A' : Option Addr) (n n' c c' : Nat) (l l' : List Fd) (i : Int) (w : World) (hfl : FL w A n c l) (hfl' : FL w A' n' c' l') (h : lightB l = true) (h2 : lightB l' = false) :
    Calls Try.prog 3 #[.agg #[.int .i64 m, .slice A n c], .agg #[.int .i64 m', .slice A' n' c'], .int .i64 i] w fun e w' => e = .returned (.bool true) ∧ Below w.heap.size w w' := by
  have HFL := (hfl.alloc (.cells #[.int .i64 m, .slice A n c] 24)).alloc (.cells #[.int .i64 m', .slice A' n' c'] 24)
  have HFL' := (hfl'.alloc (.cells #[.int .i64 m, .slice A n c] 24)).alloc (.cells #[.int .i64 m', .slice A' n' c'] 24)
  have HL := hide (rf_Light A n c l _ HFL)
  have HL2 := hide (rf_Light A' n' c' l' _ HFL')
  rw [h] at HL
  rw [h2] at HL2
  clear h hfl h2 hfl' HFL HFL'
  go_enter Try.func3, Try.ntmps3
  go_wp2_with fail
  refine HL.out.mono ?_
  rintro e w2 ⟨rfl, rfl⟩
  go_wp2_with fail
  refine HL2.out.mono ?_
  rintro e w2 ⟨rfl, rfl⟩
  go_wp2_with (go_at_call 7; refine (aw_dyntab _).mono ?_; rintro e w7 ⟨rfl, hb7⟩; have HB7 := hide hb7; clear hb7)
  go_ret
  exact ⟨rfl, (((Below.refl _ _).alloc (Nat.le_refl _) _).alloc (by simp) _).trans (HB7.out.mono (by simp; omega))⟩

theorem first3 {w : World} {b off n c : Nat} {x y : ByteArray} {z : Bool} {l : List Fd} (h : FL w (some ⟨b, off, none⟩) n c (⟨x, y, z⟩ :: l)) : w.cell? ⟨b, off, none⟩ = some (.string x) ∧ w.cell? ⟨b, off + 1, none⟩ = some (.string y) ∧ w.cell? ⟨b, off + 2, none⟩ = some (.bool z) := by
  obtain ⟨b', off', e, _, c0, c1, c2⟩ := h.at_ 0 _ rfl
  injection e with e
  injection e with e1 e2
  subst e1 e2
  exact ⟨by simpa using c0, by simpa using c1, by simpa using c2⟩

set_option maxRecDepth 100000 in
set_option maxHeartbeats 6400000 in
theorem walk_nil (m m' : Int) (A A' : Option Addr) (n c c' : Nat) (l : List Fd) (i : Int) (hi : i ≤ 9223372036854775807) (w : World) (hfl : FL w A n c l) (hfl' : FL w A' 0 c' []) (h : lightB l = true) (h2 : lightB [] = true)  :
    Calls Try.prog 3 #[.agg #[.int .i64 m, .slice A n c], .agg #[.int .i64 m', .slice A' 0 c'], .int .i64 i] w fun e w' => e = .returned (.bool true) ∧ Below w.heap.size w w' := by
  have hz := run_zero_is tab_zero
  have hzf := run_zero_is st_zero_raw
  obtain ⟨h30, hsz, -⟩ := light_szs h
  obtain ⟨h30', hsz', -⟩ := light_szs h2
  have hn30 : (n : Int) ≤ 30 := by rw [← hfl.len]; exact h30
  have HS := hide (show (szs l : Int) ≤ 1099511627776 by omega)
  have HNN := hide (show (n : Int) ≤ 1099511627776 ∧ ((0 : Nat) : Int) ≤ 1099511627776 by omega)
  have HI := hide hi
  obtain ⟨W, hW⟩ : ∃ W, W = (w.alloc (.cells #[.int .i64 m, .slice A n c] 24)).alloc (.cells #[.int .i64 m', .slice A' 0 c'] 24) := ⟨_, rfl⟩
  have B0 := hide (show Below w.heap.size w W by rw [hW]; exact ((Below.refl w.heap.size w).alloc (Nat.le_refl _) _).alloc (by simp) _)
  have K3 := hide (show BlkIs W w.heap.size 24 #[.int .i64 m, .slice A n c] by rw [hW]; exact (BlkIs.new w 24 #[.int .i64 m, .slice A n c]).alloc _)
  have K4 := hide (show BlkIs W (w.heap.size + 1) 24 #[.int .i64 m', .slice A' 0 c'] by rw [hW]; exact blk_new2' w _ 24 #[.int .i64 m', .slice A' 0 c'])
  have FT := hide (hfl.keep B0.out)
  have FO := hide (hfl'.keep B0.out)
  have HL := hide (rf_Light A n c l _ FT.out)
  have HL2 := hide (rf_Light A' 0 c' [] _ FO.out)
  rw [h] at HL
  rw [h2] at HL2
  obtain ⟨g, hg⟩ : ∃ g, g = w.heap.size := ⟨_, rfl⟩
  have HG := hide hg
  have HW := hide hW
  have HWS := hide (show W.heap.size = g + 1 + 1 by rw [hW, hg]; simp)
  rw [← hg] at K3 K4
  clear h hfl h2 h30 hsz h30' hsz' hfl' hg hW hi
  go_enter Try.func3, Try.ntmps3
  go_wp2_with fail
  rw [← HW.out, ← HG.out]
  have e1 := K3.out.cell 1
  have e2 := K4.out.cell 1
  have e0 := K3.out.cell 0
  simp only [List.getElem?_toArray, List.getElem?_cons_zero, List.getElem?_cons_succ] at e0 e1 e2
  refine HL.out.mono ?_
  rintro e w2 ⟨rfl, rfl⟩
  go_wp2_with fail
  refine HL2.out.mono ?_
  rintro e w2 ⟨rfl, rfl⟩
  have K30 := K3
  have K40 := K4
  have FT1 := FT
  have FO1 := FO
  have K7 := hide ((BlkIs.new W 27 #[.int .i64 m, .slice A n c]).alloc (.cells #[.string ⟨#[58, 109, 101, 116, 104, 111, 100]⟩, .string ⟨#[80, 85, 84]⟩, .bool false] 29))
  have K8 := hide (blk_new2' W (.cells #[.int .i64 m, .slice A n c] 27) 29 #[.string ⟨#[58, 109, 101, 116, 104, 111, 100]⟩, .string ⟨#[80, 85, 84]⟩, .bool false])
  obtain ⟨g7, hg7⟩ : ∃ g, g = W.heap.size := ⟨_, rfl⟩
  have HG7 := hide (show w.heap.size ≤ g7 by rw [hg7]; exact B0.out.size)
  have HG8 := hide (show g7 = g + 1 + 1 by rw [hg7]; exact HWS.out)
  rw [← hg7] at K7 K8
  have K3 := hide ((K3.out.alloc (.cells #[.int .i64 m, .slice A n c] 27)).alloc (.cells #[.string ⟨#[58, 109, 101, 116, 104, 111, 100]⟩, .string ⟨#[80, 85, 84]⟩, .bool false] 29))
  have K4 := hide ((K4.out.alloc (.cells #[.int .i64 m, .slice A n c] 27)).alloc (.cells #[.string ⟨#[58, 109, 101, 116, 104, 111, 100]⟩, .string ⟨#[80, 85, 84]⟩, .bool false] 29))
  have FT := hide ((FT.out.alloc (.cells #[.int .i64 m, .slice A n c] 27)).alloc (.cells #[.string ⟨#[58, 109, 101, 116, 104, 111, 100]⟩, .string ⟨#[80, 85, 84]⟩, .bool false] 29))
  have FO := hide ((FO.out.alloc (.cells #[.int .i64 m, .slice A n c] 27)).alloc (.cells #[.string ⟨#[58, 109, 101, 116, 104, 111, 100]⟩, .string ⟨#[80, 85, 84]⟩, .bool false] 29))
  have B1 := hide ((B0.out.alloc B0.out.size (.cells #[.int .i64 m, .slice A n c] 27)).alloc (by have := B0.out.size; simp; omega) (.cells #[.string ⟨#[58, 109, 101, 116, 104, 111, 100]⟩, .string ⟨#[80, 85, 84]⟩, .bool false] 29))
  have x0 := K4.out.cell 0
  have x1 := K4.out.cell 1
  have y0 := K3.out.cell 0
  have y1 := K3.out.cell 1
  have t0 := K7.out.cell 0
  have t1 := K7.out.cell 1
  simp only [List.getElem?_toArray, List.getElem?_cons_zero, List.getElem?_cons_succ] at x0 x1 y0 y1 t0 t1
  go_wp2_with (first
    | (with_reducible refine wpList_fld2r rfl _ _ _ _ rfl rfl rfl ?_))
  rw [← hg7]
  clear HL HL2 HW HWS B0 hg7 HG8
  obtain ⟨N, V, X, T, HNVX⟩ : ∃ N V X T, Hid (N = (atF l i).n ∧ V = (atF l i).v ∧ X = (atF l i).x ∧ T = atB l i) := ⟨_, _, _, _, hide ⟨rfl, rfl, rfl, rfl⟩⟩
  have HC := dy_At m A n c l _ FT.out HNN.out.1 i HI.out
  unfold AtIs at HC
  rw [← HNVX.out.1, ← HNVX.out.2.1, ← HNVX.out.2.2.1, ← HNVX.out.2.2.2] at HC
  refine HC.mono ?_
  clear HC
  rintro e w3 ⟨rfl, hb3⟩
  have K9 := hide (BlkIs.new w3 29 #[.string N, .string V, .bool X])
  have K7 := hide ((K7.out.keep hb3).alloc (.cells #[.string N, .string V, .bool X] 29))
  have K8 := hide ((K8.out.keep hb3).alloc (.cells #[.string N, .string V, .bool X] 29))
  have K3 := hide ((K3.out.keep hb3).alloc (.cells #[.string N, .string V, .bool X] 29))
  have K4 := hide ((K4.out.keep hb3).alloc (.cells #[.string N, .string V, .bool X] 29))
  have FT := hide ((FT.out.keep hb3).alloc (.cells #[.string N, .string V, .bool X] 29))
  have FO := hide ((FO.out.keep hb3).alloc (.cells #[.string N, .string V, .bool X] 29))
  have B1 := hide ((B1.out.trans (hb3.mono B1.out.size)).alloc (by have h1 := hb3.size; have h2 := B1.out.size; omega) (.cells #[.string N, .string V, .bool X] 29))
  obtain ⟨g9, hg9⟩ : ∃ g, g = w3.heap.size := ⟨_, rfl⟩
  rw [← hg9] at K9
  have e0 := K3.out.cell 0
  have e1 := K3.out.cell 1
  simp only [List.getElem?_toArray, List.getElem?_cons_zero, List.getElem?_cons_succ] at e0 e1
  clear hb3
  go_wp2_with fail
  rw [← hg9]
  clear hg9
  have HC2 := rf_At04 m A n c l _ FT.out HNN.out.1 i HI.out
  unfold AtIs at HC2
  rw [← HNVX.out.1, ← HNVX.out.2.1, ← HNVX.out.2.2.1, ← HNVX.out.2.2.2] at HC2
  refine HC2.mono ?_
  clear HC2
  rintro e w4 ⟨rfl, hb4⟩
  have K11 := hide (BlkIs.new w4 29 #[.string N, .string V, .bool X])
  have K9 := hide ((K9.out.keep hb4).alloc (.cells #[.string N, .string V, .bool X] 29))
  have K7 := hide ((K7.out.keep hb4).alloc (.cells #[.string N, .string V, .bool X] 29))
  have K8 := hide ((K8.out.keep hb4).alloc (.cells #[.string N, .string V, .bool X] 29))
  have K3 := hide ((K3.out.keep hb4).alloc (.cells #[.string N, .string V, .bool X] 29))
  have K4 := hide ((K4.out.keep hb4).alloc (.cells #[.string N, .string V, .bool X] 29))
  have FT := hide ((FT.out.keep hb4).alloc (.cells #[.string N, .string V, .bool X] 29))
  have FO := hide ((FO.out.keep hb4).alloc (.cells #[.string N, .string V, .bool X] 29))
  have B1 := hide ((B1.out.trans (hb4.mono B1.out.size)).alloc (by have h1 := hb4.size; have h2 := B1.out.size; omega) (.cells #[.string N, .string V, .bool X] 29))
  obtain ⟨g11, hg11⟩ : ∃ g, g = w4.heap.size := ⟨_, rfl⟩
  rw [← hg11] at K11
  have e0 := K7.out.cell 0
  have e1 := K7.out.cell 1
  have u0 := K8.out.cell 0
  have u1 := K8.out.cell 1
  simp only [List.getElem?_toArray, List.getElem?_cons_zero, List.getElem?_cons_succ] at e0 e1 u0 u1
  clear hb4
  go_wp2_with fail
  rw [← hg11]
  clear hg11
  refine (dy_Find m A n c l ⟨#[58, 109, 101, 116, 104, 111, 100]⟩ ⟨#[80, 85, 84]⟩ _ FT.out HNN.out.1).mono ?_
  rintro e w5 ⟨r, b, rfl, hf5, hb5⟩
  have K11 := hide (K11.out.keep hb5)
  have K9 := hide (K9.out.keep hb5)
  have K7 := hide (K7.out.keep hb5)
  have K8 := hide (K8.out.keep hb5)
  have K3 := hide (K3.out.keep hb5)
  have K4 := hide (K4.out.keep hb5)
  have FT := hide (FT.out.keep hb5)
  have FO := hide (FO.out.keep hb5)
  have B1 := hide (B1.out.trans (hb5.mono B1.out.size))
  have HF5 := hide hf5
  have e0 := K3.out.cell 0
  have e1 := K3.out.cell 1
  have u0 := K8.out.cell 0
  have u1 := K8.out.cell 1
  simp only [List.getElem?_toArray, List.getElem?_cons_zero, List.getElem?_cons_succ] at e0 e1 u0 u1
  clear hb5 hf5
  go_wp2_with fail
  refine (rf_Find04 m A n c l ⟨#[58, 109, 101, 116, 104, 111, 100]⟩ ⟨#[80, 85, 84]⟩ _ FT.out HNN.out.1).mono ?_
  rintro e W ⟨r', b', rfl, hf6, hb6⟩
  obtain ⟨rfl, rfl⟩ := HF5.out.one hf6
  have K11 := hide (K11.out.keep hb6)
  have K9 := hide (K9.out.keep hb6)
  have K7 := hide (K7.out.keep hb6)
  have K3 := hide (K3.out.keep hb6)
  have K4 := hide (K4.out.keep hb6)
  have FT := hide (FT.out.keep hb6)
  have FO := hide (FO.out.keep hb6)
  have B1 := hide (B1.out.trans (hb6.mono B1.out.size))
  clear hb6 hf6 HF5 e0 e1 u0 u1
  clear K8 HNVX
  go_wp2_with fail
  refine wp_region_noPanic ?_
  refine wp_region_held_drew (S := fun w' => Below W.heap.size W w') (by kernel_rfl) (Below.refl _ _).drew (fun hS => ?_)
  refine wpAnyH_take (i := 0) (v := ?_) (by simp only [List.getElem?_toArray, List.getElem?_cons_zero] <;> exact rfl) (by kernel_rfl) (by kernel_rfl) (by kernel_rfl) (fun _ _ _ h => h) (Or.inl ⟨by rfl, ?_⟩) hS ?_
  rotate_left
  focus (intro w' hw'; have kk := K9.out.keep hw'; have c0 := kk.cell 0; have c1 := kk.cell 1; have c2 := kk.cell 2; simp only [List.getElem?_toArray, List.getElem?_cons_zero, List.getElem?_cons_succ] at c0 c1 c2; go_simp; all_goals with_reducible rfl)
  try simp only [Act.put, List.setIfInBounds_toArray, List.set_cons_zero, List.set_cons_succ]
  refine wpAnyH_take (i := 1) (v := ?_) (by simp only [List.getElem?_toArray, List.getElem?_cons_succ, List.getElem?_cons_zero] <;> exact rfl) (by kernel_rfl) (by kernel_rfl) (by kernel_rfl) (fun _ _ _ h => h) (Or.inl ⟨by rfl, ?_⟩) hS ?_
  rotate_left
  focus (intro w' hw'; have kk := K11.out.keep hw'; have c0 := kk.cell 0; have c1 := kk.cell 1; have c2 := kk.cell 2; simp only [List.getElem?_toArray, List.getElem?_cons_zero, List.getElem?_cons_succ] at c0 c1 c2; go_simp; all_goals with_reducible rfl)
  try simp only [Act.put, List.setIfInBounds_toArray, List.set_cons_zero, List.set_cons_succ]
  refine wpAnyH_take (i := 2) (v := ?_) (by simp only [List.getElem?_toArray, List.getElem?_cons_succ, List.getElem?_cons_zero] <;> exact rfl) (by kernel_rfl) (by kernel_rfl) (by kernel_rfl) (fun _ _ _ h => h) (Or.inl ⟨by rfl, ?_⟩) hS ?_
  rotate_left
  focus (intro w' hw'; go_simp; all_goals with_reducible rfl)
  try simp only [Act.put, List.setIfInBounds_toArray, List.set_cons_zero, List.set_cons_succ]
  refine wpAnyH_take (i := 3) (v := ?_) (by simp only [List.getElem?_toArray, List.getElem?_cons_succ, List.getElem?_cons_zero] <;> exact rfl) (by kernel_rfl) (by kernel_rfl) (by kernel_rfl) (fun _ _ _ h => h) (Or.inl ⟨by rfl, ?_⟩) hS ?_
  rotate_left
  focus (intro w' hw'; go_simp; all_goals with_reducible rfl)
  try simp only [Act.put, List.setIfInBounds_toArray, List.set_cons_zero, List.set_cons_succ]
  refine wpAnyH_take (i := 4) (v := ?_) (by simp only [List.getElem?_toArray, List.getElem?_cons_succ, List.getElem?_cons_zero] <;> exact rfl) (by kernel_rfl) (by kernel_rfl) (by kernel_rfl) (fun _ _ _ h => h) (Or.inl ⟨by rfl, ?_⟩) hS ?_
  rotate_left
  focus (intro w' hw'; go_simp; all_goals with_reducible rfl)
  try simp only [Act.put, List.setIfInBounds_toArray, List.set_cons_zero, List.set_cons_succ]
  refine wpAnyH_take (i := 5) (v := ?_) (by simp only [List.getElem?_toArray, List.getElem?_cons_succ, List.getElem?_cons_zero] <;> exact rfl) (by kernel_rfl) (by kernel_rfl) (by kernel_rfl) (fun _ _ _ h => h) (Or.inl ⟨by rfl, ?_⟩) hS ?_
  rotate_left
  focus (intro w' hw'; go_simp; all_goals with_reducible rfl)
  try simp only [Act.put, List.setIfInBounds_toArray, List.set_cons_zero, List.set_cons_succ]
  refine wpAnyH_take (i := 6) (v := ?_) (by simp only [List.getElem?_toArray, List.getElem?_cons_succ, List.getElem?_cons_zero] <;> exact rfl) (by kernel_rfl) (by kernel_rfl) (by kernel_rfl) (fun _ _ _ h => h) (Or.inl ⟨by rfl, ?_⟩) hS ?_
  rotate_left
  focus (intro w' hw'; go_simp; all_goals with_reducible rfl)
  try simp only [Act.put, List.setIfInBounds_toArray, List.set_cons_zero, List.set_cons_succ]
  refine wpAnyH_take (i := 7) (v := ?_) (by simp only [List.getElem?_toArray, List.getElem?_cons_succ, List.getElem?_cons_zero] <;> exact rfl) (by kernel_rfl) (by kernel_rfl) (by kernel_rfl) (fun _ _ _ h => h) (Or.inl ⟨by rfl, ?_⟩) hS ?_
  rotate_left
  focus (intro w' hw'; go_simp; all_goals with_reducible rfl)
  try simp only [Act.put, List.setIfInBounds_toArray, List.set_cons_zero, List.set_cons_succ]
  refine wpAnyH_take (i := 8) (v := ?_) (by simp only [List.getElem?_toArray, List.getElem?_cons_succ, List.getElem?_cons_zero] <;> exact rfl) (by kernel_rfl) (by kernel_rfl) (by kernel_rfl) (fun _ _ _ h => h) (Or.inl ⟨by rfl, ?_⟩) hS ?_
  rotate_left
  focus (intro w' hw'; go_simp; all_goals with_reducible rfl)
  try simp only [Act.put, List.setIfInBounds_toArray, List.set_cons_zero, List.set_cons_succ]
  refine wpAnyH_take (i := 9) (v := ?_) (by simp only [List.getElem?_toArray, List.getElem?_cons_succ, List.getElem?_cons_zero] <;> exact rfl) (by kernel_rfl) (by kernel_rfl) (by kernel_rfl) (fun _ _ _ h => h) (Or.inl ⟨by rfl, ?_⟩) hS ?_
  rotate_left
  focus (intro w' hw'; go_simp; all_goals with_reducible rfl)
  try simp only [Act.put, List.setIfInBounds_toArray, List.set_cons_zero, List.set_cons_succ]
  refine wpAnyH_take (i := 10) (v := ?_) (by simp only [List.getElem?_toArray, List.getElem?_cons_succ, List.getElem?_cons_zero] <;> exact rfl) (by kernel_rfl) (by kernel_rfl) (by kernel_rfl) (fun _ _ _ h => h) (Or.inl ⟨by rfl, ?_⟩) hS ?_
  rotate_left
  focus (intro w' hw'; go_simp; all_goals with_reducible rfl)
  try simp only [Act.put, List.setIfInBounds_toArray, List.set_cons_zero, List.set_cons_succ]
  refine wpAnyH_take (i := 11) (v := ?_) (by simp only [List.getElem?_toArray, List.getElem?_cons_succ, List.getElem?_cons_zero] <;> exact rfl) (by kernel_rfl) (by kernel_rfl) (by kernel_rfl) (fun _ _ _ h => h) (Or.inl ⟨by rfl, ?_⟩) hS ?_
  rotate_left
  focus (intro w' hw'; go_simp; all_goals with_reducible rfl)
  try simp only [Act.put, List.setIfInBounds_toArray, List.set_cons_zero, List.set_cons_succ]
  refine wpAnyH_take (i := 12) (v := ?_) (by simp only [List.getElem?_toArray, List.getElem?_cons_succ, List.getElem?_cons_zero] <;> exact rfl) (by kernel_rfl) (by kernel_rfl) (by kernel_rfl) (fun _ _ _ h => h) (Or.inl ⟨by rfl, ?_⟩) hS ?_
  rotate_left
  focus (intro w' hw'; go_simp; all_goals with_reducible rfl)
  try simp only [Act.put, List.setIfInBounds_toArray, List.set_cons_zero, List.set_cons_succ]
  refine wpAnyH_take (i := 13) (v := ?_) (by simp only [List.getElem?_toArray, List.getElem?_cons_succ, List.getElem?_cons_zero] <;> exact rfl) (by kernel_rfl) (by kernel_rfl) (by kernel_rfl) (fun _ _ _ h => h) (Or.inl ⟨by rfl, ?_⟩) hS ?_
  rotate_left
  focus (intro w' hw'; go_simp; all_goals with_reducible rfl)
  try simp only [Act.put, List.setIfInBounds_toArray, List.set_cons_zero, List.set_cons_succ]
  refine wpAnyH_take (i := 14) (v := ?_) (by simp only [List.getElem?_toArray, List.getElem?_cons_succ, List.getElem?_cons_zero] <;> exact rfl) (by kernel_rfl) (by kernel_rfl) (by kernel_rfl) (fun _ _ _ h => h) (Or.inl ⟨by rfl, ?_⟩) hS ?_
  rotate_left
  focus (intro w' hw'; go_simp; all_goals with_reducible rfl)
  try simp only [Act.put, List.setIfInBounds_toArray, List.set_cons_zero, List.set_cons_succ]
  refine wpAnyH_take (i := 15) (v := ?_) (by simp only [List.getElem?_toArray, List.getElem?_cons_succ, List.getElem?_cons_zero] <;> exact rfl) (by kernel_rfl) (by kernel_rfl) (by kernel_rfl) (fun _ _ _ h => h) (Or.inl ⟨by rfl, ?_⟩) hS ?_
  rotate_left
  focus (intro w' hw'; go_simp; all_goals with_reducible rfl)
  try simp only [Act.put, List.setIfInBounds_toArray, List.set_cons_zero, List.set_cons_succ]
  refine wpAnyH_take (i := 16) (v := ?_) (by simp only [List.getElem?_toArray, List.getElem?_cons_succ, List.getElem?_cons_zero] <;> exact rfl) (by kernel_rfl) (by kernel_rfl) (by kernel_rfl) (fun _ _ _ h => h) (Or.inl ⟨by rfl, ?_⟩) hS ?_
  rotate_left
  focus (intro w' hw'; go_simp; all_goals with_reducible rfl)
  try simp only [Act.put, List.setIfInBounds_toArray, List.set_cons_zero, List.set_cons_succ]
  refine wpAnyH_take (i := 17) (v := ?_) (by simp only [List.getElem?_toArray, List.getElem?_cons_succ, List.getElem?_cons_zero] <;> exact rfl) (by kernel_rfl) (by kernel_rfl) (by kernel_rfl) (fun _ _ _ h => h) (Or.inl ⟨by rfl, ?_⟩) hS ?_
  rotate_left
  focus (intro w' hw'; go_simp; all_goals with_reducible rfl)
  try simp only [Act.put, List.setIfInBounds_toArray, List.set_cons_zero, List.set_cons_succ]
  refine wpAnyH_take (i := 18) (v := ?_) (by simp only [List.getElem?_toArray, List.getElem?_cons_succ, List.getElem?_cons_zero] <;> exact rfl) (by kernel_rfl) (by kernel_rfl) (by kernel_rfl) (fun _ _ _ h => h) (Or.inl ⟨by rfl, ?_⟩) hS ?_
  rotate_left
  focus (intro w' hw'; go_simp; all_goals with_reducible rfl)
  try simp only [Act.put, List.setIfInBounds_toArray, List.set_cons_zero, List.set_cons_succ]
  refine wpAnyH_take (i := 19) (v := ?_) (by simp only [List.getElem?_toArray, List.getElem?_cons_succ, List.getElem?_cons_zero] <;> exact rfl) (by kernel_rfl) (by kernel_rfl) (by kernel_rfl) (fun _ _ _ h => h) (Or.inl ⟨by rfl, ?_⟩) hS ?_
  rotate_left
  focus (intro w' hw'; have kk := K7.out.keep hw'; have c0 := kk.cell 0; have c1 := kk.cell 1; simp only [List.getElem?_toArray, List.getElem?_cons_zero, List.getElem?_cons_succ] at c0 c1; go_simp; all_goals with_reducible rfl)
  try simp only [Act.put, List.setIfInBounds_toArray, List.set_cons_zero, List.set_cons_succ]
  refine wpAnyH_take (i := 21) (v := ?_) (by simp only [List.getElem?_toArray, List.getElem?_cons_succ, List.getElem?_cons_zero] <;> exact rfl) (by kernel_rfl) (by kernel_rfl) (by kernel_rfl) (fun _ _ _ h => h) (Or.inl ⟨by rfl, ?_⟩) hS ?_
  rotate_left
  focus (intro w' hw'; have kk := K3.out.keep hw'; have c0 := kk.cell 0; have c1 := kk.cell 1; simp only [List.getElem?_toArray, List.getElem?_cons_zero, List.getElem?_cons_succ] at c0 c1; go_simp; all_goals with_reducible rfl)
  try simp only [Act.put, List.setIfInBounds_toArray, List.set_cons_zero, List.set_cons_succ]
  refine wpAnyH_ready (rs := [20]) (by kernel_rfl) (by simp) ?_
  refine AllReadyH.cons (o := _) (by simp only [List.getElem?_toArray, List.getElem?_cons_succ, List.getElem?_cons_zero] <;> exact rfl) (fun K hK => ?_) ?_
  focus (
    go_simp
    go_at_call 12
    refine (dy_Size m A n c l _ (FT.out.keep hS) HS.out).mono ?_
    rintro e wc1 ⟨rfl, hb⟩
    have hS := hS.trans (hb.mono hS.size)
    clear hb
    go_wp2_with fail
    refine hK.out _ _ hS (fun _ => ?_)
    clear hK K
    try simp only [Act.put, List.setIfInBounds_toArray, List.set_cons_zero, List.set_cons_succ])
  rotate_left
  focus (exact AllReadyH.nil)
  refine wpAnyH_ready (rs := [22]) (by kernel_rfl) (by simp) ?_
  refine AllReadyH.cons (o := _) (by simp only [List.getElem?_toArray, List.getElem?_cons_succ, List.getElem?_cons_zero] <;> exact rfl) (fun K hK => ?_) ?_
  focus (
    go_simp
    go_at_call 13
    refine (rf_Size04 m A n c l _ (FT.out.keep hS) HS.out).mono ?_
    rintro e wc2 ⟨rfl, hb⟩
    have hS := hS.trans (hb.mono hS.size)
    clear hb
    go_wp2_with fail
    refine hK.out _ _ hS (fun _ => ?_)
    clear hK K
    try simp only [Act.put, List.setIfInBounds_toArray, List.set_cons_zero, List.set_cons_succ])
  rotate_left
  focus (exact AllReadyH.nil)
  refine wpAnyH_take (i := 23) (v := ?_) (by simp only [List.getElem?_toArray, List.getElem?_cons_succ, List.getElem?_cons_zero] <;> exact rfl) (by kernel_rfl) (by kernel_rfl) (by kernel_rfl) (fun _ _ _ h => h) (Or.inl ⟨by rfl, ?_⟩) hS ?_
  rotate_left
  focus (intro w' hw'; go_simp; all_goals with_reducible rfl)
  try simp only [Act.put, List.setIfInBounds_toArray, List.set_cons_zero, List.set_cons_succ]
  refine wpAnyH_take (i := 24) (v := ?_) (by simp only [List.getElem?_toArray, List.getElem?_cons_succ, List.getElem?_cons_zero] <;> exact rfl) (by kernel_rfl) (by kernel_rfl) (by kernel_rfl) (fun _ _ _ h => h) (Or.inl ⟨by rfl, ?_⟩) hS ?_
  rotate_left
  focus (intro w' hw'; go_simp; all_goals with_reducible rfl)
  try simp only [Act.put, List.setIfInBounds_toArray, List.set_cons_zero, List.set_cons_succ]
  refine wpAnyH_take (i := 25) (v := ?_) (by simp only [List.getElem?_toArray, List.getElem?_cons_succ, List.getElem?_cons_zero] <;> exact rfl) (by kernel_rfl) (by kernel_rfl) (by kernel_rfl) (fun _ _ _ h => h) (Or.inl ⟨by rfl, ?_⟩) hS ?_
  rotate_left
  focus (intro w' hw'; go_simp; all_goals with_reducible rfl)
  try simp only [Act.put, List.setIfInBounds_toArray, List.set_cons_zero, List.set_cons_succ]
  refine wpAnyH_take (i := 26) (v := ?_) (by simp only [List.getElem?_toArray, List.getElem?_cons_succ, List.getElem?_cons_zero] <;> exact rfl) (by kernel_rfl) (by kernel_rfl) (by kernel_rfl) (fun _ _ _ h => h) (Or.inl ⟨by rfl, ?_⟩) hS ?_
  rotate_left
  focus (intro w' hw'; have kk := K7.out.keep hw'; have c0 := kk.cell 0; have c1 := kk.cell 1; simp only [List.getElem?_toArray, List.getElem?_cons_zero, List.getElem?_cons_succ] at c0 c1; go_simp; all_goals with_reducible rfl)
  try simp only [Act.put, List.setIfInBounds_toArray, List.set_cons_zero, List.set_cons_succ]
  refine wpAnyH_take (i := 28) (v := ?_) (by simp only [List.getElem?_toArray, List.getElem?_cons_succ, List.getElem?_cons_zero] <;> exact rfl) (by kernel_rfl) (by kernel_rfl) (by kernel_rfl) (fun _ _ _ h => h) (Or.inl ⟨by rfl, ?_⟩) hS ?_
  rotate_left
  focus (intro w' hw'; have kk := K3.out.keep hw'; have c0 := kk.cell 0; have c1 := kk.cell 1; simp only [List.getElem?_toArray, List.getElem?_cons_zero, List.getElem?_cons_succ] at c0 c1; go_simp; all_goals with_reducible rfl)
  try simp only [Act.put, List.setIfInBounds_toArray, List.set_cons_zero, List.set_cons_succ]
  refine wpAnyH_ready (rs := [27]) (by kernel_rfl) (by simp) ?_
  refine AllReadyH.cons (o := _) (by simp only [List.getElem?_toArray, List.getElem?_cons_succ, List.getElem?_cons_zero] <;> exact rfl) (fun K hK => ?_) ?_
  focus (
    go_simp
    go_at_call 14
    refine (dy_Check m A n c l _ (FT.out.keep hS) HS.out).mono ?_
    rintro e wc3 ⟨rfl, hb⟩
    have hS := hS.trans (hb.mono hS.size)
    clear hb
    go_wp2_with fail
    refine hK.out _ _ hS (fun _ => ?_)
    clear hK K
    try simp only [Act.put, List.setIfInBounds_toArray, List.set_cons_zero, List.set_cons_succ])
  rotate_left
  focus (exact AllReadyH.nil)
  refine wpAnyH_ready (rs := [29]) (by kernel_rfl) (by simp) ?_
  refine AllReadyH.cons (o := _) (by simp only [List.getElem?_toArray, List.getElem?_cons_succ, List.getElem?_cons_zero] <;> exact rfl) (fun K hK => ?_) ?_
  focus (
    go_simp
    go_at_call 15
    refine (rf_Check m A n c l _ (FT.out.keep hS) HS.out).mono ?_
    rintro e wc4 ⟨rfl, hb⟩
    have hS := hS.trans (hb.mono hS.size)
    clear hb
    go_wp2_with fail
    refine hK.out _ _ hS (fun _ => ?_)
    clear hK K
    try simp only [Act.put, List.setIfInBounds_toArray, List.set_cons_zero, List.set_cons_succ])
  rotate_left
  focus (exact AllReadyH.nil)
  refine wpAnyH_take (i := 30) (v := ?_) (by simp only [List.getElem?_toArray, List.getElem?_cons_succ, List.getElem?_cons_zero] <;> exact rfl) (by kernel_rfl) (by kernel_rfl) (by kernel_rfl) (fun _ _ _ h => h) (Or.inl ⟨by rfl, ?_⟩) hS ?_
  rotate_left
  focus (intro w' hw'; go_simp; all_goals with_reducible rfl)
  try simp only [Act.put, List.setIfInBounds_toArray, List.set_cons_zero, List.set_cons_succ]
  refine wpAnyH_take (i := 31) (v := ?_) (by simp only [List.getElem?_toArray, List.getElem?_cons_succ, List.getElem?_cons_zero] <;> exact rfl) (by kernel_rfl) (by kernel_rfl) (by kernel_rfl) (fun _ _ _ h => h) (Or.inl ⟨by rfl, ?_⟩) hS ?_
  rotate_left
  focus (intro w' hw'; go_simp; all_goals with_reducible rfl)
  try simp only [Act.put, List.setIfInBounds_toArray, List.set_cons_zero, List.set_cons_succ]
  refine wpAnyH_take (i := 32) (v := ?_) (by simp only [List.getElem?_toArray, List.getElem?_cons_succ, List.getElem?_cons_zero] <;> exact rfl) (by kernel_rfl) (by kernel_rfl) (by kernel_rfl) (fun _ _ _ h => h) (Or.inl ⟨by rfl, ?_⟩) hS ?_
  rotate_left
  focus (intro w' hw'; go_simp; all_goals with_reducible rfl)
  try simp only [Act.put, List.setIfInBounds_toArray, List.set_cons_zero, List.set_cons_succ]
  refine wpAnyH_take (i := 33) (v := ?_) (by simp only [List.getElem?_toArray, List.getElem?_cons_succ, List.getElem?_cons_zero] <;> exact rfl) (by kernel_rfl) (by kernel_rfl) (by kernel_rfl) (fun _ _ _ h => h) (Or.inl ⟨by rfl, ?_⟩) hS ?_
  rotate_left
  focus (intro w' hw'; have kk := K7.out.keep hw'; have c0 := kk.cell 0; have c1 := kk.cell 1; simp only [List.getElem?_toArray, List.getElem?_cons_zero, List.getElem?_cons_succ] at c0 c1; go_simp; all_goals with_reducible rfl)
  try simp only [Act.put, List.setIfInBounds_toArray, List.set_cons_zero, List.set_cons_succ]
  refine wpAnyH_take (i := 34) (v := ?_) (by simp only [List.getElem?_toArray, List.getElem?_cons_succ, List.getElem?_cons_zero] <;> exact rfl) (by kernel_rfl) (by kernel_rfl) (by kernel_rfl) (fun _ _ _ h => h) (Or.inl ⟨by rfl, ?_⟩) hS ?_
  rotate_left
  focus (intro w' hw'; have kk := K4.out.keep hw'; have c0 := kk.cell 0; have c1 := kk.cell 1; simp only [List.getElem?_toArray, List.getElem?_cons_zero, List.getElem?_cons_succ] at c0 c1; go_simp; all_goals with_reducible rfl)
  try simp only [Act.put, List.setIfInBounds_toArray, List.set_cons_zero, List.set_cons_succ]
  refine wpAnyH_take (i := 36) (v := ?_) (by simp only [List.getElem?_toArray, List.getElem?_cons_succ, List.getElem?_cons_zero] <;> exact rfl) (by kernel_rfl) (by kernel_rfl) (by kernel_rfl) (fun _ _ _ h => h) (Or.inl ⟨by rfl, ?_⟩) hS ?_
  rotate_left
  focus (intro w' hw'; have kk := K3.out.keep hw'; have c0 := kk.cell 0; have c1 := kk.cell 1; simp only [List.getElem?_toArray, List.getElem?_cons_zero, List.getElem?_cons_succ] at c0 c1; go_simp; all_goals with_reducible rfl)
  try simp only [Act.put, List.setIfInBounds_toArray, List.set_cons_zero, List.set_cons_succ]
  refine wpAnyH_take (i := 37) (v := ?_) (by simp only [List.getElem?_toArray, List.getElem?_cons_succ, List.getElem?_cons_zero] <;> exact rfl) (by kernel_rfl) (by kernel_rfl) (by kernel_rfl) (fun _ _ _ h => h) (Or.inl ⟨by rfl, ?_⟩) hS ?_
  rotate_left
  focus (intro w' hw'; have kk := K4.out.keep hw'; have c0 := kk.cell 0; have c1 := kk.cell 1; simp only [List.getElem?_toArray, List.getElem?_cons_zero, List.getElem?_cons_succ] at c0 c1; go_simp; all_goals with_reducible rfl)
  try simp only [Act.put, List.setIfInBounds_toArray, List.set_cons_zero, List.set_cons_succ]
  refine wpAnyH_ready (rs := [35]) (by kernel_rfl) (by simp) ?_
  refine AllReadyH.cons (o := _) (by simp only [List.getElem?_toArray, List.getElem?_cons_succ, List.getElem?_cons_zero] <;> exact rfl) (fun K hK => ?_) ?_
  focus (
    go_simp
    go_at_call 16
    refine (dy_Same m m' A A' n 0 c c' l [] _ (FT.out.keep hS) (FO.out.keep hS) HNN.out.1 HNN.out.2).mono ?_
    rintro e wc5 ⟨rfl, hb⟩
    have hS := hS.trans (hb.mono hS.size)
    clear hb
    go_wp2_with fail
    refine hK.out _ _ hS (fun _ => ?_)
    clear hK K
    try simp only [Act.put, List.setIfInBounds_toArray, List.set_cons_zero, List.set_cons_succ])
  rotate_left
  focus (exact AllReadyH.nil)
  refine wpAnyH_ready (rs := [38]) (by kernel_rfl) (by simp) ?_
  refine AllReadyH.cons (o := _) (by simp only [List.getElem?_toArray, List.getElem?_cons_succ, List.getElem?_cons_zero] <;> exact rfl) (fun K hK => ?_) ?_
  focus (
    go_simp
    go_at_call 17
    refine (rf_Same m m' A A' n 0 c c' l [] _ (FT.out.keep hS) (FO.out.keep hS) HNN.out.1 HNN.out.2).mono ?_
    rintro e wc6 ⟨rfl, hb⟩
    have hS := hS.trans (hb.mono hS.size)
    clear hb
    go_wp2_with fail
    refine hK.out _ _ hS (fun _ => ?_)
    clear hK K
    try simp only [Act.put, List.setIfInBounds_toArray, List.set_cons_zero, List.set_cons_succ])
  rotate_left
  focus (exact AllReadyH.nil)
  refine wpAnyH_take (i := 39) (v := ?_) (by simp only [List.getElem?_toArray, List.getElem?_cons_succ, List.getElem?_cons_zero] <;> exact rfl) (by kernel_rfl) (by kernel_rfl) (by kernel_rfl) (fun _ _ _ h => h) (Or.inl ⟨by rfl, ?_⟩) hS ?_
  rotate_left
  focus (intro w' hw'; go_simp; all_goals with_reducible rfl)
  try simp only [Act.put, List.setIfInBounds_toArray, List.set_cons_zero, List.set_cons_succ]
  refine wpAnyH_take (i := 40) (v := ?_) (by simp only [List.getElem?_toArray, List.getElem?_cons_succ, List.getElem?_cons_zero] <;> exact rfl) (by kernel_rfl) (by kernel_rfl) (by kernel_rfl) (fun _ _ _ h => h) (Or.inl ⟨by rfl, ?_⟩) hS ?_
  rotate_left
  focus (intro w' hw'; go_simp; all_goals with_reducible rfl)
  try simp only [Act.put, List.setIfInBounds_toArray, List.set_cons_zero, List.set_cons_succ]
  refine wpAnyH_take (i := 41) (v := ?_) (by simp only [List.getElem?_toArray, List.getElem?_cons_succ, List.getElem?_cons_zero] <;> exact rfl) (by kernel_rfl) (by kernel_rfl) (by kernel_rfl) (fun _ _ _ h => h) (Or.inl ⟨by rfl, ?_⟩) hS ?_
  rotate_left
  focus (intro w' hw'; go_simp; all_goals with_reducible rfl)
  try simp only [Act.put, List.setIfInBounds_toArray, List.set_cons_zero, List.set_cons_succ]
  refine wpAnyH_ready (rs := [42]) (by kernel_rfl) (by simp) ?_
  refine AllReadyH.cons (o := _) (by simp only [List.getElem?_toArray, List.getElem?_cons_succ, List.getElem?_cons_zero] <;> exact rfl) (fun K hK => ?_) ?_
  focus (
    go_simp
    go_at_call 7
    refine (aw_dyntab _).mono ?_
    rintro e wc7 ⟨rfl, hb⟩
    have hS := hS.trans (hb.mono hS.size)
    clear hb
    go_wp2_with fail
    refine hK.out _ _ hS (fun _ => ?_)
    clear hK K
    try simp only [Act.put, List.setIfInBounds_toArray, List.set_cons_zero, List.set_cons_succ])
  rotate_left
  focus (exact AllReadyH.nil)
  refine wpAnyH_take (i := 43) (v := ?_) (by simp only [List.getElem?_toArray, List.getElem?_cons_succ, List.getElem?_cons_zero] <;> exact rfl) (by kernel_rfl) (by kernel_rfl) (by kernel_rfl) (fun _ _ _ h => h) (Or.inl ⟨by rfl, ?_⟩) hS ?_
  rotate_left
  focus (intro w' hw'; go_simp; all_goals with_reducible rfl)
  try simp only [Act.put, List.setIfInBounds_toArray, List.set_cons_zero, List.set_cons_succ]
  refine wpAnyH_take (i := 44) (v := ?_) (by simp only [List.getElem?_toArray, List.getElem?_cons_succ, List.getElem?_cons_zero] <;> exact rfl) (by kernel_rfl) (by kernel_rfl) (by kernel_rfl) (fun _ _ _ h => h) (Or.inl ⟨by rfl, ?_⟩) hS ?_
  rotate_left
  focus (intro w' hw'; go_simp; all_goals with_reducible rfl)
  try simp only [Act.put, List.setIfInBounds_toArray, List.set_cons_zero, List.set_cons_succ]
  refine wpAnyH_done (by kernel_rfl) ?_ _
  refine NoPanic.normal ?_
  have HB := hide (B1.out.trans (hS.mono B1.out.size))
  clear hS
  go_wp2_with fail
  go_ret
  exact ⟨rfl, HB.out⟩

set_option maxRecDepth 100000 in
set_option maxHeartbeats 6400000 in
theorem walk_cons (m m' : Int) (A : Option Addr) (b0 o0 : Nat) (n n' c c' : Nat) (l r0 : List Fd) (fa fb : ByteArray) (fx : Bool) (i : Int) (hi : i ≤ 9223372036854775807) (w : World) (hfl : FL w A n c l) (hfl' : FL w (some ⟨b0, o0, none⟩) n' c' (⟨fa, fb, fx⟩ :: r0)) (h : lightB l = true) (h2 : lightB (⟨fa, fb, fx⟩ :: r0) = true)  :
    Calls Try.prog 3 #[.agg #[.int .i64 m, .slice A n c], .agg #[.int .i64 m', .slice (some ⟨b0, o0, none⟩) n' c'], .int .i64 i] w fun e w' => e = .returned (.bool true) ∧ Below w.heap.size w w' := by
  have hz := run_zero_is tab_zero
  have hzf := run_zero_is st_zero_raw
  obtain ⟨h30, hsz, -⟩ := light_szs h
  obtain ⟨h30', hsz', -⟩ := light_szs h2
  have hn30 : (n : Int) ≤ 30 := by rw [← hfl.len]; exact h30
  have hn30' : (n' : Int) ≤ 30 := by rw [← hfl'.len]; exact h30'
  have HS := hide (show (szs l : Int) ≤ 1099511627776 by omega)
  have HNN := hide (show (n : Int) ≤ 1099511627776 ∧ (n' : Int) ≤ 1099511627776 by omega)
  have HI := hide hi
  obtain ⟨W, hW⟩ : ∃ W, W = (w.alloc (.cells #[.int .i64 m, .slice A n c] 24)).alloc (.cells #[.int .i64 m', .slice (some ⟨b0, o0, none⟩) n' c'] 24) := ⟨_, rfl⟩
  have B0 := hide (show Below w.heap.size w W by rw [hW]; exact ((Below.refl w.heap.size w).alloc (Nat.le_refl _) _).alloc (by simp) _)
  have K3 := hide (show BlkIs W w.heap.size 24 #[.int .i64 m, .slice A n c] by rw [hW]; exact (BlkIs.new w 24 #[.int .i64 m, .slice A n c]).alloc _)
  have K4 := hide (show BlkIs W (w.heap.size + 1) 24 #[.int .i64 m', .slice (some ⟨b0, o0, none⟩) n' c'] by rw [hW]; exact blk_new2' w _ 24 #[.int .i64 m', .slice (some ⟨b0, o0, none⟩) n' c'])
  have FT := hide (hfl.keep B0.out)
  have FT0 := hide hfl
  have FO0 := hide hfl'
  have hpos : 0 < n' := by have := hfl'.len; simp at this; omega
  have FO := hide (hfl'.keep B0.out)
  have HL := hide (rf_Light A n c l _ FT.out)
  have HL2 := hide (rf_Light (some ⟨b0, o0, none⟩) n' c' (⟨fa, fb, fx⟩ :: r0) _ FO.out)
  rw [h] at HL
  rw [h2] at HL2
  obtain ⟨g, hg⟩ : ∃ g, g = w.heap.size := ⟨_, rfl⟩
  have HG := hide hg
  have HW := hide hW
  have HWS := hide (show W.heap.size = g + 1 + 1 by rw [hW, hg]; simp)
  rw [← hg] at K3 K4
  clear h hfl h2 h30 hsz h30' hsz' hfl' hg hW hi
  go_enter Try.func3, Try.ntmps3
  go_wp2_with fail
  rw [← HW.out, ← HG.out]
  have e1 := K3.out.cell 1
  have e2 := K4.out.cell 1
  have e0 := K3.out.cell 0
  simp only [List.getElem?_toArray, List.getElem?_cons_zero, List.getElem?_cons_succ] at e0 e1 e2
  refine HL.out.mono ?_
  rintro e w2 ⟨rfl, rfl⟩
  go_wp2_with fail
  refine HL2.out.mono ?_
  rintro e w2 ⟨rfl, rfl⟩
  have K30 := K3
  have K40 := K4
  have FT1 := FT
  have FO1 := FO
  have K7 := hide ((BlkIs.new W 27 #[.int .i64 m, .slice A n c]).alloc (.cells #[.string ⟨#[58, 109, 101, 116, 104, 111, 100]⟩, .string ⟨#[80, 85, 84]⟩, .bool false] 29))
  have K8 := hide (blk_new2' W (.cells #[.int .i64 m, .slice A n c] 27) 29 #[.string ⟨#[58, 109, 101, 116, 104, 111, 100]⟩, .string ⟨#[80, 85, 84]⟩, .bool false])
  obtain ⟨g7, hg7⟩ : ∃ g, g = W.heap.size := ⟨_, rfl⟩
  have HG7 := hide (show w.heap.size ≤ g7 by rw [hg7]; exact B0.out.size)
  have HG8 := hide (show g7 = g + 1 + 1 by rw [hg7]; exact HWS.out)
  rw [← hg7] at K7 K8
  have K3 := hide ((K3.out.alloc (.cells #[.int .i64 m, .slice A n c] 27)).alloc (.cells #[.string ⟨#[58, 109, 101, 116, 104, 111, 100]⟩, .string ⟨#[80, 85, 84]⟩, .bool false] 29))
  have K4 := hide ((K4.out.alloc (.cells #[.int .i64 m, .slice A n c] 27)).alloc (.cells #[.string ⟨#[58, 109, 101, 116, 104, 111, 100]⟩, .string ⟨#[80, 85, 84]⟩, .bool false] 29))
  have FT := hide ((FT.out.alloc (.cells #[.int .i64 m, .slice A n c] 27)).alloc (.cells #[.string ⟨#[58, 109, 101, 116, 104, 111, 100]⟩, .string ⟨#[80, 85, 84]⟩, .bool false] 29))
  have FO := hide ((FO.out.alloc (.cells #[.int .i64 m, .slice A n c] 27)).alloc (.cells #[.string ⟨#[58, 109, 101, 116, 104, 111, 100]⟩, .string ⟨#[80, 85, 84]⟩, .bool false] 29))
  have B1 := hide ((B0.out.alloc B0.out.size (.cells #[.int .i64 m, .slice A n c] 27)).alloc (by have := B0.out.size; simp; omega) (.cells #[.string ⟨#[58, 109, 101, 116, 104, 111, 100]⟩, .string ⟨#[80, 85, 84]⟩, .bool false] 29))
  have x0 := K4.out.cell 0
  have x1 := K4.out.cell 1
  have y0 := K3.out.cell 0
  have y1 := K3.out.cell 1
  have t0 := K7.out.cell 0
  have t1 := K7.out.cell 1
  simp only [List.getElem?_toArray, List.getElem?_cons_zero, List.getElem?_cons_succ] at x0 x1 y0 y1 t0 t1
  obtain ⟨v0, v1, v2⟩ := first3 FO.out
  have K7 := hide ((BlkIs.new W 27 #[.int .i64 m, .slice A n c]).alloc (.cells #[.string fa, .string fb, .bool fx] 29))
  have K8 := hide (blk_new2' W (.cells #[.int .i64 m, .slice A n c] 27) 29 #[.string fa, .string fb, .bool fx])
  rw [← hg7] at K7 K8
  have K3 := hide ((K30.out.alloc (.cells #[.int .i64 m, .slice A n c] 27)).alloc (.cells #[.string fa, .string fb, .bool fx] 29))
  have K4 := hide ((K40.out.alloc (.cells #[.int .i64 m, .slice A n c] 27)).alloc (.cells #[.string fa, .string fb, .bool fx] 29))
  have FT := hide ((FT1.out.alloc (.cells #[.int .i64 m, .slice A n c] 27)).alloc (.cells #[.string fa, .string fb, .bool fx] 29))
  have FO := hide ((FO1.out.alloc (.cells #[.int .i64 m, .slice A n c] 27)).alloc (.cells #[.string fa, .string fb, .bool fx] 29))
  have B1 := hide ((B0.out.alloc B0.out.size (.cells #[.int .i64 m, .slice A n c] 27)).alloc (by have := B0.out.size; simp; omega) (.cells #[.string fa, .string fb, .bool fx] 29))
  have p0 := K4.out.cell 0
  have p1 := K4.out.cell 1
  have q0 := K3.out.cell 0
  have q1 := K3.out.cell 1
  have r0' := K7.out.cell 0
  have r1' := K7.out.cell 1
  simp only [List.getElem?_toArray, List.getElem?_cons_zero, List.getElem?_cons_succ] at p0 p1 q0 q1 r0' r1'
  go_wp2_with (first
    | (with_reducible refine wpList_fld2r rfl _ _ _ _ rfl rfl rfl ?_))
  rw [← hg7]
  clear HL HL2 HW HWS B0 hg7 HG8
  obtain ⟨N, V, X, T, HNVX⟩ : ∃ N V X T, Hid (N = (atF l i).n ∧ V = (atF l i).v ∧ X = (atF l i).x ∧ T = atB l i) := ⟨_, _, _, _, hide ⟨rfl, rfl, rfl, rfl⟩⟩
  have HC := dy_At m A n c l _ FT.out HNN.out.1 i HI.out
  unfold AtIs at HC
  rw [← HNVX.out.1, ← HNVX.out.2.1, ← HNVX.out.2.2.1, ← HNVX.out.2.2.2] at HC
  refine HC.mono ?_
  clear HC
  rintro e w3 ⟨rfl, hb3⟩
  have K9 := hide (BlkIs.new w3 29 #[.string N, .string V, .bool X])
  have K7 := hide ((K7.out.keep hb3).alloc (.cells #[.string N, .string V, .bool X] 29))
  have K8 := hide ((K8.out.keep hb3).alloc (.cells #[.string N, .string V, .bool X] 29))
  have K3 := hide ((K3.out.keep hb3).alloc (.cells #[.string N, .string V, .bool X] 29))
  have K4 := hide ((K4.out.keep hb3).alloc (.cells #[.string N, .string V, .bool X] 29))
  have FT := hide ((FT.out.keep hb3).alloc (.cells #[.string N, .string V, .bool X] 29))
  have FO := hide ((FO.out.keep hb3).alloc (.cells #[.string N, .string V, .bool X] 29))
  have B1 := hide ((B1.out.trans (hb3.mono B1.out.size)).alloc (by have h1 := hb3.size; have h2 := B1.out.size; omega) (.cells #[.string N, .string V, .bool X] 29))
  obtain ⟨g9, hg9⟩ : ∃ g, g = w3.heap.size := ⟨_, rfl⟩
  rw [← hg9] at K9
  have e0 := K3.out.cell 0
  have e1 := K3.out.cell 1
  simp only [List.getElem?_toArray, List.getElem?_cons_zero, List.getElem?_cons_succ] at e0 e1
  clear hb3
  go_wp2_with fail
  rw [← hg9]
  clear hg9
  have HC2 := rf_At04 m A n c l _ FT.out HNN.out.1 i HI.out
  unfold AtIs at HC2
  rw [← HNVX.out.1, ← HNVX.out.2.1, ← HNVX.out.2.2.1, ← HNVX.out.2.2.2] at HC2
  refine HC2.mono ?_
  clear HC2
  rintro e w4 ⟨rfl, hb4⟩
  have K11 := hide (BlkIs.new w4 29 #[.string N, .string V, .bool X])
  have K9 := hide ((K9.out.keep hb4).alloc (.cells #[.string N, .string V, .bool X] 29))
  have K7 := hide ((K7.out.keep hb4).alloc (.cells #[.string N, .string V, .bool X] 29))
  have K8 := hide ((K8.out.keep hb4).alloc (.cells #[.string N, .string V, .bool X] 29))
  have K3 := hide ((K3.out.keep hb4).alloc (.cells #[.string N, .string V, .bool X] 29))
  have K4 := hide ((K4.out.keep hb4).alloc (.cells #[.string N, .string V, .bool X] 29))
  have FT := hide ((FT.out.keep hb4).alloc (.cells #[.string N, .string V, .bool X] 29))
  have FO := hide ((FO.out.keep hb4).alloc (.cells #[.string N, .string V, .bool X] 29))
  have B1 := hide ((B1.out.trans (hb4.mono B1.out.size)).alloc (by have h1 := hb4.size; have h2 := B1.out.size; omega) (.cells #[.string N, .string V, .bool X] 29))
  obtain ⟨g11, hg11⟩ : ∃ g, g = w4.heap.size := ⟨_, rfl⟩
  rw [← hg11] at K11
  have e0 := K7.out.cell 0
  have e1 := K7.out.cell 1
  have u0 := K8.out.cell 0
  have u1 := K8.out.cell 1
  simp only [List.getElem?_toArray, List.getElem?_cons_zero, List.getElem?_cons_succ] at e0 e1 u0 u1
  clear hb4
  go_wp2_with fail
  rw [← hg11]
  clear hg11
  refine (dy_Find m A n c l fa fb _ FT.out HNN.out.1).mono ?_
  rintro e w5 ⟨r, b, rfl, hf5, hb5⟩
  have K11 := hide (K11.out.keep hb5)
  have K9 := hide (K9.out.keep hb5)
  have K7 := hide (K7.out.keep hb5)
  have K8 := hide (K8.out.keep hb5)
  have K3 := hide (K3.out.keep hb5)
  have K4 := hide (K4.out.keep hb5)
  have FT := hide (FT.out.keep hb5)
  have FO := hide (FO.out.keep hb5)
  have B1 := hide (B1.out.trans (hb5.mono B1.out.size))
  have HF5 := hide hf5
  have e0 := K3.out.cell 0
  have e1 := K3.out.cell 1
  have u0 := K8.out.cell 0
  have u1 := K8.out.cell 1
  simp only [List.getElem?_toArray, List.getElem?_cons_zero, List.getElem?_cons_succ] at e0 e1 u0 u1
  clear hb5 hf5
  go_wp2_with fail
  refine (rf_Find04 m A n c l fa fb _ FT.out HNN.out.1).mono ?_
  rintro e W ⟨r', b', rfl, hf6, hb6⟩
  obtain ⟨rfl, rfl⟩ := HF5.out.one hf6
  have K11 := hide (K11.out.keep hb6)
  have K9 := hide (K9.out.keep hb6)
  have K7 := hide (K7.out.keep hb6)
  have K3 := hide (K3.out.keep hb6)
  have K4 := hide (K4.out.keep hb6)
  have FT := hide (FT.out.keep hb6)
  have FO := hide (FO.out.keep hb6)
  have B1 := hide (B1.out.trans (hb6.mono B1.out.size))
  clear hb6 hf6 HF5 e0 e1 u0 u1
  clear K8 HNVX
  go_wp2_with fail
  refine wp_region_noPanic ?_
  refine wp_region_held_drew (S := fun w' => Below W.heap.size W w') (by kernel_rfl) (Below.refl _ _).drew (fun hS => ?_)
  refine wpAnyH_take (i := 0) (v := ?_) (by simp only [List.getElem?_toArray, List.getElem?_cons_zero] <;> exact rfl) (by kernel_rfl) (by kernel_rfl) (by kernel_rfl) (fun _ _ _ h => h) (Or.inl ⟨by rfl, ?_⟩) hS ?_
  rotate_left
  focus (intro w' hw'; have kk := K9.out.keep hw'; have c0 := kk.cell 0; have c1 := kk.cell 1; have c2 := kk.cell 2; simp only [List.getElem?_toArray, List.getElem?_cons_zero, List.getElem?_cons_succ] at c0 c1 c2; go_simp; all_goals with_reducible rfl)
  try simp only [Act.put, List.setIfInBounds_toArray, List.set_cons_zero, List.set_cons_succ]
  refine wpAnyH_take (i := 1) (v := ?_) (by simp only [List.getElem?_toArray, List.getElem?_cons_succ, List.getElem?_cons_zero] <;> exact rfl) (by kernel_rfl) (by kernel_rfl) (by kernel_rfl) (fun _ _ _ h => h) (Or.inl ⟨by rfl, ?_⟩) hS ?_
  rotate_left
  focus (intro w' hw'; have kk := K11.out.keep hw'; have c0 := kk.cell 0; have c1 := kk.cell 1; have c2 := kk.cell 2; simp only [List.getElem?_toArray, List.getElem?_cons_zero, List.getElem?_cons_succ] at c0 c1 c2; go_simp; all_goals with_reducible rfl)
  try simp only [Act.put, List.setIfInBounds_toArray, List.set_cons_zero, List.set_cons_succ]
  refine wpAnyH_take (i := 2) (v := ?_) (by simp only [List.getElem?_toArray, List.getElem?_cons_succ, List.getElem?_cons_zero] <;> exact rfl) (by kernel_rfl) (by kernel_rfl) (by kernel_rfl) (fun _ _ _ h => h) (Or.inl ⟨by rfl, ?_⟩) hS ?_
  rotate_left
  focus (intro w' hw'; go_simp; all_goals with_reducible rfl)
  try simp only [Act.put, List.setIfInBounds_toArray, List.set_cons_zero, List.set_cons_succ]
  refine wpAnyH_take (i := 3) (v := ?_) (by simp only [List.getElem?_toArray, List.getElem?_cons_succ, List.getElem?_cons_zero] <;> exact rfl) (by kernel_rfl) (by kernel_rfl) (by kernel_rfl) (fun _ _ _ h => h) (Or.inl ⟨by rfl, ?_⟩) hS ?_
  rotate_left
  focus (intro w' hw'; go_simp; all_goals with_reducible rfl)
  try simp only [Act.put, List.setIfInBounds_toArray, List.set_cons_zero, List.set_cons_succ]
  refine wpAnyH_take (i := 4) (v := ?_) (by simp only [List.getElem?_toArray, List.getElem?_cons_succ, List.getElem?_cons_zero] <;> exact rfl) (by kernel_rfl) (by kernel_rfl) (by kernel_rfl) (fun _ _ _ h => h) (Or.inl ⟨by rfl, ?_⟩) hS ?_
  rotate_left
  focus (intro w' hw'; go_simp; all_goals with_reducible rfl)
  try simp only [Act.put, List.setIfInBounds_toArray, List.set_cons_zero, List.set_cons_succ]
  refine wpAnyH_take (i := 5) (v := ?_) (by simp only [List.getElem?_toArray, List.getElem?_cons_succ, List.getElem?_cons_zero] <;> exact rfl) (by kernel_rfl) (by kernel_rfl) (by kernel_rfl) (fun _ _ _ h => h) (Or.inl ⟨by rfl, ?_⟩) hS ?_
  rotate_left
  focus (intro w' hw'; go_simp; all_goals with_reducible rfl)
  try simp only [Act.put, List.setIfInBounds_toArray, List.set_cons_zero, List.set_cons_succ]
  refine wpAnyH_take (i := 6) (v := ?_) (by simp only [List.getElem?_toArray, List.getElem?_cons_succ, List.getElem?_cons_zero] <;> exact rfl) (by kernel_rfl) (by kernel_rfl) (by kernel_rfl) (fun _ _ _ h => h) (Or.inl ⟨by rfl, ?_⟩) hS ?_
  rotate_left
  focus (intro w' hw'; go_simp; all_goals with_reducible rfl)
  try simp only [Act.put, List.setIfInBounds_toArray, List.set_cons_zero, List.set_cons_succ]
  refine wpAnyH_take (i := 7) (v := ?_) (by simp only [List.getElem?_toArray, List.getElem?_cons_succ, List.getElem?_cons_zero] <;> exact rfl) (by kernel_rfl) (by kernel_rfl) (by kernel_rfl) (fun _ _ _ h => h) (Or.inl ⟨by rfl, ?_⟩) hS ?_
  rotate_left
  focus (intro w' hw'; go_simp; all_goals with_reducible rfl)
  try simp only [Act.put, List.setIfInBounds_toArray, List.set_cons_zero, List.set_cons_succ]
  refine wpAnyH_take (i := 8) (v := ?_) (by simp only [List.getElem?_toArray, List.getElem?_cons_succ, List.getElem?_cons_zero] <;> exact rfl) (by kernel_rfl) (by kernel_rfl) (by kernel_rfl) (fun _ _ _ h => h) (Or.inl ⟨by rfl, ?_⟩) hS ?_
  rotate_left
  focus (intro w' hw'; go_simp; all_goals with_reducible rfl)
  try simp only [Act.put, List.setIfInBounds_toArray, List.set_cons_zero, List.set_cons_succ]
  refine wpAnyH_take (i := 9) (v := ?_) (by simp only [List.getElem?_toArray, List.getElem?_cons_succ, List.getElem?_cons_zero] <;> exact rfl) (by kernel_rfl) (by kernel_rfl) (by kernel_rfl) (fun _ _ _ h => h) (Or.inl ⟨by rfl, ?_⟩) hS ?_
  rotate_left
  focus (intro w' hw'; go_simp; all_goals with_reducible rfl)
  try simp only [Act.put, List.setIfInBounds_toArray, List.set_cons_zero, List.set_cons_succ]
  refine wpAnyH_take (i := 10) (v := ?_) (by simp only [List.getElem?_toArray, List.getElem?_cons_succ, List.getElem?_cons_zero] <;> exact rfl) (by kernel_rfl) (by kernel_rfl) (by kernel_rfl) (fun _ _ _ h => h) (Or.inl ⟨by rfl, ?_⟩) hS ?_
  rotate_left
  focus (intro w' hw'; go_simp; all_goals with_reducible rfl)
  try simp only [Act.put, List.setIfInBounds_toArray, List.set_cons_zero, List.set_cons_succ]
  refine wpAnyH_take (i := 11) (v := ?_) (by simp only [List.getElem?_toArray, List.getElem?_cons_succ, List.getElem?_cons_zero] <;> exact rfl) (by kernel_rfl) (by kernel_rfl) (by kernel_rfl) (fun _ _ _ h => h) (Or.inl ⟨by rfl, ?_⟩) hS ?_
  rotate_left
  focus (intro w' hw'; go_simp; all_goals with_reducible rfl)
  try simp only [Act.put, List.setIfInBounds_toArray, List.set_cons_zero, List.set_cons_succ]
  refine wpAnyH_take (i := 12) (v := ?_) (by simp only [List.getElem?_toArray, List.getElem?_cons_succ, List.getElem?_cons_zero] <;> exact rfl) (by kernel_rfl) (by kernel_rfl) (by kernel_rfl) (fun _ _ _ h => h) (Or.inl ⟨by rfl, ?_⟩) hS ?_
  rotate_left
  focus (intro w' hw'; go_simp; all_goals with_reducible rfl)
  try simp only [Act.put, List.setIfInBounds_toArray, List.set_cons_zero, List.set_cons_succ]
  refine wpAnyH_take (i := 13) (v := ?_) (by simp only [List.getElem?_toArray, List.getElem?_cons_succ, List.getElem?_cons_zero] <;> exact rfl) (by kernel_rfl) (by kernel_rfl) (by kernel_rfl) (fun _ _ _ h => h) (Or.inl ⟨by rfl, ?_⟩) hS ?_
  rotate_left
  focus (intro w' hw'; go_simp; all_goals with_reducible rfl)
  try simp only [Act.put, List.setIfInBounds_toArray, List.set_cons_zero, List.set_cons_succ]
  refine wpAnyH_take (i := 14) (v := ?_) (by simp only [List.getElem?_toArray, List.getElem?_cons_succ, List.getElem?_cons_zero] <;> exact rfl) (by kernel_rfl) (by kernel_rfl) (by kernel_rfl) (fun _ _ _ h => h) (Or.inl ⟨by rfl, ?_⟩) hS ?_
  rotate_left
  focus (intro w' hw'; go_simp; all_goals with_reducible rfl)
  try simp only [Act.put, List.setIfInBounds_toArray, List.set_cons_zero, List.set_cons_succ]
  refine wpAnyH_take (i := 15) (v := ?_) (by simp only [List.getElem?_toArray, List.getElem?_cons_succ, List.getElem?_cons_zero] <;> exact rfl) (by kernel_rfl) (by kernel_rfl) (by kernel_rfl) (fun _ _ _ h => h) (Or.inl ⟨by rfl, ?_⟩) hS ?_
  rotate_left
  focus (intro w' hw'; go_simp; all_goals with_reducible rfl)
  try simp only [Act.put, List.setIfInBounds_toArray, List.set_cons_zero, List.set_cons_succ]
  refine wpAnyH_take (i := 16) (v := ?_) (by simp only [List.getElem?_toArray, List.getElem?_cons_succ, List.getElem?_cons_zero] <;> exact rfl) (by kernel_rfl) (by kernel_rfl) (by kernel_rfl) (fun _ _ _ h => h) (Or.inl ⟨by rfl, ?_⟩) hS ?_
  rotate_left
  focus (intro w' hw'; go_simp; all_goals with_reducible rfl)
  try simp only [Act.put, List.setIfInBounds_toArray, List.set_cons_zero, List.set_cons_succ]
  refine wpAnyH_take (i := 17) (v := ?_) (by simp only [List.getElem?_toArray, List.getElem?_cons_succ, List.getElem?_cons_zero] <;> exact rfl) (by kernel_rfl) (by kernel_rfl) (by kernel_rfl) (fun _ _ _ h => h) (Or.inl ⟨by rfl, ?_⟩) hS ?_
  rotate_left
  focus (intro w' hw'; go_simp; all_goals with_reducible rfl)
  try simp only [Act.put, List.setIfInBounds_toArray, List.set_cons_zero, List.set_cons_succ]
  refine wpAnyH_take (i := 18) (v := ?_) (by simp only [List.getElem?_toArray, List.getElem?_cons_succ, List.getElem?_cons_zero] <;> exact rfl) (by kernel_rfl) (by kernel_rfl) (by kernel_rfl) (fun _ _ _ h => h) (Or.inl ⟨by rfl, ?_⟩) hS ?_
  rotate_left
  focus (intro w' hw'; go_simp; all_goals with_reducible rfl)
  try simp only [Act.put, List.setIfInBounds_toArray, List.set_cons_zero, List.set_cons_succ]
  refine wpAnyH_take (i := 19) (v := ?_) (by simp only [List.getElem?_toArray, List.getElem?_cons_succ, List.getElem?_cons_zero] <;> exact rfl) (by kernel_rfl) (by kernel_rfl) (by kernel_rfl) (fun _ _ _ h => h) (Or.inl ⟨by rfl, ?_⟩) hS ?_
  rotate_left
  focus (intro w' hw'; have kk := K7.out.keep hw'; have c0 := kk.cell 0; have c1 := kk.cell 1; simp only [List.getElem?_toArray, List.getElem?_cons_zero, List.getElem?_cons_succ] at c0 c1; go_simp; all_goals with_reducible rfl)
  try simp only [Act.put, List.setIfInBounds_toArray, List.set_cons_zero, List.set_cons_succ]
  refine wpAnyH_take (i := 21) (v := ?_) (by simp only [List.getElem?_toArray, List.getElem?_cons_succ, List.getElem?_cons_zero] <;> exact rfl) (by kernel_rfl) (by kernel_rfl) (by kernel_rfl) (fun _ _ _ h => h) (Or.inl ⟨by rfl, ?_⟩) hS ?_
  rotate_left
  focus (intro w' hw'; have kk := K3.out.keep hw'; have c0 := kk.cell 0; have c1 := kk.cell 1; simp only [List.getElem?_toArray, List.getElem?_cons_zero, List.getElem?_cons_succ] at c0 c1; go_simp; all_goals with_reducible rfl)
  try simp only [Act.put, List.setIfInBounds_toArray, List.set_cons_zero, List.set_cons_succ]
  refine wpAnyH_ready (rs := [20]) (by kernel_rfl) (by simp) ?_
  refine AllReadyH.cons (o := _) (by simp only [List.getElem?_toArray, List.getElem?_cons_succ, List.getElem?_cons_zero] <;> exact rfl) (fun K hK => ?_) ?_
  focus (
    go_simp
    go_at_call 12
    refine (dy_Size m A n c l _ (FT.out.keep hS) HS.out).mono ?_
    rintro e wc1 ⟨rfl, hb⟩
    have hS := hS.trans (hb.mono hS.size)
    clear hb
    go_wp2_with fail
    refine hK.out _ _ hS (fun _ => ?_)
    clear hK K
    try simp only [Act.put, List.setIfInBounds_toArray, List.set_cons_zero, List.set_cons_succ])
  rotate_left
  focus (exact AllReadyH.nil)
  refine wpAnyH_ready (rs := [22]) (by kernel_rfl) (by simp) ?_
  refine AllReadyH.cons (o := _) (by simp only [List.getElem?_toArray, List.getElem?_cons_succ, List.getElem?_cons_zero] <;> exact rfl) (fun K hK => ?_) ?_
  focus (
    go_simp
    go_at_call 13
    refine (rf_Size04 m A n c l _ (FT.out.keep hS) HS.out).mono ?_
    rintro e wc2 ⟨rfl, hb⟩
    have hS := hS.trans (hb.mono hS.size)
    clear hb
    go_wp2_with fail
    refine hK.out _ _ hS (fun _ => ?_)
    clear hK K
    try simp only [Act.put, List.setIfInBounds_toArray, List.set_cons_zero, List.set_cons_succ])
  rotate_left
  focus (exact AllReadyH.nil)
  refine wpAnyH_take (i := 23) (v := ?_) (by simp only [List.getElem?_toArray, List.getElem?_cons_succ, List.getElem?_cons_zero] <;> exact rfl) (by kernel_rfl) (by kernel_rfl) (by kernel_rfl) (fun _ _ _ h => h) (Or.inl ⟨by rfl, ?_⟩) hS ?_
  rotate_left
  focus (intro w' hw'; go_simp; all_goals with_reducible rfl)
  try simp only [Act.put, List.setIfInBounds_toArray, List.set_cons_zero, List.set_cons_succ]
  refine wpAnyH_take (i := 24) (v := ?_) (by simp only [List.getElem?_toArray, List.getElem?_cons_succ, List.getElem?_cons_zero] <;> exact rfl) (by kernel_rfl) (by kernel_rfl) (by kernel_rfl) (fun _ _ _ h => h) (Or.inl ⟨by rfl, ?_⟩) hS ?_
  rotate_left
  focus (intro w' hw'; go_simp; all_goals with_reducible rfl)
  try simp only [Act.put, List.setIfInBounds_toArray, List.set_cons_zero, List.set_cons_succ]
  refine wpAnyH_take (i := 25) (v := ?_) (by simp only [List.getElem?_toArray, List.getElem?_cons_succ, List.getElem?_cons_zero] <;> exact rfl) (by kernel_rfl) (by kernel_rfl) (by kernel_rfl) (fun _ _ _ h => h) (Or.inl ⟨by rfl, ?_⟩) hS ?_
  rotate_left
  focus (intro w' hw'; go_simp; all_goals with_reducible rfl)
  try simp only [Act.put, List.setIfInBounds_toArray, List.set_cons_zero, List.set_cons_succ]
  refine wpAnyH_take (i := 26) (v := ?_) (by simp only [List.getElem?_toArray, List.getElem?_cons_succ, List.getElem?_cons_zero] <;> exact rfl) (by kernel_rfl) (by kernel_rfl) (by kernel_rfl) (fun _ _ _ h => h) (Or.inl ⟨by rfl, ?_⟩) hS ?_
  rotate_left
  focus (intro w' hw'; have kk := K7.out.keep hw'; have c0 := kk.cell 0; have c1 := kk.cell 1; simp only [List.getElem?_toArray, List.getElem?_cons_zero, List.getElem?_cons_succ] at c0 c1; go_simp; all_goals with_reducible rfl)
  try simp only [Act.put, List.setIfInBounds_toArray, List.set_cons_zero, List.set_cons_succ]
  refine wpAnyH_take (i := 28) (v := ?_) (by simp only [List.getElem?_toArray, List.getElem?_cons_succ, List.getElem?_cons_zero] <;> exact rfl) (by kernel_rfl) (by kernel_rfl) (by kernel_rfl) (fun _ _ _ h => h) (Or.inl ⟨by rfl, ?_⟩) hS ?_
  rotate_left
  focus (intro w' hw'; have kk := K3.out.keep hw'; have c0 := kk.cell 0; have c1 := kk.cell 1; simp only [List.getElem?_toArray, List.getElem?_cons_zero, List.getElem?_cons_succ] at c0 c1; go_simp; all_goals with_reducible rfl)
  try simp only [Act.put, List.setIfInBounds_toArray, List.set_cons_zero, List.set_cons_succ]
  refine wpAnyH_ready (rs := [27]) (by kernel_rfl) (by simp) ?_
  refine AllReadyH.cons (o := _) (by simp only [List.getElem?_toArray, List.getElem?_cons_succ, List.getElem?_cons_zero] <;> exact rfl) (fun K hK => ?_) ?_
  focus (
    go_simp
    go_at_call 14
    refine (dy_Check m A n c l _ (FT.out.keep hS) HS.out).mono ?_
    rintro e wc3 ⟨rfl, hb⟩
    have hS := hS.trans (hb.mono hS.size)
    clear hb
    go_wp2_with fail
    refine hK.out _ _ hS (fun _ => ?_)
    clear hK K
    try simp only [Act.put, List.setIfInBounds_toArray, List.set_cons_zero, List.set_cons_succ])
  rotate_left
  focus (exact AllReadyH.nil)
  refine wpAnyH_ready (rs := [29]) (by kernel_rfl) (by simp) ?_
  refine AllReadyH.cons (o := _) (by simp only [List.getElem?_toArray, List.getElem?_cons_succ, List.getElem?_cons_zero] <;> exact rfl) (fun K hK => ?_) ?_
  focus (
    go_simp
    go_at_call 15
    refine (rf_Check m A n c l _ (FT.out.keep hS) HS.out).mono ?_
    rintro e wc4 ⟨rfl, hb⟩
    have hS := hS.trans (hb.mono hS.size)
    clear hb
    go_wp2_with fail
    refine hK.out _ _ hS (fun _ => ?_)
    clear hK K
    try simp only [Act.put, List.setIfInBounds_toArray, List.set_cons_zero, List.set_cons_succ])
  rotate_left
  focus (exact AllReadyH.nil)
  refine wpAnyH_take (i := 30) (v := ?_) (by simp only [List.getElem?_toArray, List.getElem?_cons_succ, List.getElem?_cons_zero] <;> exact rfl) (by kernel_rfl) (by kernel_rfl) (by kernel_rfl) (fun _ _ _ h => h) (Or.inl ⟨by rfl, ?_⟩) hS ?_
  rotate_left
  focus (intro w' hw'; go_simp; all_goals with_reducible rfl)
  try simp only [Act.put, List.setIfInBounds_toArray, List.set_cons_zero, List.set_cons_succ]
  refine wpAnyH_take (i := 31) (v := ?_) (by simp only [List.getElem?_toArray, List.getElem?_cons_succ, List.getElem?_cons_zero] <;> exact rfl) (by kernel_rfl) (by kernel_rfl) (by kernel_rfl) (fun _ _ _ h => h) (Or.inl ⟨by rfl, ?_⟩) hS ?_
  rotate_left
  focus (intro w' hw'; go_simp; all_goals with_reducible rfl)
  try simp only [Act.put, List.setIfInBounds_toArray, List.set_cons_zero, List.set_cons_succ]
  refine wpAnyH_take (i := 32) (v := ?_) (by simp only [List.getElem?_toArray, List.getElem?_cons_succ, List.getElem?_cons_zero] <;> exact rfl) (by kernel_rfl) (by kernel_rfl) (by kernel_rfl) (fun _ _ _ h => h) (Or.inl ⟨by rfl, ?_⟩) hS ?_
  rotate_left
  focus (intro w' hw'; go_simp; all_goals with_reducible rfl)
  try simp only [Act.put, List.setIfInBounds_toArray, List.set_cons_zero, List.set_cons_succ]
  refine wpAnyH_take (i := 33) (v := ?_) (by simp only [List.getElem?_toArray, List.getElem?_cons_succ, List.getElem?_cons_zero] <;> exact rfl) (by kernel_rfl) (by kernel_rfl) (by kernel_rfl) (fun _ _ _ h => h) (Or.inl ⟨by rfl, ?_⟩) hS ?_
  rotate_left
  focus (intro w' hw'; have kk := K7.out.keep hw'; have c0 := kk.cell 0; have c1 := kk.cell 1; simp only [List.getElem?_toArray, List.getElem?_cons_zero, List.getElem?_cons_succ] at c0 c1; go_simp; all_goals with_reducible rfl)
  try simp only [Act.put, List.setIfInBounds_toArray, List.set_cons_zero, List.set_cons_succ]
  refine wpAnyH_take (i := 34) (v := ?_) (by simp only [List.getElem?_toArray, List.getElem?_cons_succ, List.getElem?_cons_zero] <;> exact rfl) (by kernel_rfl) (by kernel_rfl) (by kernel_rfl) (fun _ _ _ h => h) (Or.inl ⟨by rfl, ?_⟩) hS ?_
  rotate_left
  focus (intro w' hw'; have kk := K4.out.keep hw'; have c0 := kk.cell 0; have c1 := kk.cell 1; simp only [List.getElem?_toArray, List.getElem?_cons_zero, List.getElem?_cons_succ] at c0 c1; go_simp; all_goals with_reducible rfl)
  try simp only [Act.put, List.setIfInBounds_toArray, List.set_cons_zero, List.set_cons_succ]
  refine wpAnyH_take (i := 36) (v := ?_) (by simp only [List.getElem?_toArray, List.getElem?_cons_succ, List.getElem?_cons_zero] <;> exact rfl) (by kernel_rfl) (by kernel_rfl) (by kernel_rfl) (fun _ _ _ h => h) (Or.inl ⟨by rfl, ?_⟩) hS ?_
  rotate_left
  focus (intro w' hw'; have kk := K3.out.keep hw'; have c0 := kk.cell 0; have c1 := kk.cell 1; simp only [List.getElem?_toArray, List.getElem?_cons_zero, List.getElem?_cons_succ] at c0 c1; go_simp; all_goals with_reducible rfl)
  try simp only [Act.put, List.setIfInBounds_toArray, List.set_cons_zero, List.set_cons_succ]
  refine wpAnyH_take (i := 37) (v := ?_) (by simp only [List.getElem?_toArray, List.getElem?_cons_succ, List.getElem?_cons_zero] <;> exact rfl) (by kernel_rfl) (by kernel_rfl) (by kernel_rfl) (fun _ _ _ h => h) (Or.inl ⟨by rfl, ?_⟩) hS ?_
  rotate_left
  focus (intro w' hw'; have kk := K4.out.keep hw'; have c0 := kk.cell 0; have c1 := kk.cell 1; simp only [List.getElem?_toArray, List.getElem?_cons_zero, List.getElem?_cons_succ] at c0 c1; go_simp; all_goals with_reducible rfl)
  try simp only [Act.put, List.setIfInBounds_toArray, List.set_cons_zero, List.set_cons_succ]
  refine wpAnyH_ready (rs := [35]) (by kernel_rfl) (by simp) ?_
  refine AllReadyH.cons (o := _) (by simp only [List.getElem?_toArray, List.getElem?_cons_succ, List.getElem?_cons_zero] <;> exact rfl) (fun K hK => ?_) ?_
  focus (
    go_simp
    go_at_call 16
    refine (dy_Same m m' A (some ⟨b0, o0, none⟩) n n' c c' l (⟨fa, fb, fx⟩ :: r0) _ (FT.out.keep hS) (FO.out.keep hS) HNN.out.1 HNN.out.2).mono ?_
    rintro e wc5 ⟨rfl, hb⟩
    have hS := hS.trans (hb.mono hS.size)
    clear hb
    go_wp2_with fail
    refine hK.out _ _ hS (fun _ => ?_)
    clear hK K
    try simp only [Act.put, List.setIfInBounds_toArray, List.set_cons_zero, List.set_cons_succ])
  rotate_left
  focus (exact AllReadyH.nil)
  refine wpAnyH_ready (rs := [38]) (by kernel_rfl) (by simp) ?_
  refine AllReadyH.cons (o := _) (by simp only [List.getElem?_toArray, List.getElem?_cons_succ, List.getElem?_cons_zero] <;> exact rfl) (fun K hK => ?_) ?_
  focus (
    go_simp
    go_at_call 17
    refine (rf_Same m m' A (some ⟨b0, o0, none⟩) n n' c c' l (⟨fa, fb, fx⟩ :: r0) _ (FT.out.keep hS) (FO.out.keep hS) HNN.out.1 HNN.out.2).mono ?_
    rintro e wc6 ⟨rfl, hb⟩
    have hS := hS.trans (hb.mono hS.size)
    clear hb
    go_wp2_with fail
    refine hK.out _ _ hS (fun _ => ?_)
    clear hK K
    try simp only [Act.put, List.setIfInBounds_toArray, List.set_cons_zero, List.set_cons_succ])
  rotate_left
  focus (exact AllReadyH.nil)
  refine wpAnyH_take (i := 39) (v := ?_) (by simp only [List.getElem?_toArray, List.getElem?_cons_succ, List.getElem?_cons_zero] <;> exact rfl) (by kernel_rfl) (by kernel_rfl) (by kernel_rfl) (fun _ _ _ h => h) (Or.inl ⟨by rfl, ?_⟩) hS ?_
  rotate_left
  focus (intro w' hw'; go_simp; all_goals with_reducible rfl)
  try simp only [Act.put, List.setIfInBounds_toArray, List.set_cons_zero, List.set_cons_succ]
  refine wpAnyH_take (i := 40) (v := ?_) (by simp only [List.getElem?_toArray, List.getElem?_cons_succ, List.getElem?_cons_zero] <;> exact rfl) (by kernel_rfl) (by kernel_rfl) (by kernel_rfl) (fun _ _ _ h => h) (Or.inl ⟨by rfl, ?_⟩) hS ?_
  rotate_left
  focus (intro w' hw'; go_simp; all_goals with_reducible rfl)
  try simp only [Act.put, List.setIfInBounds_toArray, List.set_cons_zero, List.set_cons_succ]
  refine wpAnyH_take (i := 41) (v := ?_) (by simp only [List.getElem?_toArray, List.getElem?_cons_succ, List.getElem?_cons_zero] <;> exact rfl) (by kernel_rfl) (by kernel_rfl) (by kernel_rfl) (fun _ _ _ h => h) (Or.inl ⟨by rfl, ?_⟩) hS ?_
  rotate_left
  focus (intro w' hw'; go_simp; all_goals with_reducible rfl)
  try simp only [Act.put, List.setIfInBounds_toArray, List.set_cons_zero, List.set_cons_succ]
  refine wpAnyH_ready (rs := [42]) (by kernel_rfl) (by simp) ?_
  refine AllReadyH.cons (o := _) (by simp only [List.getElem?_toArray, List.getElem?_cons_succ, List.getElem?_cons_zero] <;> exact rfl) (fun K hK => ?_) ?_
  focus (
    go_simp
    go_at_call 7
    refine (aw_dyntab _).mono ?_
    rintro e wc7 ⟨rfl, hb⟩
    have hS := hS.trans (hb.mono hS.size)
    clear hb
    go_wp2_with fail
    refine hK.out _ _ hS (fun _ => ?_)
    clear hK K
    try simp only [Act.put, List.setIfInBounds_toArray, List.set_cons_zero, List.set_cons_succ])
  rotate_left
  focus (exact AllReadyH.nil)
  refine wpAnyH_take (i := 43) (v := ?_) (by simp only [List.getElem?_toArray, List.getElem?_cons_succ, List.getElem?_cons_zero] <;> exact rfl) (by kernel_rfl) (by kernel_rfl) (by kernel_rfl) (fun _ _ _ h => h) (Or.inl ⟨by rfl, ?_⟩) hS ?_
  rotate_left
  focus (intro w' hw'; go_simp; all_goals with_reducible rfl)
  try simp only [Act.put, List.setIfInBounds_toArray, List.set_cons_zero, List.set_cons_succ]
  refine wpAnyH_take (i := 44) (v := ?_) (by simp only [List.getElem?_toArray, List.getElem?_cons_succ, List.getElem?_cons_zero] <;> exact rfl) (by kernel_rfl) (by kernel_rfl) (by kernel_rfl) (fun _ _ _ h => h) (Or.inl ⟨by rfl, ?_⟩) hS ?_
  rotate_left
  focus (intro w' hw'; go_simp; all_goals with_reducible rfl)
  try simp only [Act.put, List.setIfInBounds_toArray, List.set_cons_zero, List.set_cons_succ]
  refine wpAnyH_done (by kernel_rfl) ?_ _
  refine NoPanic.normal ?_
  have HB := hide (B1.out.trans (hS.mono B1.out.size))
  clear hS
  go_wp2_with fail
  go_ret
  exact ⟨rfl, HB.out⟩

theorem walk (m : Int) (A : Option Addr) (n c : Nat) (l : List Fd) (m' : Int) (A' : Option Addr) (n' c' : Nat) (l' : List Fd) (i : Int) (w : World) (_w0 : (Lit.int .i64 m).wf = true) (hfl : FL w A n c l) (_w1 : (Lit.int .i64 m').wf = true) (hfl' : FL w A' n' c' l') (w2 : (Lit.int .i64 i).wf = true) :
    Calls Try.prog 3 #[.agg #[.int .i64 m, .slice A n c], .agg #[.int .i64 m', .slice A' n' c'], .int .i64 i] w fun e w' => e = .returned (.bool true) ∧ Below w.heap.size w w' := by
  cases h : lightB l with
  | false => exact walk_long m m' A A' n n' c c' l l' i w hfl h
  | true =>
    cases h2 : lightB l' with
    | false => exact walk_long2 m m' A A' n n' c c' l l' i w hfl hfl' h h2
    | true =>
      have hi := (Go.bounds_i64 w2).2
      cases l' with
      | nil =>
        have hn : n' = 0 := by have := hfl'.len; simpa using this.symm
        subst hn
        exact walk_nil m m' A A' n c c' l i (by omega) w hfl hfl' h h2
      | cons f r0 =>
        obtain ⟨fa, fb, fx⟩ := f
        obtain ⟨b0, o0, rfl⟩ := hfl'.form
        exact walk_cons m m' A b0 o0 n n' c c' l r0 fa fb fx i (by omega) w hfl hfl' h h2
end Go.Proofs.Ytchndegcnjejiaa.dyntabFinds
