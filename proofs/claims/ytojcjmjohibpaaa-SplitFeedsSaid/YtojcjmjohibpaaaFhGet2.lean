/-
  Layer 8: the document's Get; both for whatever bytes.
-/
import Derived.Test.YtojcjmjohibpaaaFhGet
import Derived.Test.YtojcjmjohibpaaaFhNumR
namespace Go.Proofs.Ytojcjmjohibpaaa
set_option linter.unusedSimpArgs false
set_option linter.unusedVariables false
open Go.RowKit

/-- What stands all through the region: all is as it was but the answer's block, which holds four cells. -/
def GetR (w1 : World) (g : Nat) (w' : World) : Prop := KB (· = g) w1 w' ∧ ∃ a b c d, BlkIs w' g 46 #[a, b, c, d]
section
variable {w1 w w' : World} {g : Nat} {a b c d : Value}
theorem GetR.start (h : BlkIs w1 g 46 #[a, b, c, d]) : GetR w1 g w1.drew := ⟨(KB.refl _ _).drew, _, _, _, _, h.drew⟩
theorem GetR.store (h : GetR w1 g w) (hk : BlkIs w g 46 #[a, b, c, d]) (p q r s : Value) :
    GetR w1 g ((((w.setCell ⟨g, 0, none⟩ p).setCell ⟨g, 1, none⟩ q).setCell ⟨g, 2, none⟩ r).setCell ⟨g, 3, none⟩ s) :=
  ⟨(((h.1.setCell (fun _ => rfl) _).setCell (fun _ => rfl) _).setCell (fun _ => rfl) _).setCell (fun _ => rfl) _, p, q, r, s, (((hk.put 0 p).put 1 q).put 2 r).put 3 s⟩
theorem GetR.below {B : Nat} (h : GetR w1 g w') (hb : Below B w w1) (hg : B ≤ g) (hB : w.heap.size ≤ w1.heap.size) (hBw : B ≤ w.heap.size := by exact Nat.le_refl _) : Below B w w' :=
  hb.trans (h.1.below (Nat.le_trans hBw hB) (fun k hk => by subst hk; exact hg))
end

set_option maxRecDepth 100000 in
set_option maxHeartbeats 1600000 in
theorem rf_Get_cut (A : Option Addr) (n cap : Nat) (xs : List Int) (w : World) (hl : xs.length = n) (h9 : n < 9) :
    Calls Try.prog 22 #[.slice A n cap] w (GivesHd xs w) := by
  have h9' : (n : Int) < 9 := by omega
  have hz := run_zero_is rd_zero
  have HL := hide (show xs.length < 9 by omega)
  clear hl h9
  go_enter Try.func22, Try.ntmps22
  go_wp2
  exact bodyPost_ret (results_rd rfl _ _ w.heap.size _ _ _ _ rfl (BlkIs.new _ _ _) _ rfl) rfl (gives_cut HL.out rfl ((Below.refl _ _).alloc (Nat.le_refl _) _))

set_option maxRecDepth 100000 in
set_option maxHeartbeats 1600000 in
theorem rf_Get_yes (A : Option Addr) (n cap : Nat) (x0 x1 x2 x3 x4 x5 x6 x7 x8 : Int) (tl : List Int) (w : World) (hr : RB w A n (x0 :: x1 :: x2 :: x3 :: x4 :: x5 :: x6 :: x7 :: x8 :: tl)) (h9 : 9 ≤ n) (hnc : n ≤ cap) :
    Calls Try.prog 22 #[.slice A n cap] w (GivesHd (x0 :: x1 :: x2 :: x3 :: x4 :: x5 :: x6 :: x7 :: x8 :: tl) w) := by
  have h9' : ¬ (n : Int) < 9 := by omega
  have hn3 : (3 : Int) < (n : Int) := by omega
  have hn4 : (4 : Int) < (n : Int) := by omega
  have hc9 : (9 : Int) ≤ (cap : Int) := by omega
  have hc3 : (3 : Int) ≤ (cap : Int) := by omega
  have hc5 : ¬ cap = 5 := by omega
  have hc0 : ¬ cap = 0 := by omega
  have hz := run_zero_is rd_zero
  obtain ⟨b, off, rfl, hb, _⟩ := hr.2.1 (by omega)
  have hall : AllB [x5, x6, x7, x8] := by
    intro x hx
    obtain ⟨i, hi, rfl⟩ := List.getElem_of_mem hx
    have := hr.2.2 (5 + i)
    have hi' : i < 4 := by simpa using hi
    match i, hi' with
    | 0, _ | 1, _ | 2, _ | 3, _ => simpa [List.getD] using this
    | k + 4, h => omega
  have C1 := hide (fun (w' : World) (h : RB w' (some ⟨b, off, none⟩) 3 [x0, x1, x2]) => rf_Number _ 3 cap _ w' h (by omega))
  have C2 := hide (fun (w' : World) (h : RB w' (some ⟨b, off + 5, none⟩) 4 [x5, x6, x7, x8]) => rf_Number _ 4 (cap - 5) _ w' h (by omega))
  have hbd := numL_bd 4 [x5, x6, x7, x8] hall
  obtain ⟨L, hL⟩ : ∃ L, L = numL [x0, x1, x2] := ⟨_, rfl⟩
  obtain ⟨M, hM⟩ : ∃ M, M = numL [x5, x6, x7, x8] := ⟨_, rfl⟩
  have hM0 : 0 ≤ M := by rw [hM]; exact hbd.1
  have hM1 : M < 4294967296 := by rw [hM]; exact hbd.2
  have htm : M.tmod 2147483648 = M % 2147483648 := Int.tmod_eq_emod_of_nonneg hM0
  rw [← hL] at C1
  rw [← hM] at C2
  have HL := hide hL
  have HM := hide hM
  have HR0 := hr.below ((Below.refl w.heap.size w).alloc (Nat.le_refl _) (.cells #[.int .i64 0, .int .u8 0, .int .u8 0, .int .i64 0] 46))
  have HR1 := hide (show RB (w.alloc (.cells #[.int .i64 0, .int .u8 0, .int .u8 0, .int .i64 0] 46)) (some ⟨b, off, none⟩) 3 [x0, x1, x2] from HR0.short (m := 3) (by omega))
  have HR2 := hide (show RB (w.alloc (.cells #[.int .i64 0, .int .u8 0, .int .u8 0, .int .i64 0] 46)) (some ⟨b, off + 5, none⟩) 4 [x5, x6, x7, x8] from (HR0.cut (k := 5) (by omega)).short (m := 4) (by omega))
  have HR := hide HR0
  have K0 := hide (BlkIs.new w 46 #[.int .i64 0, .int .u8 0, .int .u8 0, .int .i64 0])
  have B1 := hide ((Below.refl w.heap.size w).alloc (Nat.le_refl _) (.cells #[.int .i64 0, .int .u8 0, .int .u8 0, .int .i64 0] 46))
  clear hr hL hM hbd hall HR0
  go_enter Try.func22, Try.ntmps22
  go_wp2_with fail
  obtain ⟨g, hg⟩ : ∃ g, g = w.heap.size := ⟨_, rfl⟩
  have hbg : ¬ b = g := by omega
  generalize w.alloc (.cells #[.int .i64 0, .int .u8 0, .int .u8 0, .int .i64 0] 46) = w1 at K0 B1 HR HR1 HR2 ⊢
  rw [← hg] at K0 ⊢
  have HG := hide hg
  clear hg hz hb
  refine wp_region_noPanic ?_
  refine wp_region_held_drew (S := GetR w1 g) (by kernel_rfl) (GetR.start K0.out) (fun hS => ?_)
  generalize w1.drew = w2 at hS ⊢
  refine wpAnyH_take (i := 0) (v := ?_) (by simp only [List.getElem?_toArray, List.getElem?_cons_zero] <;> exact rfl) (by kernel_rfl) (by kernel_rfl) (by kernel_rfl) (fun _ _ _ h => h) (Or.inl ⟨by rfl, ?_⟩) hS ?_
  rotate_left
  focus (intro w' hw'; go_simp; all_goals with_reducible rfl)
  try simp only [Act.put, List.setIfInBounds_toArray, List.set_cons_zero, List.set_cons_succ]
  refine wpAnyH_take (i := 1) (v := ?_) (by simp only [List.getElem?_toArray, List.getElem?_cons_succ, List.getElem?_cons_zero] <;> exact rfl) (by kernel_rfl) (by kernel_rfl) (by kernel_rfl) (fun _ _ _ h => h) (Or.inl ⟨by rfl, ?_⟩) hS ?_
  rotate_left
  focus (intro w' hw'; go_simp; all_goals with_reducible rfl)
  try simp only [Act.put, List.setIfInBounds_toArray, List.set_cons_zero, List.set_cons_succ]
  refine wpAnyH_take (i := 3) (v := ?_) (by simp only [List.getElem?_toArray, List.getElem?_cons_succ, List.getElem?_cons_zero] <;> exact rfl) (by kernel_rfl) (by kernel_rfl) (by kernel_rfl) (fun _ _ _ h => h) (Or.inl ⟨by rfl, ?_⟩) hS ?_
  rotate_left
  focus (intro w' hw'; go_simp; all_goals with_reducible rfl)
  try simp only [Act.put, List.setIfInBounds_toArray, List.set_cons_zero, List.set_cons_succ]
  refine wpAnyH_take (i := 4) (v := ?_) (by simp only [List.getElem?_toArray, List.getElem?_cons_succ, List.getElem?_cons_zero] <;> exact rfl) (by kernel_rfl) (by kernel_rfl) (by kernel_rfl) (fun _ _ _ h => h) (Or.inl ⟨by rfl, ?_⟩) hS ?_
  rotate_left
  focus (intro w' hw'; go_simp; all_goals with_reducible rfl)
  try simp only [Act.put, List.setIfInBounds_toArray, List.set_cons_zero, List.set_cons_succ]
  refine wpAnyH_take (i := 5) (v := ?_) (by simp only [List.getElem?_toArray, List.getElem?_cons_succ, List.getElem?_cons_zero] <;> exact rfl) (by kernel_rfl) (by kernel_rfl) (by kernel_rfl) (fun _ _ _ h => h) (Or.inl ⟨by rfl, ?_⟩) hS ?_
  rotate_left
  focus (intro w' hw'; have kk := cell_at HR.out hw'.1 hbg 3 (by omega); simp only [List.getD_cons_succ, List.getD_cons_zero] at kk; go_simp; all_goals with_reducible rfl)
  try simp only [Act.put, List.setIfInBounds_toArray, List.set_cons_zero, List.set_cons_succ]
  refine wpAnyH_take (i := 6) (v := ?_) (by simp only [List.getElem?_toArray, List.getElem?_cons_succ, List.getElem?_cons_zero] <;> exact rfl) (by kernel_rfl) (by kernel_rfl) (by kernel_rfl) (fun _ _ _ h => h) (Or.inl ⟨by rfl, ?_⟩) hS ?_
  rotate_left
  focus (intro w' hw'; go_simp; all_goals with_reducible rfl)
  try simp only [Act.put, List.setIfInBounds_toArray, List.set_cons_zero, List.set_cons_succ]
  refine wpAnyH_take (i := 7) (v := ?_) (by simp only [List.getElem?_toArray, List.getElem?_cons_succ, List.getElem?_cons_zero] <;> exact rfl) (by kernel_rfl) (by kernel_rfl) (by kernel_rfl) (fun _ _ _ h => h) (Or.inl ⟨by rfl, ?_⟩) hS ?_
  rotate_left
  focus (intro w' hw'; go_simp; all_goals with_reducible rfl)
  try simp only [Act.put, List.setIfInBounds_toArray, List.set_cons_zero, List.set_cons_succ]
  refine wpAnyH_take (i := 8) (v := ?_) (by simp only [List.getElem?_toArray, List.getElem?_cons_succ, List.getElem?_cons_zero] <;> exact rfl) (by kernel_rfl) (by kernel_rfl) (by kernel_rfl) (fun _ _ _ h => h) (Or.inl ⟨by rfl, ?_⟩) hS ?_
  rotate_left
  focus (intro w' hw'; have kk := cell_at HR.out hw'.1 hbg 4 (by omega); simp only [List.getD_cons_succ, List.getD_cons_zero] at kk; go_simp; all_goals with_reducible rfl)
  try simp only [Act.put, List.setIfInBounds_toArray, List.set_cons_zero, List.set_cons_succ]
  refine wpAnyH_take (i := 9) (v := ?_) (by simp only [List.getElem?_toArray, List.getElem?_cons_succ, List.getElem?_cons_zero] <;> exact rfl) (by kernel_rfl) (by kernel_rfl) (by kernel_rfl) (fun _ _ _ h => h) (Or.inl ⟨by rfl, ?_⟩) hS ?_
  rotate_left
  focus (intro w' hw'; go_simp; all_goals with_reducible rfl)
  try simp only [Act.put, List.setIfInBounds_toArray, List.set_cons_zero, List.set_cons_succ]
  refine wpAnyH_take (i := 10) (v := ?_) (by simp only [List.getElem?_toArray, List.getElem?_cons_succ, List.getElem?_cons_zero] <;> exact rfl) (by kernel_rfl) (by kernel_rfl) (by kernel_rfl) (fun _ _ _ h => h) (Or.inl ⟨by rfl, ?_⟩) hS ?_
  rotate_left
  focus (intro w' hw'; go_simp; all_goals with_reducible rfl)
  try simp only [Act.put, List.setIfInBounds_toArray, List.set_cons_zero, List.set_cons_succ]
  refine wpAnyH_ready (rs := [2]) (by kernel_rfl) (by simp) ?_
  refine AllReadyH.cons (o := _) (by simp only [List.getElem?_toArray, List.getElem?_cons_succ, List.getElem?_cons_zero] <;> exact rfl) (fun K hK => ?_) ?_
  focus (
    go_simp
    go_at_call 26
    refine (C1.out _ (HR1.out.kb hS.1 (fun _ a ha => by cases ha; exact hbg))).mono ?_
    rintro e wc1 ⟨rfl, rfl⟩
    go_wp2_with fail
    refine hK.out _ _ hS (fun _ => ?_)
    clear hK K
    try simp only [Act.put, List.setIfInBounds_toArray, List.set_cons_zero, List.set_cons_succ])
  rotate_left
  focus (exact AllReadyH.nil)
  refine wpAnyH_ready (rs := [11]) (by kernel_rfl) (by simp) ?_
  refine AllReadyH.cons (o := _) (by simp only [List.getElem?_toArray, List.getElem?_cons_succ, List.getElem?_cons_zero] <;> exact rfl) (fun K hK => ?_) ?_
  focus (
    go_simp
    go_at_call 26
    refine (C2.out _ (HR2.out.kb hS.1 (fun _ a ha => by cases ha; exact hbg))).mono ?_
    rintro e wc2 ⟨rfl, rfl⟩
    go_wp2_with fail
    refine hK.out _ _ hS (fun _ => ?_)
    clear hK K
    try simp only [Act.put, List.setIfInBounds_toArray, List.set_cons_zero, List.set_cons_succ])
  rotate_left
  focus (exact AllReadyH.nil)
  refine wpAnyH_take (i := 12) (v := ?_) (by simp only [List.getElem?_toArray, List.getElem?_cons_succ, List.getElem?_cons_zero] <;> exact rfl) (by kernel_rfl) (by kernel_rfl) (by kernel_rfl) (fun _ _ _ h => h) (Or.inl ⟨by rfl, ?_⟩) hS ?_
  rotate_left
  focus (intro w' hw'; go_simp; all_goals with_reducible rfl)
  try simp only [Act.put, List.setIfInBounds_toArray, List.set_cons_zero, List.set_cons_succ]
  refine wpAnyH_take (i := 13) (v := ?_) (by simp only [List.getElem?_toArray, List.getElem?_cons_succ, List.getElem?_cons_zero] <;> exact rfl) (by kernel_rfl) (by kernel_rfl) (by kernel_rfl) (fun _ _ _ h => h) (Or.inl ⟨by rfl, ?_⟩) hS ?_
  rotate_left
  focus (intro w' hw'; go_simp; all_goals with_reducible rfl)
  try simp only [Act.put, List.setIfInBounds_toArray, List.set_cons_zero, List.set_cons_succ]
  refine wpAnyH_ready (rs := [14]) (by kernel_rfl) (by simp) ?_
  refine AllReadyH.cons (o := _) (by simp only [List.getElem?_toArray, List.getElem?_cons_succ, List.getElem?_cons_zero] <;> exact rfl) (fun K hK => ?_) ?_
  focus (
    obtain ⟨ka, kb, kc, kd, hk⟩ := hS.2
    have d0 := hk.cell 0
    have d1 := hk.cell 1
    have d2 := hk.cell 2
    have d3 := hk.cell 3
    simp only [List.getElem?_toArray, List.getElem?_cons_zero, List.getElem?_cons_succ] at d0 d1 d2 d3
    have z0 := hk.frozen 0
    have z1 := hk.frozen 1
    have z2 := hk.frozen 2
    have z3 := hk.frozen 3
    go_simp
    refine hK.out _ _ (hS.store hk _ _ _ _) (fun _ => ?_)
    have HS := hide hS
    have HKK := hide hk
    have hS := hS.store hk (.int .i64 L) (.int .u8 x3) (.int .u8 x4) (.int .i64 (M % 2147483648))
    clear d0 d1 d2 d3 z0 z1 z2 z3
    clear hK K
    try simp only [Act.put, List.setIfInBounds_toArray, List.set_cons_zero, List.set_cons_succ])
  rotate_left
  focus (exact AllReadyH.nil)
  refine wpAnyH_take (i := 15) (v := ?_) (by simp only [List.getElem?_toArray, List.getElem?_cons_succ, List.getElem?_cons_zero] <;> exact rfl) (by kernel_rfl) (by kernel_rfl) (by kernel_rfl) (fun _ _ _ h => h) (Or.inl ⟨by rfl, ?_⟩) hS ?_
  rotate_left
  focus (intro w' hw'; go_simp; all_goals with_reducible rfl)
  try simp only [Act.put, List.setIfInBounds_toArray, List.set_cons_zero, List.set_cons_succ]
  refine wpAnyH_done (by kernel_rfl) ?_ _
  refine NoPanic.normal ?_
  have HB := hide (hS.below B1.out (Nat.le_of_eq HG.out.symm) B1.out.size)
  have HK9 := hide ((((HKK.out.put 0 (.int .i64 L)).put 1 (.int .u8 x3)).put 2 (.int .u8 x4)).put 3 (.int .i64 (M % 2147483648)))
  clear hS hk HS
  go_wp2_with fail
  exact bodyPost_ret (results_rd rfl _ _ g _ _ _ _ rfl HK9.out (.int .i64 0) rfl) rfl (gives_yes HL.out HM.out rfl HB.out)

theorem rf_Get (A : Option Addr) (n cap : Nat) (xs : List Int) (w : World) (hr : RB w A n xs) (hnc : n ≤ cap) :
    Calls Try.prog 22 #[.slice A n cap] w (GivesHd xs w) := by
  by_cases h : n < 9
  · exact rf_Get_cut A n cap xs w hr.1 h
  · obtain ⟨x0, x1, x2, x3, x4, x5, x6, x7, x8, tl, rfl⟩ := split9 xs (by rw [hr.1]; omega)
    exact rf_Get_yes A n cap x0 x1 x2 x3 x4 x5 x6 x7 x8 tl w hr (by omega) hnc

end Go.Proofs.Ytojcjmjohibpaaa
