/-
  Layer 8: Get (both).
-/
import Derived.Test.YtojcjmjohibpaaaFhPut
import Derived.Deep.RegionHeld3
import Derived.Deep.AppendLies
import Derived.Test.YtojcjmjohibpaaaOps
import Derived.Laws.CopyRow
import Derived.Deep.MidRow
namespace Go.Proofs.Ytojcjmjohibpaaa
set_option linter.unusedSimpArgs false
set_option linter.unusedVariables false
open Go.RowKit

theorem hd_size : (Try.prog.info? 49).map (·.size) = some 4 := by kernel_rfl
theorem hd_zero : (Try.prog.info? 49).bind (·.zero) = some (.agg #[.int .i64 0, .int .u8 0, .int .u8 0, .int .i64 0]) := by kernel_rfl
theorem rd_size : (Try.prog.info? 46).map (·.size) = some 4 := by kernel_rfl
theorem rd_zero : (Try.prog.info? 46).bind (·.zero) = some (.agg #[.int .i64 0, .int .u8 0, .int .u8 0, .int .i64 0]) := by kernel_rfl

theorem results_hd {fn : Func} {p u : Tmp} (h : fn.results = #[.cell p 49, .tmp u]) (tmps : Array Value) (w : World) (g : Nat) (a b c d : Value)
    (hp : tmps.getD p undef = .pointer (some ⟨g, 0, none⟩)) (hg : BlkIs w g 49 #[a, b, c, d]) (x : Value) (hv : tmps.getD u undef = x) :
    (results fn tmps).run Try.prog w = .ok (.tuple #[.agg #[a, b, c, d], x]) w :=
  results_cell_tmp_blk h tmps w g _ _ _ hp hg Try.underlying49 rfl hd_size x hv
theorem results_rd {fn : Func} {p u : Tmp} (h : fn.results = #[.cell p 46, .tmp u]) (tmps : Array Value) (w : World) (g : Nat) (a b c d : Value)
    (hp : tmps.getD p undef = .pointer (some ⟨g, 0, none⟩)) (hg : BlkIs w g 46 #[a, b, c, d]) (x : Value) (hv : tmps.getD u undef = x) :
    (results fn tmps).run Try.prog w = .ok (.tuple #[.agg #[a, b, c, d], x]) w :=
  results_cell_tmp_blk h tmps w g _ _ _ hp hg Try.underlying46 rfl rd_size x hv

/-- What Get leaves. -/
def GivesHd (xs : List Int) (w : World) (e : Ending) (w' : World) : Prop :=
  e = .returned (.tuple #[.agg #[.int .i64 (gL xs), .int .u8 (gT xs), .int .u8 (gF xs), .int .i64 (gS xs)], .int .i64 (gE xs)]) ∧ Below w.heap.size w w'
theorem gives_cut {xs : List Int} (h : xs.length < 9) {w w' : World} {e : Ending} (he : e = .returned (.tuple #[.agg #[.int .i64 0, .int .u8 0, .int .u8 0, .int .i64 0], .int .i64 3])) (hb : Below w.heap.size w w') : GivesHd xs w e w' := by
  subst he
  exact ⟨by simp [gL, gT, gF, gS, gE, h], hb⟩

set_option maxRecDepth 100000 in
set_option maxHeartbeats 1600000 in
theorem fh_Get_cut (A : Option Addr) (n cap : Nat) (xs : List Int) (w : World) (hl : xs.length = n) (h9 : n < 9) :
    Calls Try.prog 27 #[.slice A n cap] w (GivesHd xs w) := by
  have h9' : (n : Int) < 9 := by omega
  have hz := run_zero_is hd_zero
  have HL := hide (show xs.length < 9 by omega)
  clear hl h9
  go_enter Try.func27, Try.ntmps27
  go_wp2
  exact bodyPost_ret (results_hd rfl _ _ w.heap.size _ _ _ _ rfl (BlkIs.new _ _ _) _ rfl) rfl (gives_cut HL.out rfl ((Below.refl _ _).alloc (Nat.le_refl _) _))

theorem arr_zero : (Try.prog.info? 72).bind (·.zero) = some (.agg #[.int .u8 0, .int .u8 0, .int .u8 0, .int .u8 0, .int .u8 0, .int .u8 0, .int .u8 0, .int .u8 0, .int .u8 0]) := by kernel_rfl

/-- The copy of nine bytes into a new array. -/
theorem copy_nine (w1 : World) (g : Nat) (hg : g = w1.heap.size) (A : Option Addr) (n cap : Nat) (x0 x1 x2 x3 x4 x5 x6 x7 x8 : Int) (tl : List Int) (hr : RB w1 A n (x0 :: x1 :: x2 :: x3 :: x4 :: x5 :: x6 :: x7 :: x8 :: tl)) :
    (Builtin.copy_ #[24, 24] 3 #[.slice (some ⟨g, 0, none⟩) 9 9, .slice A n cap]).run Try.prog (w1.alloc (.cells #[.int .u8 0, .int .u8 0, .int .u8 0, .int .u8 0, .int .u8 0, .int .u8 0, .int .u8 0, .int .u8 0, .int .u8 0] 72))
      = .ok (.int .i64 9) (w1.alloc (.cells #[.int .u8 x0, .int .u8 x1, .int .u8 x2, .int .u8 x3, .int .u8 x4, .int .u8 x5, .int .u8 x6, .int .u8 x7, .int .u8 x8] 72)) := by
  subst hg
  obtain ⟨hlen, hcell, _⟩ := hr
  obtain ⟨b, off, rfl, hb, hc⟩ := hcell (by simp at hlen; omega)
  have hn : 9 ≤ n := by simp at hlen; omega
  rw [run_copy_row Try.prog _ 24 24 3 5 w1.heap.size 0 9 9 ⟨b, off, none⟩ n cap _ _ (u8s [x0, x1, x2, x3, x4, x5, x6, x7, x8]) Try.underlying24 (by kernel_rfl) (heap_alloc_new w1 _) (Nat.min_eq_right hn).symm ?_ (by simp [u8s]) (ints_oneCell _ _)]
  · rw [alloc_setRow]
    simp [u8s, goInt]
  · intro j v hj
    have hj9 : j < 9 := by
      have := (List.getElem?_eq_some_iff.1 hj).1
      simpa [u8s] using this
    rw [World.cell?_alloc_lt _ _ _ (by simp [Addr.add]; split <;> exact hb), Addr.add_lit, hc j (by omega), ← hj]
    match j, hj9 with
    | 0, _ | 1, _ | 2, _ | 3, _ | 4, _ | 5, _ | 6, _ | 7, _ | 8, _ => rfl
    | k + 9, h => omega

theorem fh_num03 (x0 x1 x2 x3 x4 x5 x6 x7 x8 : Int) (hb : AllB [x0, x1, x2, x3, x4, x5, x6, x7, x8]) (w : World) :
    Calls Try.prog 28 #[.agg #[.int .u8 x0, .int .u8 x1, .int .u8 x2, .int .u8 x3, .int .u8 x4, .int .u8 x5, .int .u8 x6, .int .u8 x7, .int .u8 x8], .int .i64 0, .int .i64 3] w fun e w' => e = .returned (.int .i64 (numL [x0, x1, x2])) ∧ Below w.heap.size w w' :=
  fh_number [x0, x1, x2, x3, x4, x5, x6, x7, x8] rfl hb 0 3 3 rfl (by omega) (by omega) (by omega) w
theorem fh_num59 (x0 x1 x2 x3 x4 x5 x6 x7 x8 : Int) (hb : AllB [x0, x1, x2, x3, x4, x5, x6, x7, x8]) (w : World) :
    Calls Try.prog 28 #[.agg #[.int .u8 x0, .int .u8 x1, .int .u8 x2, .int .u8 x3, .int .u8 x4, .int .u8 x5, .int .u8 x6, .int .u8 x7, .int .u8 x8], .int .i64 5, .int .i64 9] w fun e w' => e = .returned (.int .i64 (numL [x5, x6, x7, x8])) ∧ Below w.heap.size w w' :=
  fh_number [x0, x1, x2, x3, x4, x5, x6, x7, x8] rfl hb 5 4 9 rfl (by omega) (by omega) (by omega) w

/-- What stands all through the region: all is as it was but the answer's block, which holds four cells. -/
def GetS (w1 : World) (g : Nat) (w' : World) : Prop := KB (· = g) w1 w' ∧ ∃ a b c d, BlkIs w' g 49 #[a, b, c, d]
section
variable {w1 w w' : World} {g : Nat} {a b c d : Value}
theorem GetS.start (h : BlkIs w1 g 49 #[a, b, c, d]) : GetS w1 g w1.drew := ⟨(KB.refl _ _).drew, _, _, _, _, h.drew⟩
theorem GetS.keep (h : GetS w1 g w) (hb : Below w.heap.size w w') : GetS w1 g w' := by
  obtain ⟨k, x, y, z, u, hk⟩ := h
  exact ⟨k.trans (KB.of_below _ hb), x, y, z, u, hk.keep hb⟩
theorem GetS.store (h : GetS w1 g w) (hk : BlkIs w g 49 #[a, b, c, d]) (p q r s : Value) :
    GetS w1 g ((((w.setCell ⟨g, 0, none⟩ p).setCell ⟨g, 1, none⟩ q).setCell ⟨g, 2, none⟩ r).setCell ⟨g, 3, none⟩ s) :=
  ⟨(((h.1.setCell (fun _ => rfl) _).setCell (fun _ => rfl) _).setCell (fun _ => rfl) _).setCell (fun _ => rfl) _, p, q, r, s, (((hk.put 0 p).put 1 q).put 2 r).put 3 s⟩
end

theorem GetS.below {w1 w w' : World} {g B : Nat} (h : GetS w1 g w') (hb : Below B w w1) (hg : B ≤ g) (hB : w.heap.size ≤ w1.heap.size) (hBw : B ≤ w.heap.size := by exact Nat.le_refl _) : Below B w w' :=
  hb.trans (h.1.below (Nat.le_trans hBw hB) (fun k hk => by subst hk; exact hg))
theorem gives_yes {x0 x1 x2 x3 x4 x5 x6 x7 x8 : Int} {tl : List Int} {L M : Int} (hL : L = numL [x0, x1, x2]) (hM : M = numL [x5, x6, x7, x8]) {w w' : World} {e : Ending}
    (he : e = .returned (.tuple #[.agg #[.int .i64 L, .int .u8 x3, .int .u8 x4, .int .i64 (M % 2147483648)], .int .i64 0])) (hb : Below w.heap.size w w') : GivesHd (x0 :: x1 :: x2 :: x3 :: x4 :: x5 :: x6 :: x7 :: x8 :: tl) w e w' := by
  subst he hL hM
  have h : ¬ (x0 :: x1 :: x2 :: x3 :: x4 :: x5 :: x6 :: x7 :: x8 :: tl).length < 9 := by simp
  refine ⟨?_, hb⟩
  rw [gL, gT, gF, gS, gE, if_neg h, if_neg h, if_neg h, if_neg h, if_neg h]
  rfl

set_option maxRecDepth 100000 in
set_option maxHeartbeats 1600000 in
theorem fh_Get_yes (A : Option Addr) (n cap : Nat) (x0 x1 x2 x3 x4 x5 x6 x7 x8 : Int) (tl : List Int) (w : World) (hr : RB w A n (x0 :: x1 :: x2 :: x3 :: x4 :: x5 :: x6 :: x7 :: x8 :: tl)) (h9 : 9 ≤ n) :
    Calls Try.prog 27 #[.slice A n cap] w (GivesHd (x0 :: x1 :: x2 :: x3 :: x4 :: x5 :: x6 :: x7 :: x8 :: tl) w) := by
  have h9' : ¬ (n : Int) < 9 := by omega
  have hz := run_zero_is hd_zero
  have hz2 := run_zero_is arr_zero
  have HR := hide hr
  have hall : AllB [x0, x1, x2, x3, x4, x5, x6, x7, x8] := by
    intro x hx
    obtain ⟨i, hi, rfl⟩ := List.getElem_of_mem hx
    have := hr.2.2 i
    have hi' : i < 9 := by simpa using hi
    match i, hi' with
    | 0, _ | 1, _ | 2, _ | 3, _ | 4, _ | 5, _ | 6, _ | 7, _ | 8, _ => simpa [List.getD] using this
    | k + 9, h => omega
  have C1 := hide (fh_num03 x0 x1 x2 x3 x4 x5 x6 x7 x8 hall)
  have C2 := hide (fh_num59 x0 x1 x2 x3 x4 x5 x6 x7 x8 hall)
  have hbd := numL_bd 4 [x5, x6, x7, x8] (hall.drop 5)
  obtain ⟨L, hL⟩ : ∃ L, L = numL [x0, x1, x2] := ⟨_, rfl⟩
  obtain ⟨M, hM⟩ : ∃ M, M = numL [x5, x6, x7, x8] := ⟨_, rfl⟩
  have hM0 : 0 ≤ M := by rw [hM]; exact hbd.1
  have hM1 : M < 4294967296 := by rw [hM]; exact hbd.2
  have hand := and_low31 M hM0 hM1
  rw [← hL] at C1
  rw [← hM] at C2
  have HL := hide hL
  have HM := hide hM
  have HC := hide (copy_nine (w.alloc (.cells #[.int .i64 0, .int .u8 0, .int .u8 0, .int .i64 0] 49)) (w.heap.size + 1) (by simp) A n cap x0 x1 x2 x3 x4 x5 x6 x7 x8 tl (hr.below ((Below.refl _ _).alloc (Nat.le_refl _) _)))
  clear hr h9 hL hM hbd hall
  go_enter Try.func27, Try.ntmps27
  go_wp2_with fail
  rw [HC.out]
  have K0 := hide ((BlkIs.new w 49 #[.int .i64 0, .int .u8 0, .int .u8 0, .int .i64 0]).alloc (.cells #[.int .u8 x0, .int .u8 x1, .int .u8 x2, .int .u8 x3, .int .u8 x4, .int .u8 x5, .int .u8 x6, .int .u8 x7, .int .u8 x8] 72))
  have K1 := hide (BlkIs.new (w.alloc (.cells #[.int .i64 0, .int .u8 0, .int .u8 0, .int .i64 0] 49)) 72 #[.int .u8 x0, .int .u8 x1, .int .u8 x2, .int .u8 x3, .int .u8 x4, .int .u8 x5, .int .u8 x6, .int .u8 x7, .int .u8 x8])
  have B1 := hide (((Below.refl w.heap.size w).alloc (Nat.le_refl _) (.cells #[.int .i64 0, .int .u8 0, .int .u8 0, .int .i64 0] 49)).alloc (by simp) (.cells #[.int .u8 x0, .int .u8 x1, .int .u8 x2, .int .u8 x3, .int .u8 x4, .int .u8 x5, .int .u8 x6, .int .u8 x7, .int .u8 x8] 72))
  generalize (w.alloc (.cells #[.int .i64 0, .int .u8 0, .int .u8 0, .int .i64 0] 49)).alloc (.cells #[.int .u8 x0, .int .u8 x1, .int .u8 x2, .int .u8 x3, .int .u8 x4, .int .u8 x5, .int .u8 x6, .int .u8 x7, .int .u8 x8] 72) = w1 at K0 K1 B1 ⊢
  rw [show (w.alloc (.cells #[.int .i64 0, .int .u8 0, .int .u8 0, .int .i64 0] 49)).heap.size = w.heap.size + 1 by simp] at K1
  obtain ⟨g, hg⟩ : ∃ g, g = w.heap.size := ⟨_, rfl⟩
  rw [← hg] at K0 K1 ⊢
  have HG := hide hg
  clear hg hz hz2 HC
  go_wp2_with fail
  have hu := Try.underlying72
  have hi : (Try.prog.info? 72).map (·.size) = some (List.length [Value.int .u8 x0, .int .u8 x1, .int .u8 x2, .int .u8 x3, .int .u8 x4, .int .u8 x5, .int .u8 x6, .int .u8 x7, .int .u8 x8]) := by kernel_rfl
  refine wp_region_noPanic ?_
  refine wp_region_held_drew (S := GetS w1 g) (by kernel_rfl) (GetS.start K0.out) (fun hS => ?_)
  refine wpAnyH_take (i := 0) (by simp only [List.getElem?_toArray, List.getElem?_cons_zero] <;> exact rfl) (by kernel_rfl) (by kernel_rfl) (by kernel_rfl) (fun _ _ _ h => h) (yieldsIf_load_mid (by rfl) _ _ (by rfl) (g + 1) 0 (by rfl) [.int .u8 x0, .int .u8 x1, .int .u8 x2, .int .u8 x3, .int .u8 x4, .int .u8 x5, .int .u8 x6, .int .u8 x7, .int .u8 x8] _ (fun w' hw' => World.rangeAt_of_block (hw'.1.blk K1.out (by omega)) 0 9) hu (by rfl) hi) hS ?_
  try simp only [Act.put, List.setIfInBounds_toArray, List.set_cons_zero, List.set_cons_succ]
  refine wpAnyH_take (i := 2) (v := ?_) (by simp only [List.getElem?_toArray, List.getElem?_cons_succ, List.getElem?_cons_zero] <;> exact rfl) (by kernel_rfl) (by kernel_rfl) (by kernel_rfl) (fun _ _ _ h => h) (Or.inl ⟨by rfl, ?_⟩) hS ?_
  rotate_left
  focus (intro w' hw'; go_simp; all_goals with_reducible rfl)
  try simp only [Act.put, List.setIfInBounds_toArray, List.set_cons_zero, List.set_cons_succ]
  refine wpAnyH_take (i := 3) (v := ?_) (by simp only [List.getElem?_toArray, List.getElem?_cons_succ, List.getElem?_cons_zero] <;> exact rfl) (by kernel_rfl) (by kernel_rfl) (by kernel_rfl) (fun _ _ _ h => h) (Or.inl ⟨by rfl, ?_⟩) hS ?_
  rotate_left
  focus (intro w' hw'; have kk := (hw'.1.blk K1.out (by omega)).cell 3; simp only [List.getElem?_toArray, List.getElem?_cons_zero, List.getElem?_cons_succ] at kk; go_simp; all_goals with_reducible rfl)
  try simp only [Act.put, List.setIfInBounds_toArray, List.set_cons_zero, List.set_cons_succ]
  refine wpAnyH_take (i := 4) (v := ?_) (by simp only [List.getElem?_toArray, List.getElem?_cons_succ, List.getElem?_cons_zero] <;> exact rfl) (by kernel_rfl) (by kernel_rfl) (by kernel_rfl) (fun _ _ _ h => h) (Or.inl ⟨by rfl, ?_⟩) hS ?_
  rotate_left
  focus (intro w' hw'; go_simp; all_goals with_reducible rfl)
  try simp only [Act.put, List.setIfInBounds_toArray, List.set_cons_zero, List.set_cons_succ]
  refine wpAnyH_take (i := 5) (v := ?_) (by simp only [List.getElem?_toArray, List.getElem?_cons_succ, List.getElem?_cons_zero] <;> exact rfl) (by kernel_rfl) (by kernel_rfl) (by kernel_rfl) (fun _ _ _ h => h) (Or.inl ⟨by rfl, ?_⟩) hS ?_
  rotate_left
  focus (intro w' hw'; have kk := (hw'.1.blk K1.out (by omega)).cell 4; simp only [List.getElem?_toArray, List.getElem?_cons_zero, List.getElem?_cons_succ] at kk; go_simp; all_goals with_reducible rfl)
  try simp only [Act.put, List.setIfInBounds_toArray, List.set_cons_zero, List.set_cons_succ]
  refine wpAnyH_take (i := 6) (by simp only [List.getElem?_toArray, List.getElem?_cons_succ, List.getElem?_cons_zero] <;> exact rfl) (by kernel_rfl) (by kernel_rfl) (by kernel_rfl) (fun _ _ _ h => h) (yieldsIf_load_mid (by rfl) _ _ (by rfl) (g + 1) 0 (by rfl) [.int .u8 x0, .int .u8 x1, .int .u8 x2, .int .u8 x3, .int .u8 x4, .int .u8 x5, .int .u8 x6, .int .u8 x7, .int .u8 x8] _ (fun w' hw' => World.rangeAt_of_block (hw'.1.blk K1.out (by omega)) 0 9) hu (by rfl) hi) hS ?_
  try simp only [Act.put, List.setIfInBounds_toArray, List.set_cons_zero, List.set_cons_succ]
  refine wpAnyH_ready (rs := [1]) (by kernel_rfl) (by simp) ?_
  refine AllReadyH.cons (o := _) (by simp only [List.getElem?_toArray, List.getElem?_cons_succ, List.getElem?_cons_zero] <;> exact rfl) (fun K hK => ?_) ?_
  focus (
    go_simp
    go_at_call 28
    refine (C1.out _).mono ?_
    rintro e wc1 ⟨rfl, hb⟩
    have hS := hS.keep hb
    clear hb
    go_wp2_with fail
    refine hK.out _ _ hS (fun _ => ?_)
    clear hK K
    try simp only [Act.put, List.setIfInBounds_toArray, List.set_cons_zero, List.set_cons_succ])
  rotate_left
  focus (exact AllReadyH.nil)
  refine wpAnyH_ready (rs := [7]) (by kernel_rfl) (by simp) ?_
  refine AllReadyH.cons (o := _) (by simp only [List.getElem?_toArray, List.getElem?_cons_succ, List.getElem?_cons_zero] <;> exact rfl) (fun K hK => ?_) ?_
  focus (
    go_simp
    go_at_call 28
    refine (C2.out _).mono ?_
    rintro e wc2 ⟨rfl, hb⟩
    have hS := hS.keep hb
    clear hb
    go_wp2_with fail
    refine hK.out _ _ hS (fun _ => ?_)
    clear hK K
    try simp only [Act.put, List.setIfInBounds_toArray, List.set_cons_zero, List.set_cons_succ])
  rotate_left
  focus (exact AllReadyH.nil)
  refine wpAnyH_take (i := 8) (v := ?_) (by simp only [List.getElem?_toArray, List.getElem?_cons_succ, List.getElem?_cons_zero] <;> exact rfl) (by kernel_rfl) (by kernel_rfl) (by kernel_rfl) (fun _ _ _ h => h) (Or.inl ⟨by rfl, ?_⟩) hS ?_
  rotate_left
  focus (intro w' hw'; go_simp; all_goals with_reducible rfl)
  try simp only [Act.put, List.setIfInBounds_toArray, List.set_cons_zero, List.set_cons_succ]
  refine wpAnyH_take (i := 9) (v := ?_) (by simp only [List.getElem?_toArray, List.getElem?_cons_succ, List.getElem?_cons_zero] <;> exact rfl) (by kernel_rfl) (by kernel_rfl) (by kernel_rfl) (fun _ _ _ h => h) (Or.inl ⟨by rfl, ?_⟩) hS ?_
  rotate_left
  focus (intro w' hw'; go_simp; all_goals with_reducible rfl)
  try simp only [Act.put, List.setIfInBounds_toArray, List.set_cons_zero, List.set_cons_succ]
  refine wpAnyH_ready (rs := [10]) (by kernel_rfl) (by simp) ?_
  refine AllReadyH.cons (o := _) (by simp only [List.getElem?_toArray, List.getElem?_cons_succ, List.getElem?_cons_zero] <;> exact rfl) (fun K hK => ?_) ?_
  focus (
    obtain ⟨ka, kb, kc, kd, hk⟩ := hS.2
    have d0 := hk.cell 0
    have d1 := hk.cell 1
    have d2 := hk.cell 2
    have d3 := hk.cell 3
    simp only [List.getElem?_toArray, List.getElem?_cons_zero, List.getElem?_cons_succ] at d0 d1 d2 d3
    have z0 := hk.frozen 0
    have z1 := hk.frozen 1
    have z2 := hk.frozen 2
    have z3 := hk.frozen 3
    go_simp
    refine hK.out _ _ (hS.store hk _ _ _ _) (fun _ => ?_)
    have HS := hide hS
    have HKK := hide hk
    have hS := hS.store hk (.int .i64 L) (.int .u8 x3) (.int .u8 x4) (.int .i64 (M % 2147483648))
    clear d0 d1 d2 d3 z0 z1 z2 z3
    clear hK K
    try simp only [Act.put, List.setIfInBounds_toArray, List.set_cons_zero, List.set_cons_succ])
  rotate_left
  focus (exact AllReadyH.nil)
  refine wpAnyH_take (i := 11) (v := ?_) (by simp only [List.getElem?_toArray, List.getElem?_cons_succ, List.getElem?_cons_zero] <;> exact rfl) (by kernel_rfl) (by kernel_rfl) (by kernel_rfl) (fun _ _ _ h => h) (Or.inl ⟨by rfl, ?_⟩) hS ?_
  rotate_left
  focus (intro w' hw'; go_simp; all_goals with_reducible rfl)
  try simp only [Act.put, List.setIfInBounds_toArray, List.set_cons_zero, List.set_cons_succ]
  refine wpAnyH_done (by kernel_rfl) ?_ _
  refine NoPanic.normal ?_
  have HB := hide (hS.below B1.out (Nat.le_of_eq HG.out.symm) B1.out.size)
  have HK9 := hide ((((HKK.out.put 0 (.int .i64 L)).put 1 (.int .u8 x3)).put 2 (.int .u8 x4)).put 3 (.int .i64 (M % 2147483648)))
  clear hS hk HS
  go_wp2_with fail
  exact bodyPost_ret (results_hd rfl _ _ g _ _ _ _ rfl HK9.out (.int .i64 0) rfl) rfl (gives_yes HL.out HM.out rfl HB.out)

theorem split9 (xs : List Int) (h : 9 ≤ xs.length) : ∃ x0 x1 x2 x3 x4 x5 x6 x7 x8 tl, xs = x0 :: x1 :: x2 :: x3 :: x4 :: x5 :: x6 :: x7 :: x8 :: tl := by
  match xs, h with
  | x0 :: x1 :: x2 :: x3 :: x4 :: x5 :: x6 :: x7 :: x8 :: tl, _ => exact ⟨_, _, _, _, _, _, _, _, _, _, rfl⟩

theorem fh_Get (A : Option Addr) (n cap : Nat) (xs : List Int) (w : World) (hr : RB w A n xs) :
    Calls Try.prog 27 #[.slice A n cap] w (GivesHd xs w) := by
  by_cases h : n < 9
  · exact fh_Get_cut A n cap xs w hr.1 h
  · obtain ⟨x0, x1, x2, x3, x4, x5, x6, x7, x8, tl, rfl⟩ := split9 xs (by rw [hr.1]; omega)
    exact fh_Get_yes A n cap x0 x1 x2 x3 x4 x5 x6 x7 x8 tl w hr (by omega)
end Go.Proofs.Ytojcjmjohibpaaa
