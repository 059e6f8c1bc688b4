/-
  Layer 4: Resize, Add, New.
-/
import Derived.Test.YtchndegcnjejiaaDyWith
namespace Go.Proofs.Ytchndegcnjejiaa
open Go.RowKit

theorem dy_within (m : Int) (A : Option Addr) (n c : Nat) (l : List Fd) (q : Int) (h : chkI m l = 0) (w : World) (hfl : FL w A n c l) (hs : (szs l : Int) ≤ 1099511627776) (hn : (n : Int) ≤ 900000000) :
    Calls Try.prog 32 #[.agg #[.int .i64 m, .slice A n c], .int .i64 q] w (TabIs (resM m l q) (resL m l q) (resE m l q) w) := by
  cases hq : rmB q with
  | true =>
    have e : resE m l q = 0 := by unfold resE; rw [if_pos h, if_pos hq]
    unfold resM resL
    rw [e, if_pos rfl, if_pos rfl]
    exact dy_within_yes m A n c l q hq w hfl hs (by omega)
  | false =>
    have e : resE m l q = 8 := by unfold resE; rw [if_pos h, hq]; rfl
    unfold resM resL
    rw [e, if_neg (by decide), if_neg (by decide)]
    exact dy_within_no m A n c l q hq w hfl
theorem dy_with (m : Int) (A : Option Addr) (n c : Nat) (l : List Fd) (f : Fd) (h : chkI m l = 0) (w : World) (hfl : FL w A n c l) (hs : (szs l : Int) ≤ 1099511627776) (hf : (szF f : Int) ≤ 1099511627776) (hn : (n : Int) ≤ 900000000) :
    Calls Try.prog 34 #[.agg #[.int .i64 m, .slice A n c], .agg #[.string f.n, .string f.v, .bool f.x]] w (TabIs m (addL m l f) 0 w) := by
  unfold addL addK
  rw [if_pos h]
  have hm := (chkI_ok.1 h).1
  by_cases hlt : m < (szF f : Int)
  · rw [if_pos hlt]
    exact dy_with_no m A n c l f hm hlt hf w
  · rw [if_neg hlt]
    exact dy_with_yes m A n c l f hm hlt w hfl hs hn

set_option maxRecDepth 100000 in
set_option maxHeartbeats 1600000 in
theorem dy_changeI (m : Int) (A : Option Addr) (n c : Nat) (l : List Fd) (q : Int) (w : World) (hfl : FL w A n c l) (hs : (szs l : Int) ≤ 1099511627776) (hn : (n : Int) ≤ 900000000) :
    Calls Try.prog 31 #[.agg #[.int .i64 m, .slice A n c], .func (.func 32) #[] #[], .int .i64 q] w (TabIs (resM m l q) (resL m l q) (resE m l q) w) := by
  have hz := run_zero_is tab_zero
  have HFL := hide ((hfl.alloc (.cells #[.int .i64 m, .slice A n c] 27)).alloc (.cells #[.int .i64 0, .slice none 0 0] 27))
  have B0 := hide (((Below.refl w.heap.size w).alloc (Nat.le_refl _) (.cells #[.int .i64 m, .slice A n c] 27)).alloc (by simp) (.cells #[.int .i64 0, .slice none 0 0] 27))
  have K3 := hide (((BlkIs.new w 27 #[.int .i64 m, .slice A n c])).alloc (.cells #[.int .i64 0, .slice none 0 0] 27))
  have K6 := hide (blk_new2' w (.cells #[.int .i64 m, .slice A n c] 27) 27 #[.int .i64 0, .slice none 0 0])
  have HC := hide (dy_Check m A n c l _ HFL.out hs)
  by_cases hck : chkI m l = 0
  · have HW := hide (fun w' (h : FL w' A n c l) => dy_within m A n c l q hck w' h hs hn)
    rw [hck] at HC
    obtain ⟨M, hM⟩ : ∃ M, M = resM m l q := ⟨_, rfl⟩
    obtain ⟨L, hL⟩ : ∃ M, M = resL m l q := ⟨_, rfl⟩
    obtain ⟨E, hE⟩ : ∃ M, M = resE m l q := ⟨_, rfl⟩
    rw [← hM, ← hL, ← hE] at HW ⊢
    clear hM hL hE hfl hs hn hck
    go_enter Try.func31, Try.ntmps31
    go_wp2_with fail
    refine HC.out.mono ?_
    rintro e w2 ⟨rfl, hb2⟩
    have F2 := hide (HFL.out.keep hb2)
    have K32 := hide (K3.out.keep hb2)
    have K62 := hide (K6.out.keep hb2)
    have B2 := hide (B0.out.trans (hb2.mono B0.out.size))
    obtain ⟨g, hg⟩ : ∃ g, g = w.heap.size := ⟨_, rfl⟩
    have HG := hide hg
    rw [← hg] at K32 K62 ⊢
    have q0 := K32.out.cell 0
    have q1 := K32.out.cell 1
    simp only [List.getElem?_toArray, List.getElem?_cons_zero, List.getElem?_cons_succ] at q0 q1
    clear hg hb2 HFL K3 K6 B0 HC
    go_wp2_with fail
    refine (HW.out _ F2.out).mono ?_
    rintro e w3 ⟨A3, n3, c3, rfl, hf3, hb3⟩
    have F3 := hide hf3
    have K63 := hide (K62.out.keep hb3)
    have B3 := hide (B2.out.trans (hb3.mono B2.out.size))
    clear hf3 hb3 q0 q1 K32 K62 B2 F2 HW
    go_wp2_with (refine wpList_tab_blk rfl _ _ (g + 1) _ _ _ _ _ _ _ _ rfl K63.out rfl rfl ?_; intro w4 hk4 hb4; have K4 := hide hk4; have KB4 := hide hb4; clear hk4 hb4)
    exact bodyPost_ret (results_tab rfl _ _ (g + 1) M A3 n3 c3 rfl K4.out (.int .i64 E) rfl) rfl ⟨A3, n3, c3, rfl, F3.out.kb K63.out KB4.out, below_kb2 B3.out KB4.out (Nat.le_refl _) (by have := HG.out; omega)⟩
  · have e : resE m l q = chkI m l := by unfold resE; rw [if_neg hck]
    have e2 : resM m l q = m := by unfold resM; rw [e, if_neg hck]
    have e3 : resL m l q = l := by unfold resL; rw [e, if_neg hck]
    rw [e, e2, e3]
    obtain ⟨E, hE⟩ : ∃ E, E = chkI m l := ⟨_, rfl⟩
    rw [← hE] at HC hck ⊢
    have hne : (E != 0) = true := by simp [hck]
    have hne2 : (E == 0) = false := by simp [hck]
    clear hE hfl hs hn hck e e2 e3
    go_enter Try.func31, Try.ntmps31
    go_wp2_with fail
    refine HC.out.mono ?_
    rintro e w2 ⟨rfl, hb2⟩
    have F2 := hide (HFL.out.keep hb2)
    have K32 := hide (K3.out.keep hb2)
    have K62 := hide (K6.out.keep hb2)
    have B2 := hide (B0.out.trans (hb2.mono B0.out.size))
    obtain ⟨g, hg⟩ : ∃ g, g = w.heap.size := ⟨_, rfl⟩
    have HG := hide hg
    rw [← hg] at K32 K62 ⊢
    have q0 := K32.out.cell 0
    have q1 := K32.out.cell 1
    simp only [List.getElem?_toArray, List.getElem?_cons_zero, List.getElem?_cons_succ] at q0 q1
    clear hg hb2 HFL K3 K6 B0 HC
    go_wp2_with (refine wpList_tab_blk rfl _ _ (g + 1) _ _ _ _ _ _ _ _ rfl K62.out rfl rfl ?_; intro w4 hk4 hb4; have K4 := hide hk4; have KB4 := hide hb4; clear hk4 hb4)
    exact bodyPost_ret (results_tab rfl _ _ (g + 1) m A n c rfl K4.out (.int .i64 E) rfl) rfl ⟨A, n, c, rfl, F2.out.kb K62.out KB4.out, below_kb2 B2.out KB4.out (Nat.le_refl _) (by have := HG.out; omega)⟩

set_option maxRecDepth 100000 in
set_option maxHeartbeats 1600000 in
theorem dy_Resize (m : Int) (A : Option Addr) (n c : Nat) (l : List Fd) (q : Int) (w : World) (hfl : FL w A n c l) (hs : (szs l : Int) ≤ 1099511627776) (hn : (n : Int) ≤ 900000000) :
    Calls Try.prog 19 #[.agg #[.int .i64 m, .slice A n c], .int .i64 q] w (TabIs (resM m l q) (resL m l q) (resE m l q) w) := by
  have hz := run_zero_is tab_zero
  have HFL := hide ((hfl.alloc (.cells #[.int .i64 m, .slice A n c] 27)).alloc (.cells #[.int .i64 0, .slice none 0 0] 27))
  have B0 := hide (((Below.refl w.heap.size w).alloc (Nat.le_refl _) (.cells #[.int .i64 m, .slice A n c] 27)).alloc (by simp) (.cells #[.int .i64 0, .slice none 0 0] 27))
  have K6 := hide (blk_new2' w (.cells #[.int .i64 m, .slice A n c] 27) 27 #[.int .i64 0, .slice none 0 0])
  have HC := hide (dy_changeI m A n c l q _ HFL.out hs hn)
  obtain ⟨M, hM⟩ : ∃ M, M = resM m l q := ⟨_, rfl⟩
  obtain ⟨L, hL⟩ : ∃ M, M = resL m l q := ⟨_, rfl⟩
  obtain ⟨E, hE⟩ : ∃ M, M = resE m l q := ⟨_, rfl⟩
  rw [← hM, ← hL, ← hE] at HC ⊢
  clear hM hL hE hfl hs hn
  go_enter Try.func19, Try.ntmps19
  go_wp2_with fail
  refine HC.out.mono ?_
  rintro e w3 ⟨A3, n3, c3, rfl, hf3, hb3⟩
  obtain ⟨g, hg⟩ : ∃ g, g = w.heap.size := ⟨_, rfl⟩
  have HG := hide hg
  rw [← hg] at K6 ⊢
  have F3 := hide hf3
  have K63 := hide (K6.out.keep hb3)
  have B3 := hide (B0.out.trans (hb3.mono B0.out.size))
  clear hf3 hb3 hg HFL K6 B0 HC
  go_wp2_with (refine wpList_tab_blk rfl _ _ (g + 1) _ _ _ _ _ _ _ _ rfl K63.out rfl rfl ?_; intro w4 hk4 hb4; have K4 := hide hk4; have KB4 := hide hb4; clear hk4 hb4)
  exact bodyPost_ret (results_tab rfl _ _ (g + 1) M A3 n3 c3 rfl K4.out (.int .i64 E) rfl) rfl ⟨A3, n3, c3, rfl, F3.out.kb K63.out KB4.out, below_kb2 B3.out KB4.out (Nat.le_refl _) (by have := HG.out; omega)⟩

set_option maxRecDepth 100000 in
set_option maxHeartbeats 1600000 in
theorem dy_changeF (m : Int) (A : Option Addr) (n c : Nat) (l : List Fd) (f : Fd) (w : World) (hfl : FL w A n c l) (hs : (szs l : Int) ≤ 1099511627776) (hf : (szF f : Int) ≤ 1099511627776) (hn : (n : Int) ≤ 900000000) :
    Calls Try.prog 33 #[.agg #[.int .i64 m, .slice A n c], .func (.func 34) #[] #[], .agg #[.string f.n, .string f.v, .bool f.x]] w (TabIs m (addL m l f) (chkI m l) w) := by
  have hz := run_zero_is tab_zero
  obtain ⟨W, hW⟩ : ∃ W, W = ((w.alloc (.cells #[.int .i64 m, .slice A n c] 27)).alloc (.cells #[.string f.n, .string f.v, .bool f.x] 29)).alloc (.cells #[.int .i64 0, .slice none 0 0] 27) := ⟨_, rfl⟩
  have K3 := hide (show BlkIs W w.heap.size 27 #[.int .i64 m, .slice A n c] by rw [hW]; exact ((BlkIs.new w 27 #[.int .i64 m, .slice A n c]).alloc _).alloc _)
  have K5 := hide (show BlkIs W (w.heap.size + 1) 29 #[.string f.n, .string f.v, .bool f.x] by rw [hW]; exact (blk_new2' w _ 29 #[.string f.n, .string f.v, .bool f.x]).alloc _)
  have K6 := hide (show BlkIs W (w.heap.size + 2) 27 #[.int .i64 0, .slice none 0 0] by
    rw [hW]
    have := BlkIs.new ((w.alloc (.cells #[.int .i64 m, .slice A n c] 27)).alloc (.cells #[.string f.n, .string f.v, .bool f.x] 29)) 27 #[.int .i64 0, .slice none 0 0]
    rw [World.size_alloc, World.size_alloc] at this
    exact this)
  have B0 := hide (show Below w.heap.size w W by rw [hW]; exact (((Below.refl w.heap.size w).alloc (Nat.le_refl _) _).alloc (by simp) _).alloc (by simp; omega) _)
  have HFL := hide (hfl.keep B0.out)
  have HW := hide hW
  have HC := hide (dy_Check m A n c l _ HFL.out hs)
  by_cases hck : chkI m l = 0
  · have HWI := hide (fun w' (h : FL w' A n c l) => dy_with m A n c l f hck w' h hs hf hn)
    rw [hck] at HC ⊢
    obtain ⟨L, hL⟩ : ∃ M, M = addL m l f := ⟨_, rfl⟩
    rw [← hL] at HWI ⊢
    obtain ⟨a, ha⟩ : ∃ a, a = f.n := ⟨_, rfl⟩
    obtain ⟨b, hbb⟩ : ∃ a, a = f.v := ⟨_, rfl⟩
    obtain ⟨x, hx⟩ : ∃ a, a = f.x := ⟨_, rfl⟩
    rw [← ha, ← hbb, ← hx] at HWI K5 HW ⊢
    clear hL hfl hs hn hck hf ha hbb hx hW
    go_enter Try.func33, Try.ntmps33
    go_wp2_with fail
    rw [← HW.out]
    refine HC.out.mono ?_
    rintro e w2 ⟨rfl, hb2⟩
    have F2 := hide (HFL.out.keep hb2)
    have K32 := hide (K3.out.keep hb2)
    have K52 := hide (K5.out.keep hb2)
    have K62 := hide (K6.out.keep hb2)
    have B2 := hide (B0.out.trans (hb2.mono B0.out.size))
    obtain ⟨g, hg⟩ : ∃ g, g = w.heap.size := ⟨_, rfl⟩
    have HG := hide hg
    rw [← hg] at K32 K52 K62 ⊢
    have q0 := K32.out.cell 0
    have q1 := K32.out.cell 1
    have r0 := K52.out.cell 0
    have r1 := K52.out.cell 1
    have r2 := K52.out.cell 2
    simp only [List.getElem?_toArray, List.getElem?_cons_zero, List.getElem?_cons_succ] at q0 q1 r0 r1 r2
    clear hg hb2 HFL K3 K5 K6 B0 HC HW
    go_wp2_with fail
    refine (HWI.out _ F2.out).mono ?_
    rintro e w3 ⟨A3, n3, c3, rfl, hf3, hb3⟩
    have F3 := hide hf3
    have K63 := hide (K62.out.keep hb3)
    have B3 := hide (B2.out.trans (hb3.mono B2.out.size))
    clear hf3 hb3 q0 q1 r0 r1 r2 K32 K52 K62 B2 F2 HWI
    go_wp2_with (refine wpList_tab_blk rfl _ _ (g + 2) _ _ _ _ _ _ _ _ rfl K63.out rfl rfl ?_; intro w4 hk4 hb4; have K4 := hide hk4; have KB4 := hide hb4; clear hk4 hb4)
    exact bodyPost_ret (results_tab rfl _ _ (g + 2) m A3 n3 c3 rfl K4.out (.int .i64 0) rfl) rfl ⟨A3, n3, c3, rfl, F3.out.kb K63.out KB4.out, below_kb2 B3.out KB4.out (Nat.le_refl _) (by have := HG.out; omega)⟩
  · have e : addL m l f = l := by unfold addL; rw [if_neg hck]
    rw [e]
    obtain ⟨E, hE⟩ : ∃ E, E = chkI m l := ⟨_, rfl⟩
    rw [← hE] at HC hck ⊢
    have hne : (E != 0) = true := by simp [hck]
    have hne2 : (E == 0) = false := by simp [hck]
    obtain ⟨a, ha⟩ : ∃ a, a = f.n := ⟨_, rfl⟩
    obtain ⟨b, hbb⟩ : ∃ a, a = f.v := ⟨_, rfl⟩
    obtain ⟨x, hx⟩ : ∃ a, a = f.x := ⟨_, rfl⟩
    rw [← ha, ← hbb, ← hx] at K5 HW ⊢
    clear hE hfl hs hn hck e ha hbb hx hW hf
    go_enter Try.func33, Try.ntmps33
    go_wp2_with fail
    rw [← HW.out]
    refine HC.out.mono ?_
    rintro e w2 ⟨rfl, hb2⟩
    have F2 := hide (HFL.out.keep hb2)
    have K32 := hide (K3.out.keep hb2)
    have K62 := hide (K6.out.keep hb2)
    have B2 := hide (B0.out.trans (hb2.mono B0.out.size))
    obtain ⟨g, hg⟩ : ∃ g, g = w.heap.size := ⟨_, rfl⟩
    have HG := hide hg
    rw [← hg] at K32 K62 ⊢
    have q0 := K32.out.cell 0
    have q1 := K32.out.cell 1
    simp only [List.getElem?_toArray, List.getElem?_cons_zero, List.getElem?_cons_succ] at q0 q1
    clear hg hb2 HFL K3 K5 K6 B0 HC HW
    go_wp2_with (refine wpList_tab_blk rfl _ _ (g + 2) _ _ _ _ _ _ _ _ rfl K62.out rfl rfl ?_; intro w4 hk4 hb4; have K4 := hide hk4; have KB4 := hide hb4; clear hk4 hb4)
    exact bodyPost_ret (results_tab rfl _ _ (g + 2) m A n c rfl K4.out (.int .i64 E) rfl) rfl ⟨A, n, c, rfl, F2.out.kb K62.out KB4.out, below_kb2 B2.out KB4.out (Nat.le_refl _) (by have := HG.out; omega)⟩

/-- A table handed back. -/
def TabOnly (m : Int) (l : List Fd) (w : World) (e : Ending) (w' : World) : Prop := ∃ A n c, e = .returned (.agg #[.int .i64 m, .slice A n c]) ∧ FL w' A n c l ∧ Below w.heap.size w w'
theorem results_tab1 {fn : Func} {p : Tmp} (h : fn.results = #[.cell p 27]) (tmps : Array Value) (w : World) (g : Nat) (m : Int) (A : Option Addr) (n c : Nat)
    (hp : tmps.getD p undef = .pointer (some ⟨g, 0, none⟩)) (hg : BlkIs w g 27 #[.int .i64 m, .slice A n c]) :
    (results fn tmps).run Try.prog w = .ok (.agg #[.int .i64 m, .slice A n c]) w :=
  results_cell_blk h tmps w g _ _ _ hp hg Try.underlying27 rfl tab_size

set_option maxRecDepth 100000 in
set_option maxHeartbeats 1600000 in
theorem dy_Add (m : Int) (A : Option Addr) (n c : Nat) (l : List Fd) (f : Fd) (w : World) (hfl : FL w A n c l) (hs : (szs l : Int) ≤ 1099511627776) (hf : (szF f : Int) ≤ 1099511627776) (hn : (n : Int) ≤ 900000000) :
    Calls Try.prog 20 #[.agg #[.int .i64 m, .slice A n c], .agg #[.string f.n, .string f.v, .bool f.x]] w (TabOnly m (addL m l f) w) := by
  have hz := run_zero_is tab_zero
  obtain ⟨W, hW⟩ : ∃ W, W = ((w.alloc (.cells #[.int .i64 m, .slice A n c] 27)).alloc (.cells #[.string f.n, .string f.v, .bool f.x] 29)).alloc (.cells #[.int .i64 0, .slice none 0 0] 27) := ⟨_, rfl⟩
  have K2 := hide (show BlkIs W w.heap.size 27 #[.int .i64 m, .slice A n c] by rw [hW]; exact ((BlkIs.new w 27 #[.int .i64 m, .slice A n c]).alloc _).alloc _)
  have K4 := hide (show BlkIs W (w.heap.size + 2) 27 #[.int .i64 0, .slice none 0 0] by
    rw [hW]
    have := BlkIs.new ((w.alloc (.cells #[.int .i64 m, .slice A n c] 27)).alloc (.cells #[.string f.n, .string f.v, .bool f.x] 29)) 27 #[.int .i64 0, .slice none 0 0]
    rw [World.size_alloc, World.size_alloc] at this
    exact this)
  have B0 := hide (show Below w.heap.size w W by rw [hW]; exact (((Below.refl w.heap.size w).alloc (Nat.le_refl _) _).alloc (by simp) _).alloc (by simp; omega) _)
  have HC := hide (dy_changeF m A n c l f _ (hfl.keep B0.out) hs hf hn)
  obtain ⟨L, hL⟩ : ∃ M, M = addL m l f := ⟨_, rfl⟩
  obtain ⟨E, hE⟩ : ∃ M, M = chkI m l := ⟨_, rfl⟩
  rw [← hL, ← hE] at HC
  rw [← hL]
  obtain ⟨a, ha⟩ : ∃ a, a = f.n := ⟨_, rfl⟩
  obtain ⟨b, hbb⟩ : ∃ a, a = f.v := ⟨_, rfl⟩
  obtain ⟨x, hx⟩ : ∃ a, a = f.x := ⟨_, rfl⟩
  have HW := hide hW
  rw [← ha, ← hbb, ← hx] at HC HW ⊢
  clear hL hE hfl hs hn ha hbb hx hW hf
  go_enter Try.func20, Try.ntmps20
  go_wp2_with fail
  rw [← HW.out]
  refine HC.out.mono ?_
  rintro e w3 ⟨A3, n3, c3, rfl, hf3, hb3⟩
  obtain ⟨g, hg⟩ : ∃ g, g = w.heap.size := ⟨_, rfl⟩
  have HG := hide hg
  rw [← hg] at K2 K4 ⊢
  have F3 := hide hf3
  have K23 := hide (K2.out.keep hb3)
  have K43 := hide (K4.out.keep hb3)
  have B3 := hide (B0.out.trans (hb3.mono B0.out.size))
  clear hf3 hb3 hg K2 K4 B0 HC HW
  go_wp2_with (first
    | (refine wpList_tab_blk rfl _ _ g _ _ _ _ _ _ _ _ rfl K23.out rfl rfl ?_; intro w4 hk4 hb4; have K24 := hide hk4; have K44 := hide (hb4.blk K43.out (by omega)); have F4 := hide (F3.out.kb K23.out hb4); have B4 := hide (below_kb2 B3.out hb4 (Nat.le_refl _) (by have := HG.out; omega)); have d0 := hk4.cell 0; have d1 := hk4.cell 1; simp only [List.getElem?_toArray, List.getElem?_cons_zero, List.getElem?_cons_succ] at d0 d1; clear hk4 hb4)
    | (refine wpList_tab_blk rfl _ _ (g + 2) _ _ _ _ _ _ _ _ rfl K44.out rfl rfl ?_; intro w5 hk5 hb5; have K5 := hide hk5; have F5 := hide (F4.out.kb K44.out hb5); have B5 := hide (below_kb2 B4.out hb5 (Nat.le_refl _) (by have := HG.out; omega)); clear hk5 hb5))
  exact bodyPost_ret (results_tab1 rfl _ _ (g + 2) m A3 n3 c3 rfl K5.out) rfl ⟨A3, n3, c3, rfl, F5.out, B5.out⟩

/-- What New answers. -/
def newM (q : Int) : Int := if chkI q [] = 0 then q else 0
set_option maxRecDepth 100000 in
set_option maxHeartbeats 1600000 in
theorem dy_New (q : Int) (w : World) :
    Calls Try.prog 18 #[.int .i64 q] w fun e w' => e = .returned (.tuple #[.agg #[.int .i64 (newM q), .slice none 0 0], .int .i64 (chkI q [])]) ∧ Below w.heap.size w w' := by
  have hz := run_zero_is tab_zero
  obtain ⟨W, hW⟩ : ∃ W, W = (w.alloc (.cells #[.int .i64 0, .slice none 0 0] 27)).alloc (.cells #[.int .i64 q, .slice none 0 0] 27) := ⟨_, rfl⟩
  have K2 := hide (show BlkIs W w.heap.size 27 #[.int .i64 0, .slice none 0 0] by rw [hW]; exact (BlkIs.new w 27 #[.int .i64 0, .slice none 0 0]).alloc _)
  have K4 := hide (show BlkIs W (w.heap.size + 1) 27 #[.int .i64 q, .slice none 0 0] by rw [hW]; exact blk_new2' w _ 27 #[.int .i64 q, .slice none 0 0])
  have B0 := hide (show Below w.heap.size w W by rw [hW]; exact ((Below.refl w.heap.size w).alloc (Nat.le_refl _) _).alloc (by simp) _)
  have HW := hide hW
  have HC := hide (dy_Check q none 0 0 [] W (FL.none_ _) (by simp [szs]))
  clear hW
  by_cases hck : chkI q [] = 0
  · have e : newM q = q := if_pos hck
    rw [e]
    rw [hck] at HC ⊢
    clear hck e
    go_enter Try.func18, Try.ntmps18
    go_wp2_with (first
      | (with_reducible refine wpList_tab1 rfl _ _ rfl rfl ?_))
    rw [← HW.out]
    refine HC.out.mono ?_
    rintro e w3 ⟨rfl, hb3⟩
    obtain ⟨g, hg⟩ : ∃ g, g = w.heap.size := ⟨_, rfl⟩
    have HG := hide hg
    rw [← hg] at K2 K4 ⊢
    have K23 := hide (K2.out.keep hb3)
    have K43 := hide (K4.out.keep hb3)
    have B3 := hide (B0.out.trans (hb3.mono B0.out.size))
    have d0 := K43.out.cell 0
    have d1 := K43.out.cell 1
    simp only [List.getElem?_toArray, List.getElem?_cons_zero, List.getElem?_cons_succ] at d0 d1
    clear hb3 hg K2 K4 B0 HC HW
    go_wp2_with (first
      | (refine wpList_tab_blk rfl _ _ g _ _ _ _ _ _ _ _ rfl K23.out rfl rfl ?_; intro w4 hk4 hb4; have K5 := hide hk4; have B4 := hide (below_kb2 B3.out hb4 (Nat.le_refl _) (by have := HG.out; omega)); clear hk4 hb4))
    exact bodyPost_ret (results_tab rfl _ _ g q none 0 0 rfl K5.out (.int .i64 0) rfl) rfl ⟨rfl, B4.out⟩
  · have e : newM q = 0 := if_neg hck
    rw [e]
    obtain ⟨E, hE⟩ : ∃ E, E = chkI q [] := ⟨_, rfl⟩
    rw [← hE] at HC hck ⊢
    have hne : (E != 0) = true := by simp [hck]
    have hne2 : (E == 0) = false := by simp [hck]
    clear hck e hE
    go_enter Try.func18, Try.ntmps18
    go_wp2_with (first
      | (with_reducible refine wpList_tab1 rfl _ _ rfl rfl ?_))
    rw [← HW.out]
    refine HC.out.mono ?_
    rintro e w3 ⟨rfl, hb3⟩
    obtain ⟨g, hg⟩ : ∃ g, g = w.heap.size := ⟨_, rfl⟩
    have HG := hide hg
    rw [← hg] at K2 K4 ⊢
    have K23 := hide (K2.out.keep hb3)
    have B3 := hide (B0.out.trans (hb3.mono B0.out.size))
    clear hb3 hg K2 K4 B0 HC HW
    go_wp2_with (first
      | (with_reducible refine wpList_tab0 rfl rfl ?_)
      | (refine wpList_tab_blk rfl _ _ g _ _ _ _ _ _ _ _ rfl K23.out rfl rfl ?_; intro w4 hk4 hb4; have K5 := hide hk4; have B4 := hide (below_kb2 B3.out hb4 (Nat.le_refl _) (by have := HG.out; omega)); clear hk4 hb4))
    exact bodyPost_ret (results_tab rfl _ _ g 0 none 0 0 rfl K5.out (.int .i64 E) rfl) rfl ⟨rfl, B4.out⟩
end Go.Proofs.Ytchndegcnjejiaa
