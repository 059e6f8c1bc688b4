/-
  Layer 16: to and Step of the document (written by gen16ref.py).
-/
import Derived.Test.YtpjggodcepiagaaLfPart
namespace Go.Proofs.Ytpjggodcepiagaa
set_option linter.unusedSimpArgs false
set_option linter.unusedVariables false
open Go.RowKit

/-- What the document's step answers, and that old blocks stay. -/
def GivesRr (r : Lr) (w : World) (e : Ending) (w' : World) : Prop := e = .returned (.tuple #[.int .u8 r.s, .agg #[.int .i64 r.c, .bool r.n, .bool r.d]]) ∧ Below w.heap.size w w'
theorem vr_one (c : Int) (n d : Bool) : (#[.int .i64 c, .bool n, .bool d] : Array Value).all (·.oneCell') = true := by simp [Value.oneCell']
theorem gives_rr {r : Lr} {s c : Int} {n d : Bool} {w w' : World} (h : Below w.heap.size w w') (e : r = ⟨s, c, n, d⟩) : GivesRr r w (.returned (.tuple #[.int .u8 s, .agg #[.int .i64 c, .bool n, .bool d]])) w' := by subst e; exact ⟨rfl, h⟩

def ToIs (k : Int) (b : Bool) (w : World) (e : Ending) (w' : World) : Prop := ∃ g, e = .returned (.slice (some ⟨g, 0, none⟩) 6 6) ∧ BlkIs w' g 3 ((toL k b).map (Value.int .i64)).toArray ∧ Below w.heap.size w w'

theorem rf_to_0t (w : World) : Calls Try.prog 24 #[.agg #[.int .u8 0, .bool true]] w (ToIs 0 true w) := by
  go_enter Try.func24, Try.ntmps24
  go_wp2_with fail
  go_ret
  exact ⟨_, rfl, new2 _ _ _ _, bel2 w _ _⟩
theorem rf_to_0f (w : World) : Calls Try.prog 24 #[.agg #[.int .u8 0, .bool false]] w (ToIs 0 false w) := by
  go_enter Try.func24, Try.ntmps24
  go_wp2_with fail
  go_ret
  exact ⟨_, rfl, new2 _ _ _ _, bel2 w _ _⟩
theorem rf_to_1t (w : World) : Calls Try.prog 24 #[.agg #[.int .u8 1, .bool true]] w (ToIs 1 true w) := by
  go_enter Try.func24, Try.ntmps24
  go_wp2_with fail
  go_ret
  exact ⟨_, rfl, new2 _ _ _ _, bel2 w _ _⟩
theorem rf_to_1f (w : World) : Calls Try.prog 24 #[.agg #[.int .u8 1, .bool false]] w (ToIs 1 false w) := by
  go_enter Try.func24, Try.ntmps24
  go_wp2_with fail
  go_ret
  exact ⟨_, rfl, new2 _ _ _ _, bel2 w _ _⟩
theorem rf_to_2 (b : Bool) (w : World) : Calls Try.prog 24 #[.agg #[.int .u8 2, .bool b]] w (ToIs 2 b w) := by
  go_enter Try.func24, Try.ntmps24
  go_wp2_with fail
  go_ret
  exact ⟨_, rfl, new2 _ _ _ _, bel2 w _ _⟩
theorem rf_to_3 (b : Bool) (w : World) : Calls Try.prog 24 #[.agg #[.int .u8 3, .bool b]] w (ToIs 3 b w) := by
  go_enter Try.func24, Try.ntmps24
  go_wp2_with fail
  go_ret
  exact ⟨_, rfl, new2 _ _ _ _, bel2 w _ _⟩
theorem rf_to_4 (b : Bool) (w : World) : Calls Try.prog 24 #[.agg #[.int .u8 4, .bool b]] w (ToIs 4 b w) := by
  go_enter Try.func24, Try.ntmps24
  go_wp2_with fail
  go_ret
  exact ⟨_, rfl, new2 _ _ _ _, bel2 w _ _⟩
theorem rf_to_5t (w : World) : Calls Try.prog 24 #[.agg #[.int .u8 5, .bool true]] w (ToIs 5 true w) := by
  go_enter Try.func24, Try.ntmps24
  go_wp2_with fail
  go_ret
  exact ⟨_, rfl, new2 _ _ _ _, bel2 w _ _⟩
theorem rf_to_5f (w : World) : Calls Try.prog 24 #[.agg #[.int .u8 5, .bool false]] w (ToIs 5 false w) := by
  go_enter Try.func24, Try.ntmps24
  go_wp2_with fail
  go_ret
  exact ⟨_, rfl, new2 _ _ _ _, bel2 w _ _⟩
theorem rf_to_6t (w : World) : Calls Try.prog 24 #[.agg #[.int .u8 6, .bool true]] w (ToIs 6 true w) := by
  go_enter Try.func24, Try.ntmps24
  go_wp2_with fail
  go_ret
  exact ⟨_, rfl, new2 _ _ _ _, bel2 w _ _⟩
theorem rf_to_6f (w : World) : Calls Try.prog 24 #[.agg #[.int .u8 6, .bool false]] w (ToIs 6 false w) := by
  go_enter Try.func24, Try.ntmps24
  go_wp2_with fail
  go_ret
  exact ⟨_, rfl, new2 _ _ _ _, bel2 w _ _⟩
theorem rf_to_7 (b : Bool) (w : World) : Calls Try.prog 24 #[.agg #[.int .u8 7, .bool b]] w (ToIs 7 b w) := by
  go_enter Try.func24, Try.ntmps24
  go_wp2_with fail
  go_ret
  exact ⟨_, rfl, new2 _ _ _ _, bel2 w _ _⟩

theorem rf_to {k : Int} (b : Bool) (hk : 0 ≤ k) (hk7 : k ≤ 7) (w : World) : Calls Try.prog 24 #[.agg #[.int .u8 k, .bool b]] w (ToIs k b w) := by
  have h : k = 0 ∨ k = 1 ∨ k = 2 ∨ k = 3 ∨ k = 4 ∨ k = 5 ∨ k = 6 ∨ k = 7 := by omega
  rcases h with rfl | rfl | rfl | rfl | rfl | rfl | rfl | rfl
  · cases b; exact rf_to_0f w; exact rf_to_0t w
  · cases b; exact rf_to_1f w; exact rf_to_1t w
  · exact rf_to_2 b w
  · exact rf_to_3 b w
  · exact rf_to_4 b w
  · cases b; exact rf_to_5f w; exact rf_to_5t w
  · cases b; exact rf_to_6f w; exact rf_to_6t w
  · exact rf_to_7 b w

def AtIs (m : Nat) (n : Int) (w : World) (e : Ending) (w' : World) : Prop := ∃ g, e = .returned (.slice (some ⟨g, 0, none⟩) 6 6) ∧ w'.cell? ⟨g, m, none⟩ = some (.int .i64 n) ∧ Below w.heap.size w w'
theorem to_at {k : Int} {b : Bool} {m : Nat} {n : Int} (hk : 0 ≤ k) (hk7 : k ≤ 7) (hn : (toL k b)[m]? = some n) (w : World) : Calls Try.prog 24 #[.agg #[.int .u8 k, .bool b]] w (AtIs m n w) :=
  (rf_to b hk hk7 w).mono fun e w' ⟨g, he, hb, hw⟩ => ⟨g, he, by rw [hb.cell]; simp [hn], hw⟩

theorem fin_lo (m : Nat) (n : Int) (h : n ≤ 5) : finR m n = ⟨n, 0, false, false⟩ := by
  unfold finR
  rw [if_neg (by omega), if_neg (by omega), if_neg (by omega), if_neg (by omega), if_neg (by omega), if_neg (by omega)]
set_option maxHeartbeats 800000 in
theorem rf_Step_6 (m : Nat) (k : Int) (b : Bool) (w : World) (hm : m ≤ 5) (hk7 : k ≤ 7) (hn : ∀ w, Calls Try.prog 24 #[.agg #[.int .u8 k, .bool b]] w (AtIs m 6 w)) : Calls Try.prog 8 #[.int .u8 (m : Int), .agg #[.int .u8 k, .bool b]] w (GivesRr (finR m 6) w) := by
  have HN := hide hn
  have HB := hide (bel2 w (.cells #[.int .u8 k, .bool b] 23) (.cells #[.int .i64 0, .bool false, .bool false] 32))
  have HK := hide (new2 w (.cells #[.int .u8 k, .bool b] 23) 32 #[.int .i64 0, .bool false, .bool false])
  have h1 : (m : Int) < 6 := by omega
  have h2 : ¬ 5 < (m : Int) := by omega
  have h3 : ¬ 7 < k := by omega
  clear hn hm hk7
  go_enter Try.func8, Try.ntmps8
  go_wp2_with fail
  refine (HN.out _).mono ?_
  rintro e w1 ⟨g, rfl, hc, hb⟩
  have HK1 := hide (HK.out.keep hb)
  have HB1 := hide (HB.out.trans (hb.mono HB.out.size))
  clear hb HK HB HN
  go_wp2_with (refine wpList_store_blk rfl 32 (.tmp 5) (.tmp 25) rfl (w.heap.size + 1) #[.int .i64 1, .bool true, .bool false] #[.int .i64 0, .bool false, .bool false] 32 rfl rfl HK1.out vr_size rfl (vr_one _ _ _) ?_)
  refine bodyPost_ret (results_rv rfl _ _ (w.heap.size + 1) _ _ _ _ rfl (HK1.out.row _) rfl) rfl ?_
  exact gives_rr (below_setRow HB1.out (by omega) _) rfl

set_option maxHeartbeats 800000 in
theorem rf_Step_7 (m : Nat) (k : Int) (b : Bool) (w : World) (hm : m ≤ 5) (hk7 : k ≤ 7) (hn : ∀ w, Calls Try.prog 24 #[.agg #[.int .u8 k, .bool b]] w (AtIs m 7 w)) : Calls Try.prog 8 #[.int .u8 (m : Int), .agg #[.int .u8 k, .bool b]] w (GivesRr (finR m 7) w) := by
  have HN := hide hn
  have HB := hide (bel2 w (.cells #[.int .u8 k, .bool b] 23) (.cells #[.int .i64 0, .bool false, .bool false] 32))
  have HK := hide (new2 w (.cells #[.int .u8 k, .bool b] 23) 32 #[.int .i64 0, .bool false, .bool false])
  have h1 : (m : Int) < 6 := by omega
  have h2 : ¬ 5 < (m : Int) := by omega
  have h3 : ¬ 7 < k := by omega
  clear hn hm hk7
  go_enter Try.func8, Try.ntmps8
  go_wp2_with fail
  refine (HN.out _).mono ?_
  rintro e w1 ⟨g, rfl, hc, hb⟩
  have HK1 := hide (HK.out.keep hb)
  have HB1 := hide (HB.out.trans (hb.mono HB.out.size))
  clear hb HK HB HN
  go_wp2_with (refine wpList_store_blk rfl 32 (.tmp 5) (.tmp 28) rfl (w.heap.size + 1) #[.int .i64 1, .bool false, .bool false] #[.int .i64 0, .bool false, .bool false] 32 rfl rfl HK1.out vr_size rfl (vr_one _ _ _) ?_)
  refine bodyPost_ret (results_rv rfl _ _ (w.heap.size + 1) _ _ _ _ rfl (HK1.out.row _) rfl) rfl ?_
  exact gives_rr (below_setRow HB1.out (by omega) _) rfl

set_option maxHeartbeats 800000 in
theorem rf_Step_8 (m : Nat) (k : Int) (b : Bool) (w : World) (hm : m ≤ 5) (hk7 : k ≤ 7) (hn : ∀ w, Calls Try.prog 24 #[.agg #[.int .u8 k, .bool b]] w (AtIs m 8 w)) : Calls Try.prog 8 #[.int .u8 (m : Int), .agg #[.int .u8 k, .bool b]] w (GivesRr (finR m 8) w) := by
  have HN := hide hn
  have HB := hide (bel2 w (.cells #[.int .u8 k, .bool b] 23) (.cells #[.int .i64 0, .bool false, .bool false] 32))
  have HK := hide (new2 w (.cells #[.int .u8 k, .bool b] 23) 32 #[.int .i64 0, .bool false, .bool false])
  have h1 : (m : Int) < 6 := by omega
  have h2 : ¬ 5 < (m : Int) := by omega
  have h3 : ¬ 7 < k := by omega
  clear hn hm hk7
  go_enter Try.func8, Try.ntmps8
  go_wp2_with fail
  refine (HN.out _).mono ?_
  rintro e w1 ⟨g, rfl, hc, hb⟩
  have HK1 := hide (HK.out.keep hb)
  have HB1 := hide (HB.out.trans (hb.mono HB.out.size))
  clear hb HK HB HN
  go_wp2_with (refine wpList_store_blk rfl 32 (.tmp 5) (.tmp 31) rfl (w.heap.size + 1) #[.int .i64 5, .bool false, .bool false] #[.int .i64 0, .bool false, .bool false] 32 rfl rfl HK1.out vr_size rfl (vr_one _ _ _) ?_)
  refine bodyPost_ret (results_rv rfl _ _ (w.heap.size + 1) _ _ _ _ rfl (HK1.out.row _) rfl) rfl ?_
  exact gives_rr (below_setRow HB1.out (by omega) _) rfl

set_option maxHeartbeats 800000 in
theorem rf_Step_9 (m : Nat) (k : Int) (b : Bool) (w : World) (hm : m ≤ 5) (hk7 : k ≤ 7) (hn : ∀ w, Calls Try.prog 24 #[.agg #[.int .u8 k, .bool b]] w (AtIs m 9 w)) : Calls Try.prog 8 #[.int .u8 (m : Int), .agg #[.int .u8 k, .bool b]] w (GivesRr (finR m 9) w) := by
  have HN := hide hn
  have HB := hide (bel2 w (.cells #[.int .u8 k, .bool b] 23) (.cells #[.int .i64 0, .bool false, .bool false] 32))
  have HK := hide (new2 w (.cells #[.int .u8 k, .bool b] 23) 32 #[.int .i64 0, .bool false, .bool false])
  have h1 : (m : Int) < 6 := by omega
  have h2 : ¬ 5 < (m : Int) := by omega
  have h3 : ¬ 7 < k := by omega
  clear hn hm hk7
  go_enter Try.func8, Try.ntmps8
  go_wp2_with fail
  refine (HN.out _).mono ?_
  rintro e w1 ⟨g, rfl, hc, hb⟩
  have HK1 := hide (HK.out.keep hb)
  have HB1 := hide (HB.out.trans (hb.mono HB.out.size))
  clear hb HK HB HN
  go_wp2_with (refine wpList_store_blk rfl 32 (.tmp 5) (.tmp 35) rfl (w.heap.size + 1) #[.int .i64 5, .bool true, .bool false] #[.int .i64 0, .bool false, .bool false] 32 rfl rfl HK1.out vr_size rfl (vr_one _ _ _) ?_)
  refine bodyPost_ret (results_rv rfl _ _ (w.heap.size + 1) _ _ _ _ rfl (HK1.out.row _) rfl) rfl ?_
  exact gives_rr (below_setRow HB1.out (by omega) _) rfl

set_option maxHeartbeats 800000 in
theorem rf_Step_10 (m : Nat) (k : Int) (b : Bool) (w : World) (hm : m ≤ 5) (hk7 : k ≤ 7) (hn : ∀ w, Calls Try.prog 24 #[.agg #[.int .u8 k, .bool b]] w (AtIs m 10 w)) : Calls Try.prog 8 #[.int .u8 (m : Int), .agg #[.int .u8 k, .bool b]] w (GivesRr (finR m 10) w) := by
  have HN := hide hn
  have HB := hide (bel2 w (.cells #[.int .u8 k, .bool b] 23) (.cells #[.int .i64 0, .bool false, .bool false] 32))
  have HK := hide (new2 w (.cells #[.int .u8 k, .bool b] 23) 32 #[.int .i64 0, .bool false, .bool false])
  have h1 : (m : Int) < 6 := by omega
  have h2 : ¬ 5 < (m : Int) := by omega
  have h3 : ¬ 7 < k := by omega
  clear hn hm hk7
  go_enter Try.func8, Try.ntmps8
  go_wp2_with fail
  refine (HN.out _).mono ?_
  rintro e w1 ⟨g, rfl, hc, hb⟩
  have HK1 := hide (HK.out.keep hb)
  have HB1 := hide (HB.out.trans (hb.mono HB.out.size))
  clear hb HK HB HN
  go_wp2_with (refine wpList_store_blk rfl 32 (.tmp 5) (.tmp 39) rfl (w.heap.size + 1) #[.int .i64 0, .bool false, .bool true] #[.int .i64 0, .bool false, .bool false] 32 rfl rfl HK1.out vr_size rfl (vr_one _ _ _) ?_)
  refine bodyPost_ret (results_rv rfl _ _ (w.heap.size + 1) _ _ _ _ rfl (HK1.out.row _) rfl) rfl ?_
  exact gives_rr (below_setRow HB1.out (by omega) _) rfl

set_option maxHeartbeats 800000 in
theorem rf_Step_11 (m : Nat) (k : Int) (b : Bool) (w : World) (hm : m ≤ 5) (hk7 : k ≤ 7) (hn : ∀ w, Calls Try.prog 24 #[.agg #[.int .u8 k, .bool b]] w (AtIs m 11 w)) : Calls Try.prog 8 #[.int .u8 (m : Int), .agg #[.int .u8 k, .bool b]] w (GivesRr (finR m 11) w) := by
  have HN := hide hn
  have HB := hide (bel2 w (.cells #[.int .u8 k, .bool b] 23) (.cells #[.int .i64 0, .bool false, .bool false] 32))
  have HK := hide (new2 w (.cells #[.int .u8 k, .bool b] 23) 32 #[.int .i64 0, .bool false, .bool false])
  have h1 : (m : Int) < 6 := by omega
  have h2 : ¬ 5 < (m : Int) := by omega
  have h3 : ¬ 7 < k := by omega
  clear hn hm hk7
  go_enter Try.func8, Try.ntmps8
  go_wp2_with fail
  refine (HN.out _).mono ?_
  rintro e w1 ⟨g, rfl, hc, hb⟩
  have HK1 := hide (HK.out.keep hb)
  have HB1 := hide (HB.out.trans (hb.mono HB.out.size))
  clear hb HK HB HN
  go_wp2_with (refine wpList_store_blk rfl 32 (.tmp 5) (.tmp 43) rfl (w.heap.size + 1) #[.int .i64 2, .bool false, .bool false] #[.int .i64 0, .bool false, .bool false] 32 rfl rfl HK1.out vr_size rfl (vr_one _ _ _) ?_)
  refine bodyPost_ret (results_rv rfl _ _ (w.heap.size + 1) _ _ _ _ rfl (HK1.out.row _) rfl) rfl ?_
  exact gives_rr (below_setRow HB1.out (by omega) _) rfl

set_option maxHeartbeats 800000 in
theorem rf_Step_lo (m : Nat) (k : Int) (n : Int) (b : Bool) (w : World) (hm : m ≤ 5) (hk7 : k ≤ 7) (hn : ∀ w, Calls Try.prog 24 #[.agg #[.int .u8 k, .bool b]] w (AtIs m n w)) (n0 : 0 ≤ n) (n5 : n ≤ 5) : Calls Try.prog 8 #[.int .u8 (m : Int), .agg #[.int .u8 k, .bool b]] w (GivesRr (finR m n) w) := by
  have HN := hide hn
  have HB := hide (bel2 w (.cells #[.int .u8 k, .bool b] 23) (.cells #[.int .i64 0, .bool false, .bool false] 32))
  have HK := hide (new2 w (.cells #[.int .u8 k, .bool b] 23) 32 #[.int .i64 0, .bool false, .bool false])
  have h1 : (m : Int) < 6 := by omega
  have h2 : ¬ 5 < (m : Int) := by omega
  have h3 : ¬ 7 < k := by omega
  clear hn hm hk7
  go_enter Try.func8, Try.ntmps8
  go_wp2_with fail
  refine (HN.out _).mono ?_
  rintro e w1 ⟨g, rfl, hc, hb⟩
  have HK1 := hide (HK.out.keep hb)
  have HB1 := hide (HB.out.trans (hb.mono HB.out.size))
  clear hb HK HB HN
  go_wp2_with (refine wpList_store_blk rfl 32 (.tmp 5) (.tmp 46) rfl (w.heap.size + 1) #[.int .i64 0, .bool false, .bool false] #[.int .i64 0, .bool false, .bool false] 32 rfl rfl HK1.out vr_size rfl (vr_one _ _ _) ?_)
  refine bodyPost_ret (results_rv rfl _ _ (w.heap.size + 1) _ _ _ _ rfl (HK1.out.row _) rfl) rfl ?_
  exact gives_rr (below_setRow HB1.out (by omega) _) (fin_lo m n n5)


theorem rf_Step_far (s k : Int) (b : Bool) (w : World) (hs : 0 ≤ s) (h : 7 < k ∨ 5 < s) : Calls Try.prog 8 #[.int .u8 s, .agg #[.int .u8 k, .bool b]] w (GivesRr (stepR s k b) w) := by
  have HE := hide (show stepR s k b = ⟨s, 2, true, false⟩ from step_far (by omega))
  by_cases hk : 7 < k
  · clear h hs
    go_enter Try.func8, Try.ntmps8
    go_wp2_with fail
    refine bodyPost_ret (results_rv rfl _ _ (w.heap.size + 1) _ _ _ _ rfl (new2 _ _ _ _) rfl) rfl ?_
    exact gives_rr (bel2 w _ _) HE.out
  · have h5 : 5 < s := by omega
    clear h hs
    go_enter Try.func8, Try.ntmps8
    go_wp2_with fail
    refine bodyPost_ret (results_rv rfl _ _ (w.heap.size + 1) _ _ _ _ rfl (new2 _ _ _ _) rfl) rfl ?_
    exact gives_rr (bel2 w _ _) HE.out

/-- The document's Step answers as the program's does. -/
theorem rf_Step (s k : Int) (b : Bool) (w : World) (hs : 0 ≤ s) (hk : 0 ≤ k) : Calls Try.prog 8 #[.int .u8 s, .agg #[.int .u8 k, .bool b]] w (GivesRr (stepR s k b) w) := by
  by_cases h : 7 < k ∨ 5 < s
  · exact rf_Step_far s k b w hs h
  obtain ⟨m, rfl⟩ : ∃ m : Nat, s = (m : Int) := ⟨s.toNat, by omega⟩
  have hm : m ≤ 5 := by omega
  have hk7 : k ≤ 7 := by omega
  obtain ⟨n, hn, h0, h11, e⟩ := step_fin (b := b) hs (by omega) hk hk7
  rw [e]
  rw [Int.toNat_natCast] at hn
  have ha := to_at hk hk7 hn
  clear hn e h
  by_cases n5 : n ≤ 5
  · exact rf_Step_lo m k n b w hm hk7 ha h0 n5
  have h : n = 6 ∨ n = 7 ∨ n = 8 ∨ n = 9 ∨ n = 10 ∨ n = 11 := by omega
  rcases h with rfl | rfl | rfl | rfl | rfl | rfl
  · exact rf_Step_6 m k b w hm hk7 ha
  · exact rf_Step_7 m k b w hm hk7 ha
  · exact rf_Step_8 m k b w hm hk7 ha
  · exact rf_Step_9 m k b w hm hk7 ha
  · exact rf_Step_10 m k b w hm hk7 ha
  · exact rf_Step_11 m k b w hm hk7 ha
end Go.Proofs.Ytpjggodcepiagaa
