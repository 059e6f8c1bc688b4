/-
  Layer 4: a table's copy with a field more.
-/
import Derived.Test.YtchndegcnjejiaaDyWithin
import Derived.Deep.RegionHeld3
namespace Go.Proofs.Ytchndegcnjejiaa
open Go.RowKit

theorem FL.ofKB {w w' : World} {A : Option Addr} {n c : Nat} {l : List Fd} (h : FL w A n c l) {g : Nat} (kb : KB (· = g) w w') (hg : w.heap.size ≤ g) : FL w' A n c l :=
  h.keep ⟨kb.os, kb.tape, kb.output, kb.size, fun k hk => kb.block k hk (by omega)⟩

set_option maxRecDepth 100000 in
set_option maxHeartbeats 1600000 in
theorem dy_with_no (m : Int) (A : Option Addr) (n c : Nat) (_l : List Fd) (f : Fd) (hm : rmB m = true) (hf : m < (szF f : Int)) (hs : (szF f : Int) ≤ 1099511627776) (w : World) :
    Calls Try.prog 34 #[.agg #[.int .i64 m, .slice A n c], .agg #[.string f.n, .string f.v, .bool f.x]] w (TabIs m [] 0 w) := by
  have hz := run_zero_is tab_zero
  have HC := hide (fd_Size f.n f.v f.x hs)
  have hb := rmB_bd hm
  have h0 : (0 : Int) ≤ m := hb.1
  have h1 : m ≤ 4096 := hb.2
  obtain ⟨z, hz'⟩ : ∃ z : Nat, z = f.n.size + f.v.size + 32 := ⟨_, rfl⟩
  have HZ := hide (show szF f = z by rw [hz']; rfl)
  rw [← hz'] at HC
  have hzm : m < (z : Int) := by rw [← HZ.out]; exact hf
  have hz1 : (z : Int) ≤ 1099511627776 := by rw [← HZ.out]; exact hs
  have hlow : m - (z : Int) < 0 := by omega
  clear hz' hf hs hm hb
  obtain ⟨W, hW⟩ : ∃ W, W = ((w.alloc (.cells #[.int .i64 m, .slice A n c] 27)).alloc (.cells #[.string f.n, .string f.v, .bool f.x] 29)).alloc (.cells #[.int .i64 0, .slice none 0 0] 27) := ⟨_, rfl⟩
  have K2 := hide (show BlkIs W w.heap.size 27 #[.int .i64 m, .slice A n c] by rw [hW]; exact ((BlkIs.new w 27 #[.int .i64 m, .slice A n c]).alloc _).alloc _)
  have K3 := hide (show BlkIs W (w.heap.size + 1) 29 #[.string f.n, .string f.v, .bool f.x] by rw [hW]; exact (blk_new2' w _ 29 #[.string f.n, .string f.v, .bool f.x]).alloc _)
  have K4 := hide (show BlkIs W (w.heap.size + 2) 27 #[.int .i64 0, .slice none 0 0] by
    rw [hW]
    have := BlkIs.new ((w.alloc (.cells #[.int .i64 m, .slice A n c] 27)).alloc (.cells #[.string f.n, .string f.v, .bool f.x] 29)) 27 #[.int .i64 0, .slice none 0 0]
    rw [World.size_alloc, World.size_alloc] at this
    exact this)
  have B0 := hide (show Below w.heap.size w W by rw [hW]; exact (((Below.refl w.heap.size w).alloc (Nat.le_refl _) _).alloc (by simp) _).alloc (by simp; omega) _)
  have HW := hide hW
  clear hW
  go_enter Try.func34, Try.ntmps34
  go_wp2_with fail
  rw [← HW.out]
  obtain ⟨g2, hg2⟩ : ∃ g, g = w.heap.size := ⟨_, rfl⟩
  rw [← hg2] at K2 K3 K4 ⊢
  have HG := hide hg2
  clear hg2
  have q0 := K2.out.drew.cell 0
  have r0 := K3.out.drew.cell 0
  have r1 := K3.out.drew.cell 1
  have r2 := K3.out.drew.cell 2
  simp only [List.getElem?_toArray, List.getElem?_cons_zero, List.getElem?_cons_succ] at q0 r0 r1 r2
  go_region_with (go_at_call 22; refine (HC.out _).mono ?_; rintro e w3 ⟨rfl, hb3⟩; have d0 := (K2.out.drew.keep hb3).cell 0; simp only [List.getElem?_toArray, List.getElem?_cons_zero] at d0; have KK2 := hide (K2.out.drew.keep hb3); have KK4 := hide (K4.out.drew.keep hb3); have HB3 := hide hb3; clear hb3)
  all_goals
    have d0 := KK2.out.cell 0
    simp only [List.getElem?_toArray, List.getElem?_cons_zero] at d0
    go_wp2_with (first
      | (with_reducible refine wpList_tab1 rfl _ _ rfl rfl ?_)
      | (refine wpList_tab_blk rfl _ _ (g2 + 2) _ _ _ _ _ _ _ _ rfl KK4.out rfl rfl ?_; intro w4 hk4 hb4; have K5 := hide hk4; have KB5 := hide hb4; clear hk4 hb4))
    refine bodyPost_ret (results_tab rfl _ _ (g2 + 2) m none 0 0 rfl K5.out (.int .i64 0) rfl) rfl ⟨none, 0, 0, rfl, FL.none_ _, ?_⟩
    have hbb := B0.out.drew
    exact below_kb2 (hbb.trans (HB3.out.mono hbb.size)) KB5.out (Nat.le_refl _) (by have := HG.out; omega)

/-- What stands all through the last statement of 'with'. -/
def TabAt (w : World) (g : Nat) : Prop := ∃ m A n c, BlkIs w g 27 #[.int .i64 m, .slice A n c]
abbrev WithS (W w' : World) (g : Nat) (m : Int) (A : Option Addr) (n c : Nat) (a b : ByteArray) : Prop :=
  w'.cell? ⟨g, 0, none⟩ = some (.int .i64 m) ∧ w'.cell? ⟨g, 1, none⟩ = some (.slice A n c) ∧ w'.cell? ⟨g + 1, 0, none⟩ = some (.string a) ∧ w'.cell? ⟨g + 1, 1, none⟩ = some (.string b) ∧ w'.cell? ⟨g + 1, 2, none⟩ = some (.bool false) ∧ KB (· = g + 2) W w' ∧ TabAt w' (g + 2)
section
variable {W w' w'' : World} {g : Nat} {m : Int} {A : Option Addr} {n c : Nat} {a b : ByteArray} (h2 : BlkIs W g 27 #[.int .i64 m, .slice A n c]) (h3 : BlkIs W (g + 1) 29 #[.string a, .string b, .bool false])
include h2 h3
theorem with_s (kb : KB (· = g + 2) W w') (ht : TabAt w' (g + 2)) : WithS W w' g m A n c a b := by
  have k2 := kb.blk h2 (by omega)
  have k3 := kb.blk h3 (by omega)
  have q0 := k2.cell 0
  have q1 := k2.cell 1
  have r0 := k3.cell 0
  have r1 := k3.cell 1
  have r2 := k3.cell 2
  simp only [List.getElem?_toArray, List.getElem?_cons_zero, List.getElem?_cons_succ] at q0 q1 r0 r1 r2
  exact ⟨q0, q1, r0, r1, r2, kb, ht⟩
theorem with_s_alloc (h : WithS W w' g m A n c a b) (o : Obj) : WithS W (w'.alloc o) g m A n c a b := by
  obtain ⟨m', A', n', c', ht⟩ := h.2.2.2.2.2.2
  exact with_s h2 h3 (h.2.2.2.2.2.1.alloc o) ⟨m', A', n', c', ht.alloc o⟩
theorem with_s_drew (h : WithS W w' g m A n c a b) : WithS W w'.drew g m A n c a b := by
  obtain ⟨m', A', n', c', ht⟩ := h.2.2.2.2.2.2
  exact with_s h2 h3 h.2.2.2.2.2.1.drew ⟨m', A', n', c', ht.drew⟩
theorem with_s_below (h : WithS W w' g m A n c a b) (hb : Below w'.heap.size w' w'') : WithS W w'' g m A n c a b := by
  obtain ⟨m', A', n', c', ht⟩ := h.2.2.2.2.2.2
  exact with_s h2 h3 (h.2.2.2.2.2.1.trans (KB.of_below _ hb)) ⟨m', A', n', c', ht.keep hb⟩
theorem with_s_put (h : WithS W w' g m A n c a b) (mm : Int) (AA : Option Addr) (nn cc : Nat) : WithS W ((w'.setCell ⟨g + 2, 0, none⟩ (.int .i64 mm)).setCell ⟨g + 2, 1, none⟩ (.slice AA nn cc)) g m A n c a b := by
  obtain ⟨m', A', n', c', ht⟩ := h.2.2.2.2.2.2
  exact with_s h2 h3 ((h.2.2.2.2.2.1.setCell (fun _ => rfl) _).setCell (fun _ => rfl) _) ⟨mm, AA, nn, cc, (ht.put 0 _).put 1 _⟩
end

theorem FL.lit (w : World) (a b : ByteArray) (x : Bool) : FL (w.alloc (.cells #[.string a, .string b, .bool x] 29)) (some ⟨w.heap.size, 0, none⟩) 1 1 [⟨a, b, x⟩] :=
  FL.of_own (B := 0) (e := 29) ⟨rfl, .inr ⟨w.heap.size, 1, _, rfl, Nat.zero_le _, heap_alloc_new w _, Nat.le_refl _, by unfold maxLen; omega, rfl, rfl⟩⟩
theorem tab_store_run (w : World) (g : Nat) (m : Int) (A : Option Addr) (n c : Nat) (hg : TabAt w g) :
    Sem.run Try.prog (storeCells ⟨g, 0, none⟩ [.int .i64 m, .slice A n c]) w = .ok () (w.setRow g #[.int .i64 m, .slice A n c]) := by
  obtain ⟨m', A', n', c', hg⟩ := hg
  rw [run_storeCells_from g 27 [.int .i64 m, .slice A n c] 0 #[.int .i64 m', .slice A' n' c'] w hg rfl (by intro x hx; simp at hx; rcases hx with rfl | rfl <;> rfl)]
  rfl

set_option maxRecDepth 100000 in
set_option maxHeartbeats 3200000 in
theorem dy_with_yes (m : Int) (A : Option Addr) (n c : Nat) (l : List Fd) (f : Fd) (hm : rmB m = true) (hf : ¬ m < (szF f : Int)) (w : World) (hfl : FL w A n c l) (hs : (szs l : Int) ≤ 1099511627776) (hn : (n : Int) ≤ 900000000) :
    Calls Try.prog 34 #[.agg #[.int .i64 m, .slice A n c], .agg #[.string f.n, .string f.v, .bool f.x]] w (TabIs m (⟨f.n, f.v, false⟩ :: l.take (fitK l (m - (szF f : Int)))) 0 w) := by
  have hz := run_zero_is tab_zero
  have hb := rmB_bd hm
  have h0 : (0 : Int) ≤ m := hb.1
  have h1 : m ≤ 4096 := hb.2
  have HC := hide (fd_Size f.n f.v f.x (by unfold szF at hf; omega))
  obtain ⟨z, hz'⟩ : ∃ z : Nat, z = f.n.size + f.v.size + 32 := ⟨_, rfl⟩
  have HZ := hide (show szF f = z by rw [hz']; rfl)
  rw [← hz'] at HC
  have hzm : ¬ m < (z : Int) := by rw [← HZ.out]; exact hf
  have hz1 : (z : Int) ≤ 4096 := by omega
  have hz0 : (0 : Int) ≤ (z : Int) := by omega
  have hlow : ¬ m - (z : Int) < 0 := by omega
  have HWR := hide (show IntKind.i64.wrap (m - (z : Int)) = m - (z : Int) from IntWalk.i64_in _ (by omega))
  have HNL := hide (show n = l.length from hfl.len.symm)
  have HNI := hide hn
  have HNW := hide (fun w' (h : FL w' A n c l) => dy_newest m A n c l (m - (z : Int)) (by omega) (by omega) w' h hs)
  have HK := hide (fitK_le l (m - (z : Int)))
  rw [HZ.out]
  obtain ⟨k, hk⟩ : ∃ k, k = fitK l (m - (z : Int)) := ⟨_, rfl⟩
  rw [← hk] at HK HNW ⊢
  have HKN := hide (show k ≤ n by have h1 := HK.out; have h2 := HNL.out; omega)
  obtain ⟨a, ha⟩ : ∃ a, a = f.n := ⟨_, rfl⟩
  obtain ⟨b, hbb⟩ : ∃ a, a = f.v := ⟨_, rfl⟩
  obtain ⟨x, hx⟩ : ∃ a, a = f.x := ⟨_, rfl⟩
  rw [← ha, ← hbb, ← hx] at HC ⊢
  have HFL0 := hide hfl
  clear hz' hf hs hm hb hk hn ha hbb hx hfl
  obtain ⟨W, hW⟩ : ∃ W, W = ((w.alloc (.cells #[.int .i64 m, .slice A n c] 27)).alloc (.cells #[.string a, .string b, .bool x] 29)).alloc (.cells #[.int .i64 0, .slice none 0 0] 27) := ⟨_, rfl⟩
  have K2 := hide (show BlkIs W w.heap.size 27 #[.int .i64 m, .slice A n c] by rw [hW]; exact ((BlkIs.new w 27 #[.int .i64 m, .slice A n c]).alloc _).alloc _)
  have K3 := hide (show BlkIs W (w.heap.size + 1) 29 #[.string a, .string b, .bool x] by rw [hW]; exact (blk_new2' w _ 29 #[.string a, .string b, .bool x]).alloc _)
  have K4 := hide (show BlkIs W (w.heap.size + 2) 27 #[.int .i64 0, .slice none 0 0] by
    rw [hW]
    have := BlkIs.new ((w.alloc (.cells #[.int .i64 m, .slice A n c] 27)).alloc (.cells #[.string a, .string b, .bool x] 29)) 27 #[.int .i64 0, .slice none 0 0]
    rw [World.size_alloc, World.size_alloc] at this
    exact this)
  have B0 := hide (show Below w.heap.size w W by rw [hW]; exact (((Below.refl w.heap.size w).alloc (Nat.le_refl _) _).alloc (by simp) _).alloc (by simp; omega) _)
  have HW := hide hW
  clear hW
  go_enter Try.func34, Try.ntmps34
  go_wp2_with fail
  rw [← HW.out]
  obtain ⟨g2, hg2⟩ : ∃ g, g = w.heap.size := ⟨_, rfl⟩
  rw [← hg2] at K2 K3 K4 ⊢
  have HG := hide hg2
  clear hg2
  have q0 := K2.out.drew.cell 0
  have r0 := K3.out.drew.cell 0
  have r1 := K3.out.drew.cell 1
  have r2 := K3.out.drew.cell 2
  simp only [List.getElem?_toArray, List.getElem?_cons_zero, List.getElem?_cons_succ] at q0 r0 r1 r2
  have hwr := HWR.out
  go_region_held3 (fun w' => w'.cell? ⟨g2, 0, none⟩ = some (.int .i64 m) ∧ w'.cell? ⟨g2 + 1, 0, none⟩ = some (.string a) ∧ w'.cell? ⟨g2 + 1, 1, none⟩ = some (.string b) ∧ w'.cell? ⟨g2 + 1, 2, none⟩ = some (.bool x)) (first | exact ⟨q0, r0, r1, r2⟩ | exact ⟨d0, e0, e1, e2⟩)
    (first
      | (go_at_call 22; refine (HC.out _).mono ?_; rintro e w3 ⟨rfl, hb3⟩; have d0 := (K2.out.drew.keep hb3).cell 0; have e0 := (K3.out.drew.keep hb3).cell 0; have e1 := (K3.out.drew.keep hb3).cell 1; have e2 := (K3.out.drew.keep hb3).cell 2; simp only [List.getElem?_toArray, List.getElem?_cons_zero, List.getElem?_cons_succ] at d0 e0 e1 e2; have KK2 := hide (K2.out.drew.keep hb3); have KK3 := hide (K3.out.drew.keep hb3); have KK4 := hide (K4.out.drew.keep hb3); have HB3 := hide hb3; clear hb3))
  have c2 := KK3.out.cell 2
  have z2 := KK3.out.frozen 2
  simp only [List.getElem?_toArray, List.getElem?_cons_zero, List.getElem?_cons_succ] at c2
  clear q0 r0 r1 r2 HW hwr HWR
  go_wp2_with fail
  have K3' := hide (show BlkIs (w3.setCell ⟨g2 + 1, 2, none⟩ (.bool false)) (g2 + 1) 29 #[.string a, .string b, .bool false] from KK3.out.put 2 (.bool false))
  have K2' := hide (KK2.out.far (p := ⟨g2 + 1, 2, none⟩) (show g2 ≠ g2 + 1 by omega) (.bool false))
  have K4' := hide (KK4.out.far (p := ⟨g2 + 1, 2, none⟩) (show g2 + 2 ≠ g2 + 1 by omega) (.bool false))
  have B3 := hide (show Below w.heap.size w (w3.setCell ⟨g2 + 1, 2, none⟩ (.bool false)) from ((B0.out.drew.trans (HB3.out.mono B0.out.drew.size)).setCell (by show w.heap.size ≤ g2 + 1; have := HG.out; omega) _))
  generalize (w3.setCell ⟨g2 + 1, 2, none⟩ (.bool false)) = W5 at K3' K2' K4' B3 ⊢
  have HFW := hide (show ∀ w', WithS W5 w' g2 m A n c a b → FL w' A n c l from fun w' kb => HFL0.out.keep (below_kb2 B3.out kb.2.2.2.2.2.1 (Nat.le_refl _) (by have := HG.out; omega)))
  have HS0 := hide (show WithS W5 W5 g2 m A n c a b from with_s K2'.out K3'.out (KB.refl _ _) ⟨_, _, _, _, K4'.out⟩)
  clear KK2 KK3 KK4 HB3 c2 z2 K2 K3 K4 B0 d0 HFL0 K4'
  go_region_held3 (fun w' => w'.cell? ⟨g2, 0, none⟩ = some (.int .i64 m) ∧ w'.cell? ⟨g2, 1, none⟩ = some (.slice A n c) ∧ w'.cell? ⟨g2 + 1, 0, none⟩ = some (.string a) ∧ w'.cell? ⟨g2 + 1, 1, none⟩ = some (.string b) ∧ w'.cell? ⟨g2 + 1, 2, none⟩ = some (.bool false) ∧ KB (· = g2 + 2) W5 w' ∧ TabAt w' (g2 + 2))
    (first | exact with_s_drew K2'.out K3'.out HS0.out | assumption | exact with_s_drew K2'.out K3'.out (with_s_alloc K2'.out K3'.out HS0.out _) | exact with_s_alloc K2'.out K3'.out (by assumption) _ | exact with_s_put K2'.out K3'.out (by assumption) _ _ _ _)
    (first
      | (go_at_call 40; ((with_reducible refine (HNW.out _ (HFW.out _ (by assumption))).mono ?_); rintro e w6 ⟨rfl, hb6⟩; have hS6 := with_s_below K2'.out K3'.out (by assumption) hb6))
      | (go_at_call 41; ((with_reducible refine (sl_Concat _ _ _ 1 k 1 c [⟨a, b, false⟩] (l.take k) _ (BlkIs.new _ _ _) (((FL.lit W5 a b false).drew.keep hb6).alloc _) ((HFW.out _ (by assumption)).take HKN.out) (by omega) (by have h1 := HKN.out; have h2 := HNI.out; omega)).mono ?_); rintro e w7 ⟨A7, n7, c7, rfl, hf7, hb7⟩; have hS7 := with_s_below K2'.out K3'.out (by assumption) hb7; obtain ⟨m8, A8, n8, c8, ht8⟩ := hS7.2.2.2.2.2.2; have s0 := ht8.cell 0; have s1 := ht8.cell 1; simp only [List.getElem?_toArray, List.getElem?_cons_zero, List.getElem?_cons_succ] at s0 s1; have z0 := ht8.frozen 0; have z1 := ht8.frozen 1))
      | (go_at_call 41; ((with_reducible refine (sl_Concat _ _ _ 1 k 1 c [⟨a, b, false⟩] (l.take k) _ (blk_new2' w6 _ _ _) ((FL.lit w6 a b false).alloc _) ((HFW.out _ (by assumption)).take HKN.out) (by omega) (by have h1 := HKN.out; have h2 := HNI.out; omega)).mono ?_); rintro e w7 ⟨A7, n7, c7, rfl, hf7, hb7⟩; have hS7 := with_s_below K2'.out K3'.out (by assumption) hb7; obtain ⟨m8, A8, n8, c8, ht8⟩ := hS7.2.2.2.2.2.2; have s0 := ht8.cell 0; have s1 := ht8.cell 1; simp only [List.getElem?_toArray, List.getElem?_cons_zero, List.getElem?_cons_succ] at s0 s1; have z0 := ht8.frozen 0; have z1 := ht8.frozen 1)))
  all_goals
    have K8 := hide (show BlkIs ((w7.setCell ⟨g2 + 2, 0, none⟩ (.int .i64 m)).setCell ⟨g2 + 2, 1, none⟩ (.slice A7 n7 c7)) (g2 + 2) 27 #[.int .i64 m, .slice A7 n7 c7] from (ht8.put 0 _).put 1 _)
    have F8 := hide (show FL ((w7.setCell ⟨g2 + 2, 0, none⟩ (.int .i64 m)).setCell ⟨g2 + 2, 1, none⟩ (.slice A7 n7 c7)) A7 n7 c7 (⟨a, b, false⟩ :: l.take k) from hf7.kb ht8 (((KB.refl (· = g2 + 2) w7).setCell (fun _ => rfl) _).setCell (fun _ => rfl) _))
    have B8 := hide (below_kb2 B3.out (with_s_put K2'.out K3'.out hS7 m A7 n7 c7).2.2.2.2.2.1 (Nat.le_refl _) (by have := HG.out; omega))
    clear hf7 hb7 hS7 ht8 s0 s1 z0 z1 hb6 hS6 K2' K3' HS0 HFW HNW
    go_wp2_with fail
    exact bodyPost_ret (results_tab rfl _ _ (g2 + 2) m A7 n7 c7 rfl K8.out (.int .i64 0) rfl) rfl ⟨A7, n7, c7, rfl, F8.out, B8.out⟩
end Go.Proofs.Ytchndegcnjejiaa
