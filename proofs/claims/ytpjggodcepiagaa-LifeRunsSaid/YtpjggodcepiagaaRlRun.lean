/-
  Layer 16: Run of the document (written by gen16rlrun.py).
-/
import Derived.Test.YtpjggodcepiagaaLfRun
import Derived.Test.YtpjggodcepiagaaRlStep
namespace Go.Proofs.Ytpjggodcepiagaa
set_option linter.unusedSimpArgs false
set_option linter.unusedVariables false
open Go.RowKit

def GivesRrun (q : Lr × Nat) (w : World) (e : Ending) (w' : World) : Prop := e = .returned (.tuple #[.int .u8 q.1.s, .agg #[.int .i64 q.1.c, .bool q.1.n, .bool q.1.d], .int .i64 (q.2 : Int)]) ∧ Below w.heap.size w w'
theorem results_rvn {fn : Func} {p u q : Tmp} (h : fn.results = #[.tmp u, .cell p 32, .tmp q]) (tmps : Array Value) (w : World) (g : Nat) (a b c v x : Value)
    (hp : tmps.getD p undef = .pointer (some ⟨g, 0, none⟩)) (hg : BlkIs w g 32 #[a, b, c]) (hv : tmps.getD u undef = v) (hx : tmps.getD q undef = x) :
    (results fn tmps).run Try.prog w = .ok (.tuple #[v, .agg #[a, b, c], x]) w := results_tmp_cell_tmp_blk h tmps w g _ _ _ hp hg Try.underlying32 rfl vr_size v hv x hx

set_option maxRecDepth 100000 in
set_option maxHeartbeats 1600000 in
theorem rf_Run (A : Option Addr) (n c : Nat) (l : List Ev) (s0 : Int) (w : World) (hl : EL w A n c l) (hn : (n : Int) ≤ 1000000) (hs0 : 0 ≤ s0) (hall : AllE l) :
    Calls Try.prog 15 #[.int .u8 s0, .slice A n c] w (GivesRrun (runR s0 l) w) := by
  have HEL := hide hl
  have HN := hide hn
  have HALL := hide hall
  obtain ⟨g, hg⟩ : ∃ g, g = w.heap.size := ⟨_, rfl⟩
  have HG := hide hg
  have HB0 := hide (show Below g w (w.alloc (.cells #[.int .i64 0, .bool false, .bool false] 32)) by rw [hg]; exact bel1 w _)
  have HK0 := hide (show BlkIs (w.alloc (.cells #[.int .i64 0, .bool false, .bool false] 32)) g 32 #[.int .i64 0, .bool false, .bool false] by rw [hg]; exact BlkIs.new w _ _)
  clear hl hn hg hall
  have HS0 := hide hs0
  clear hs0
  go_enter Try.func15, Try.ntmps15
  go_wp2_with fail
  go_loopw [0, 7] (fun s0' s7 wr => ∃ (i : Nat) (v : Int), i ≤ n ∧ s7 = .int .i64 (i : Int) ∧ s0' = .int .u8 v ∧ Hid (0 ≤ v) ∧ runR s0 l = plusR (runR v (l.drop i)) i ∧ Below g w wr ∧ BlkIs wr g 32 #[.int .i64 0, .bool false, .bool false]) (fun _ s7 _ => n - (intOf s7).toNat)
  case atStart => exact ⟨0, s0, by omega, rfl, rfl, HS0, by simp [plusR], HB0.out, HK0.out⟩
  case round =>
    obtain ⟨i, v, hi, rfl, rfl, HV, hr, hb, hk⟩ := hrel
    have HB := hide hb
    have HK := hide hk
    have HR := hide hr
    clear hb hr hk
    by_cases hlt : i < n
    · have hlt' : (i : Int) < (n : Int) := by omega
      have him : (i : Int) < 1000000 := by have := HN.out; omega
      obtain ⟨x, b, off, hx, rfl, hbl0, e0, e1⟩ := HEL.out.round hlt
      have hd := drop_at hx
      have hbw : Below w.heap.size w wr := HG.out ▸ HB.out
      have c0 := (hbw.cell (p := ⟨b, off + i * 2, none⟩) hbl0).trans e0
      have c1 := (hbw.cell (p := ⟨b, off + i * 2 + 1, none⟩) hbl0).trans e1
      have hbl : b < wr.heap.size := by have := hbw.size; omega
      have hxk : 0 ≤ x.k := (HALL.out x (List.mem_of_getElem? hx)).1
      have HS := hide (fun w => rf_Step v x.k x.b w HV.out hxk)
      have HW := hide (step_wf (b := x.b) HV.out hxk).1
      have HE1 := hide (fun h => hd ▸ runR_go (s := v) (x := x) (l := l.drop (i + 1)) h)
      have HE2 := hide (fun h => hd ▸ runR_stop (s := v) (x := x) (l := l.drop (i + 1)) h)
      generalize stepR v x.k x.b = r at *
      clear hx hd e0 e1 hbl0 hbw hxk
      go_wp2_with fail
      refine (HS.out _).mono ?_
      rintro e w2 ⟨rfl, hb2⟩
      have HK3 := hide (HK.out.keep hb2)
      have HB3 := hide (HB.out.trans (hb2.mono (by have := HB.out.size; have := HG.out; omega)))
      clear hb2 HB HK HS c0 c1
      by_cases hz : r.c = 0
      · obtain ⟨rs, rc, rn, rd⟩ := r
        simp only at hz
        subst hz
        have HK4 := hide (HK3.out.alloc (.cells #[.int .i64 0, .bool rn, .bool rd] 32))
        have HB4 := hide (HB3.out.alloc (by have := HB3.out.size; have := HG.out; omega) (.cells #[.int .i64 0, .bool rn, .bool rd] 32))
        go_wp2_with fail
        go_roundw
        case rel => have hw := HN.out; exact ⟨i + 1, rs, by omega, by go_num, rfl, HW, by rw [HR.out, HE1.out (by trivial)]; simp only [plusR, Prod.mk.injEq, true_and]; omega, HB4.out, HK4.out⟩
        case measure => have hw := HN.out; simp [intOf]; omega
      · have hz' : (r.c != 0) = true := by simpa using hz
        have HE := hide (HR.out.trans (congrArg (plusR · i) (HE2.out hz)))
        have HK4 := hide (HK3.out.alloc (.cells #[.int .i64 r.c, .bool r.n, .bool r.d] 32))
        have HB4 := hide (HB3.out.alloc (by have := HB3.out.size; have := HG.out; omega) (.cells #[.int .i64 r.c, .bool r.n, .bool r.d] 32))
        have HKq := hide (BlkIs.new w2 32 #[.int .i64 r.c, .bool r.n, .bool r.d])
        have HKg := hide (show BlkIs (w2.alloc (.cells #[.int .i64 r.c, .bool r.n, .bool r.d] 32)) w.heap.size 32 #[.int .i64 0, .bool false, .bool false] by rw [← HG.out]; exact HK4.out)
        have hne : ¬ w2.heap.size = w.heap.size := by have := HK3.out.lt; have := HG.out; omega
        have HBe := hide (show Below w.heap.size w (w2.alloc (.cells #[.int .i64 r.c, .bool r.n, .bool r.d] 32)) by rw [← HG.out]; exact HB4.out)
        go_wp2_with fail
        refine wp_region_noPanic ?_
        refine wp_region_held_drew (S := fun w' => KB (· = w.heap.size) (w2.alloc (.cells #[.int .i64 r.c, .bool r.n, .bool r.d] 32)) w') (by kernel_rfl) (KB.refl _ _).drew (fun hS => ?_)
        have EX := HKg.out.drew
        generalize hwd : ((w2.alloc (.cells #[.int .i64 r.c, .bool r.n, .bool r.d] 32))).drew = wd at hS EX ⊢
        clear hwd
        refine wpAnyH_take (i := 0) (v := ?_) (by simp only [List.getElem?_toArray, List.getElem?_cons_succ, List.getElem?_cons_zero] <;> exact rfl) (by kernel_rfl) (by kernel_rfl) (by kernel_rfl) (fun _ _ _ h => h) (Or.inl ⟨by rfl, ?_⟩) hS ?_
        rotate_left
        focus (intro w' hw'; go_simp; all_goals with_reducible rfl)
        try simp only [Act.put, List.setIfInBounds_toArray, List.set_cons_zero, List.set_cons_succ]
        refine wpAnyH_take (i := 1) (by simp only [List.getElem?_toArray, List.getElem?_cons_succ, List.getElem?_cons_zero] <;> exact rfl) (by kernel_rfl) (by kernel_rfl) (by kernel_rfl) (fun _ _ _ h => h) (rgs_yields_blk (by rfl) 32 (.tmp 9) (by rfl) w2.heap.size (by rfl) 32 #[.int .i64 r.c, .bool r.n, .bool r.d] _ (fun w' hw' => hw'.blk HKq.out hne) Try.underlying32 rfl vr_size) hS ?_
        try simp only [Act.put, List.setIfInBounds_toArray, List.set_cons_zero, List.set_cons_succ]
        refine wpAnyH_take (i := 2) (v := ?_) (by simp only [List.getElem?_toArray, List.getElem?_cons_succ, List.getElem?_cons_zero] <;> exact rfl) (by kernel_rfl) (by kernel_rfl) (by kernel_rfl) (fun _ _ _ h => h) (Or.inl ⟨by rfl, ?_⟩) hS ?_
        rotate_left
        focus (intro w' hw'; go_simp; all_goals with_reducible rfl)
        try simp only [Act.put, List.setIfInBounds_toArray, List.set_cons_zero, List.set_cons_succ]
        refine wpAnyH_take (i := 3) (v := ?_) (by simp only [List.getElem?_toArray, List.getElem?_cons_succ, List.getElem?_cons_zero] <;> exact rfl) (by kernel_rfl) (by kernel_rfl) (by kernel_rfl) (fun _ _ _ h => h) (Or.inl ⟨by rfl, ?_⟩) hS ?_
        rotate_left
        focus (intro w' hw'; go_simp; all_goals with_reducible rfl)
        try simp only [Act.put, List.setIfInBounds_toArray, List.set_cons_zero, List.set_cons_succ]
        refine wpAnyH_ready (rs := [4]) (by kernel_rfl) (by simp) ?_
        refine AllReadyH.cons (o := _) (by simp only [List.getElem?_toArray, List.getElem?_cons_succ, List.getElem?_cons_zero] <;> exact rfl) (fun K hK => ?_) AllReadyH.nil
        refine rgs_store_blk (by rfl) 32 (.tmp 5) (.tmp 30) (by rfl) w.heap.size #[.int .i64 r.c, .bool r.n, .bool r.d] #[.int .i64 0, .bool false, .bool false] 32 (by rfl) (by rfl) EX vr_size rfl (vr_one _ _ _) ?_
        have hS := hS.setRow (fun _ => rfl) #[.int .i64 r.c, .bool r.n, .bool r.d]
        have EX := EX.row #[.int .i64 r.c, .bool r.n, .bool r.d]
        refine hK.out _ _ hS (fun _ => ?_)
        generalize wd.setRow w.heap.size #[.int .i64 r.c, .bool r.n, .bool r.d] = ws at hS EX ⊢
        clear hK K
        try simp only [Act.put, List.setIfInBounds_toArray, List.set_cons_zero, List.set_cons_succ]
        refine wpAnyH_take (i := 5) (v := ?_) (by simp only [List.getElem?_toArray, List.getElem?_cons_succ, List.getElem?_cons_zero] <;> exact rfl) (by kernel_rfl) (by kernel_rfl) (by kernel_rfl) (fun _ _ _ h => h) (Or.inl ⟨by rfl, ?_⟩) hS ?_
        rotate_left
        focus (intro w' hw'; go_simp; all_goals with_reducible rfl)
        try simp only [Act.put, List.setIfInBounds_toArray, List.set_cons_zero, List.set_cons_succ]
        refine wpAnyH_done (by kernel_rfl) ?_ _
        refine NoPanic.normal ?_
        go_wp2
        refine bodyPost_ret (results_rvn rfl _ _ w.heap.size _ _ _ _ _ rfl EX rfl rfl) rfl ?_
        rw [HE.out]
        exact ⟨rfl, kb_belowx HBe.out (Nat.le_refl _) hS⟩
    · have hge : ¬ (i : Int) < (n : Int) := by omega
      obtain rfl : i = n := by omega
      have HE := hide (show runR s0 l = (⟨v, 0, false, false⟩, i) by rw [HR.out, ← HEL.out.len, List.drop_length]; rfl)
      have HKe := hide (show BlkIs wr w.heap.size 32 #[.int .i64 0, .bool false, .bool false] by rw [← HG.out]; exact HK.out)
      have HBe := hide (show Below w.heap.size w wr by rw [← HG.out]; exact HB.out)
      clear HK HB
      go_wp2_with (refine wpList_store_blk rfl 32 (.tmp 5) (.tmp 33) rfl w.heap.size #[.int .i64 0, .bool false, .bool false] #[.int .i64 0, .bool false, .bool false] 32 rfl rfl HKe.out vr_size rfl (vr_one _ _ _) ?_)
      refine bodyPost_ret (results_rvn rfl _ _ w.heap.size _ _ _ _ _ rfl (HKe.out.row _) rfl rfl) rfl ?_
      rw [HE.out]
      exact ⟨rfl, below_setRow HBe.out (Nat.le_refl _) _⟩
end Go.Proofs.Ytpjggodcepiagaa
