/-
  Layer 16: Run of the program.
-/
import Derived.Test.YtpjggodcepiagaaLfStep
import Derived.Test.YtpjggodcepiagaaLfMem
import Derived.Test.YtpjggodcepiagaaRegW
import Derived.Deep.QuietTactic
import Derived.BigQuiet
import Derived.StillTailTactics
namespace Go.Proofs.Ytpjggodcepiagaa
set_option linter.unusedSimpArgs false
set_option linter.unusedVariables false
open Go.RowKit

/-- What Run answers: the answer that stopped it, or the last state's; and how many events counted or were dropped. -/
def runR (s : Int) : List Ev → Lr × Nat
  | [] => (⟨s, 0, false, false⟩, 0)
  | x :: l => if (stepR s x.k x.b).c = 0 then ((runR (stepR s x.k x.b).s l).1, (runR (stepR s x.k x.b).s l).2 + 1) else (stepR s x.k x.b, 0)
theorem runR_go {s : Int} {x : Ev} {l : List Ev} (h : (stepR s x.k x.b).c = 0) : runR s (x :: l) = ((runR (stepR s x.k x.b).s l).1, (runR (stepR s x.k x.b).s l).2 + 1) := by rw [runR, if_pos h]
theorem runR_stop {s : Int} {x : Ev} {l : List Ev} (h : ¬ (stepR s x.k x.b).c = 0) : runR s (x :: l) = (stepR s x.k x.b, 0) := by rw [runR, if_neg h]
/-- By i more. -/
def plusR (q : Lr × Nat) (i : Nat) : Lr × Nat := (q.1, i + q.2)

def GivesRun (q : Lr × Nat) (w : World) (e : Ending) (w' : World) : Prop := e = .returned (.tuple #[.int .u8 q.1.s, .agg #[.int .u32 q.1.c, .bool q.1.n, .bool q.1.d], .int .i64 (q.2 : Int)]) ∧ Below w.heap.size w w'

theorem results_svn {fn : Func} {p u q : Tmp} (h : fn.results = #[.tmp u, .cell p 27, .tmp q]) (tmps : Array Value) (w : World) (g : Nat) (a b c v x : Value)
    (hp : tmps.getD p undef = .pointer (some ⟨g, 0, none⟩)) (hg : BlkIs w g 27 #[a, b, c]) (hv : tmps.getD u undef = v) (hx : tmps.getD q undef = x) :
    (results fn tmps).run Try.prog w = .ok (.tuple #[v, .agg #[a, b, c], x]) w := results_tmp_cell_tmp_blk h tmps w g _ _ _ hp hg Try.underlying27 rfl vd_size v hv x hx
theorem kb_belowx {g : Nat} {a w w' : World} (h : Below g a w) (hg : g ≤ a.heap.size) (hk : KB (· = g) w w') : Below g a w' :=
  ⟨hk.os.trans h.os, hk.tape.trans h.tape, hk.output.trans h.output, Nat.le_trans h.size hk.size, fun i hi => (hk.block i (Nat.lt_of_lt_of_le hi (Nat.le_trans hg h.size)) (by omega)).trans (h.block i hi)⟩
theorem drop_at {α : Type} {l : List α} {i : Nat} {x : α} (h : l[i]? = some x) : l.drop i = x :: l.drop (i + 1) := by
  obtain ⟨hi, rfl⟩ := List.getElem?_eq_some_iff.1 h
  exact List.drop_eq_getElem_cons hi

set_option maxRecDepth 100000 in
set_option maxHeartbeats 1600000 in
theorem lf_Run (A : Option Addr) (n c : Nat) (l : List Ev) (s0 : Int) (w : World) (hl : EL w A n c l) (hn : (n : Int) ≤ 1000000) :
    Calls Try.prog 14 #[.int .u8 s0, .slice A n c] w (GivesRun (runR s0 l) w) := by
  have HEL := hide hl
  have HN := hide hn
  obtain ⟨g, hg⟩ : ∃ g, g = w.heap.size := ⟨_, rfl⟩
  have HG := hide hg
  have HB0 := hide (show Below g w (w.alloc (.cells #[.int .u32 0, .bool false, .bool false] 27)) by rw [hg]; exact bel1 w _)
  have HK0 := hide (show BlkIs (w.alloc (.cells #[.int .u32 0, .bool false, .bool false] 27)) g 27 #[.int .u32 0, .bool false, .bool false] by rw [hg]; exact BlkIs.new w _ _)
  clear hl hn hg
  go_enter Try.func14, Try.ntmps14
  go_wp2_with fail
  go_loopw [0, 13] (fun s0' s13 wr => ∃ (i : Nat) (v : Int), i ≤ n ∧ s13 = .int .i64 (i : Int) ∧ s0' = .int .u8 v ∧ runR s0 l = plusR (runR v (l.drop i)) i ∧ Below g w wr ∧ BlkIs wr g 27 #[.int .u32 0, .bool false, .bool false]) (fun _ s13 _ => n - (intOf s13).toNat)
  case atStart => exact ⟨0, s0, by omega, rfl, rfl, by simp [plusR], HB0.out, HK0.out⟩
  case round =>
    obtain ⟨i, v, hi, rfl, rfl, hr, hb, hk⟩ := hrel
    have HB := hide hb
    have HK := hide hk
    have HR := hide hr
    clear hb hr hk
    by_cases hlt : i < n
    · have hlt' : (i : Int) < (n : Int) := by omega
      have him : (i : Int) < 1000000 := by have := HN.out; omega
      obtain ⟨x, b, off, hx, rfl, hbl0, e0, e1⟩ := HEL.out.round hlt
      have hd := drop_at hx
      have hbw : Below w.heap.size w wr := HG.out ▸ HB.out
      have c0 := (hbw.cell (p := ⟨b, off + i * 2, none⟩) hbl0).trans e0
      have c1 := (hbw.cell (p := ⟨b, off + i * 2 + 1, none⟩) hbl0).trans e1
      have hbl : b < wr.heap.size := by have := hbw.size; omega
      have HBK := hide (BlkIs.new wr 30 #[.int .u8 x.k, .bool x.b])
      have HB2 := hide (HB.out.alloc (by have := hbw.size; have := HG.out; omega) (.cells #[.int .u8 x.k, .bool x.b] 30))
      have HK2 := hide (HK.out.alloc (.cells #[.int .u8 x.k, .bool x.b] 30))
      have HS := hide (fun w => lf_Step v x.k x.b w)
      have HE1 := hide (fun h => hd ▸ runR_go (s := v) (x := x) (l := l.drop (i + 1)) h)
      have HE2 := hide (fun h => hd ▸ runR_stop (s := v) (x := x) (l := l.drop (i + 1)) h)
      generalize stepR v x.k x.b = r at *
      clear hx hd e0 e1 hbl0 hbw
      go_wp2_with fail
      refine (HS.out _).mono ?_
      rintro e w2 ⟨rfl, hb2⟩
      have HK3 := hide (HK2.out.keep hb2)
      have HB3 := hide (HB2.out.trans (hb2.mono (by have := HB2.out.size; have := HG.out; omega)))
      clear hb2 HK2 HB2 HBK HB HK HS c0 c1
      by_cases hz : r.c = 0
      · obtain ⟨rs, rc, rn, rd⟩ := r
        simp only at hz
        subst hz
        have HK4 := hide (HK3.out.alloc (.cells #[.int .u32 0, .bool rn, .bool rd] 27))
        have HB4 := hide (HB3.out.alloc (by have := HB3.out.size; have := HG.out; omega) (.cells #[.int .u32 0, .bool rn, .bool rd] 27))
        go_wp2_with fail
        go_roundw
        case rel => have hw := HN.out; exact ⟨i + 1, rs, by omega, by go_num, rfl, by rw [HR.out, HE1.out (by trivial)]; simp only [plusR, Prod.mk.injEq, true_and]; omega, HB4.out, HK4.out⟩
        case measure => have hw := HN.out; simp [intOf]; omega
      · have hz' : (r.c != 0) = true := by simpa using hz
        have HE := hide (HR.out.trans (congrArg (plusR · i) (HE2.out hz)))
        have HK4 := hide (HK3.out.alloc (.cells #[.int .u32 r.c, .bool r.n, .bool r.d] 27))
        have HB4 := hide (HB3.out.alloc (by have := HB3.out.size; have := HG.out; omega) (.cells #[.int .u32 r.c, .bool r.n, .bool r.d] 27))
        have HKq := hide (BlkIs.new w2 27 #[.int .u32 r.c, .bool r.n, .bool r.d])
        have HKg := hide (show BlkIs (w2.alloc (.cells #[.int .u32 r.c, .bool r.n, .bool r.d] 27)) w.heap.size 27 #[.int .u32 0, .bool false, .bool false] by rw [← HG.out]; exact HK4.out)
        have hne : ¬ w2.heap.size = w.heap.size := by have := HK3.out.lt; have := HG.out; omega
        have HBe := hide (show Below w.heap.size w (w2.alloc (.cells #[.int .u32 r.c, .bool r.n, .bool r.d] 27)) by rw [← HG.out]; exact HB4.out)
        go_wp2_with fail
        refine wp_region_noPanic ?_
        refine wp_region_held_drew (S := fun w' => KB (· = w.heap.size) (w2.alloc (.cells #[.int .u32 r.c, .bool r.n, .bool r.d] 27)) w') (by kernel_rfl) (KB.refl _ _).drew (fun hS => ?_)
        have EX := HKg.out.drew
        generalize hwd : ((w2.alloc (.cells #[.int .u32 r.c, .bool r.n, .bool r.d] 27))).drew = wd at hS EX ⊢
        clear hwd
        refine wpAnyH_take (i := 0) (v := ?_) (by simp only [List.getElem?_toArray, List.getElem?_cons_succ, List.getElem?_cons_zero] <;> exact rfl) (by kernel_rfl) (by kernel_rfl) (by kernel_rfl) (fun _ _ _ h => h) (Or.inl ⟨by rfl, ?_⟩) hS ?_
        rotate_left
        focus (intro w' hw'; go_simp; all_goals with_reducible rfl)
        try simp only [Act.put, List.setIfInBounds_toArray, List.set_cons_zero, List.set_cons_succ]
        refine wpAnyH_take (i := 1) (by simp only [List.getElem?_toArray, List.getElem?_cons_succ, List.getElem?_cons_zero] <;> exact rfl) (by kernel_rfl) (by kernel_rfl) (by kernel_rfl) (fun _ _ _ h => h) (rgs_yields_blk (by rfl) 27 (.tmp 10) (by rfl) w2.heap.size (by rfl) 27 #[.int .u32 r.c, .bool r.n, .bool r.d] _ (fun w' hw' => hw'.blk HKq.out hne) Try.underlying27 rfl vd_size) hS ?_
        try simp only [Act.put, List.setIfInBounds_toArray, List.set_cons_zero, List.set_cons_succ]
        refine wpAnyH_take (i := 2) (v := ?_) (by simp only [List.getElem?_toArray, List.getElem?_cons_succ, List.getElem?_cons_zero] <;> exact rfl) (by kernel_rfl) (by kernel_rfl) (by kernel_rfl) (fun _ _ _ h => h) (Or.inl ⟨by rfl, ?_⟩) hS ?_
        rotate_left
        focus (intro w' hw'; go_simp; all_goals with_reducible rfl)
        try simp only [Act.put, List.setIfInBounds_toArray, List.set_cons_zero, List.set_cons_succ]
        refine wpAnyH_take (i := 3) (v := ?_) (by simp only [List.getElem?_toArray, List.getElem?_cons_succ, List.getElem?_cons_zero] <;> exact rfl) (by kernel_rfl) (by kernel_rfl) (by kernel_rfl) (fun _ _ _ h => h) (Or.inl ⟨by rfl, ?_⟩) hS ?_
        rotate_left
        focus (intro w' hw'; go_simp; all_goals with_reducible rfl)
        try simp only [Act.put, List.setIfInBounds_toArray, List.set_cons_zero, List.set_cons_succ]
        refine wpAnyH_ready (rs := [4]) (by kernel_rfl) (by simp) ?_
        refine AllReadyH.cons (o := _) (by simp only [List.getElem?_toArray, List.getElem?_cons_succ, List.getElem?_cons_zero] <;> exact rfl) (fun K hK => ?_) AllReadyH.nil
        refine rgs_store_blk (by rfl) 27 (.tmp 5) (.tmp 28) (by rfl) w.heap.size #[.int .u32 r.c, .bool r.n, .bool r.d] #[.int .u32 0, .bool false, .bool false] 27 (by rfl) (by rfl) EX vd_size rfl (vd_one _ _ _) ?_
        have hS := hS.setRow (fun _ => rfl) #[.int .u32 r.c, .bool r.n, .bool r.d]
        have EX := EX.row #[.int .u32 r.c, .bool r.n, .bool r.d]
        refine hK.out _ _ hS (fun _ => ?_)
        generalize wd.setRow w.heap.size #[.int .u32 r.c, .bool r.n, .bool r.d] = ws at hS EX ⊢
        clear hK K
        try simp only [Act.put, List.setIfInBounds_toArray, List.set_cons_zero, List.set_cons_succ]
        refine wpAnyH_take (i := 5) (v := ?_) (by simp only [List.getElem?_toArray, List.getElem?_cons_succ, List.getElem?_cons_zero] <;> exact rfl) (by kernel_rfl) (by kernel_rfl) (by kernel_rfl) (fun _ _ _ h => h) (Or.inl ⟨by rfl, ?_⟩) hS ?_
        rotate_left
        focus (intro w' hw'; go_simp; all_goals with_reducible rfl)
        try simp only [Act.put, List.setIfInBounds_toArray, List.set_cons_zero, List.set_cons_succ]
        refine wpAnyH_done (by kernel_rfl) ?_ _
        refine NoPanic.normal ?_
        go_wp2
        refine bodyPost_ret (results_svn rfl _ _ w.heap.size _ _ _ _ _ rfl EX rfl rfl) rfl ?_
        rw [HE.out]
        exact ⟨rfl, kb_belowx HBe.out (Nat.le_refl _) hS⟩
    · have hge : ¬ (i : Int) < (n : Int) := by omega
      obtain rfl : i = n := by omega
      have HE := hide (show runR s0 l = (⟨v, 0, false, false⟩, i) by rw [HR.out, ← HEL.out.len, List.drop_length]; rfl)
      have HKe := hide (show BlkIs wr w.heap.size 27 #[.int .u32 0, .bool false, .bool false] by rw [← HG.out]; exact HK.out)
      have HBe := hide (show Below w.heap.size w wr by rw [← HG.out]; exact HB.out)
      clear HK HB
      go_wp2_with (refine wpList_store_blk rfl 27 (.tmp 5) (.tmp 33) rfl w.heap.size #[.int .u32 0, .bool false, .bool false] #[.int .u32 0, .bool false, .bool false] 27 rfl rfl HKe.out vd_size rfl (vd_one _ _ _) ?_)
      refine bodyPost_ret (results_svn rfl _ _ w.heap.size _ _ _ _ _ rfl (HKe.out.row _) rfl rfl) rfl ?_
      rw [HE.out]
      exact ⟨rfl, below_setRow HBe.out (Nat.le_refl _) _⟩
end Go.Proofs.Ytpjggodcepiagaa
