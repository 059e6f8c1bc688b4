/-
  Layer 19: the document's Push (written by gen19rpush.py).
-/
import Derived.Test.YtfcokhdkjoimmaaOqNew
import Derived.Test.YtfcokhdkjoimmaaRqLight
import Derived.Test.YtfcokhdkjoimmaaTxStep
import Derived.Test.YtfcokhdkjoimmaaRegW
namespace Go.Proofs.Ytfcokhdkjoimmaa
set_option linter.unusedSimpArgs false
set_option linter.unusedVariables false
open Go.RowKit
set_option maxRecDepth 100000 in
set_option maxHeartbeats 3200000 in
theorem rq_push_bad (q : Qu) (A : Option Addr) (n c : Nat) (B : Option Addr) (k d : Nat) (xs : List Int) (w : World) (hl : QL w q A n c) (hb : RB w B k xs) (hk : (k : Int) ≤ 1000000) (hck : ¬ chkQ q = 0) :
    Calls Try.prog 10 #[.agg #[.slice A n c, .int .i64 q.m, .int .i64 q.g], .slice B k d] w (GivesQE q (chkQ q) w) := by
  have HQ := hide hl
  have HB2 := hide (bel2 w (.cells #[.slice A n c, .int .i64 q.m, .int .i64 q.g] 24) (.cells #[.slice none 0 0, .int .i64 0, .int .i64 0] 24))
  have HX := hide ((BlkIs.new w 24 #[.slice A n c, .int .i64 q.m, .int .i64 q.g]).alloc (.cells #[.slice none 0 0, .int .i64 0, .int .i64 0] 24))
  have HG := hide (new2 w (.cells #[.slice A n c, .int .i64 q.m, .int .i64 q.g] 24) 24 #[.slice none 0 0, .int .i64 0, .int .i64 0])
  have HCK := hide (rq_Check q A n c _ (hl.keep HB2.out))
  have HLE := hide (fun w' (h : Below w.heap.size w w') => rq_Len q A n c w' (hl.keep h))
  have hz := run_zero_is dq_zero
  have h0 : (0 : Int) ≤ (k : Int) := by omega
  have hL0 : (0 : Int) ≤ (lenL q.ps : Int) := by omega
  have hLM : (lenL q.ps : Int) ≤ 100000000 := by have := hl.sum; omega
  unfold GivesQE
  generalize chkQ q = ck at *
  have hne : (ck == 0) = false := beq_eq_false_iff_ne.2 hck
  have hne2 : (ck != 0) = true := by simpa using hck
  generalize q.m = m at *
  generalize q.g = g at *
  clear hl hb hck HLE
  go_enter Try.func10, Try.ntmps10
  go_wp2_with fail
  refine HCK.out.mono ?_
  rintro e w2 ⟨rfl, hb2⟩
  have HG2 := hide (HG.out.keep hb2)
  have HX2 := hide (HX.out.keep hb2)
  have HB3 := hide (HB2.out.trans (hb2.mono HB2.out.size))
  obtain ⟨k0, k1, k2⟩ := qcells HX2.out
  clear hb2 HCK HG HX HB2
  go_wp2_with (refine wpList_q_blk 24 dq_size rfl (.tmp 4) (.tmp 13) (w.heap.size + 1) A n c m g _ _ _ rfl HG2.out rfl rfl ?_; intro w9 hk9 kb9; have HK9 := hide hk9; have HB9 := hide (below_kbq HB3.out kb9 (Nat.le_refl _) (by omega)); clear hk9 kb9)
  exact bodyPost_ret (results_dq rfl _ _ (w.heap.size + 1) _ _ _ rfl HK9.out (.int .i64 ck) rfl) rfl ⟨⟨A, n, c, rfl, HQ.out.tx.keep HB9.out⟩, HB9.out⟩

set_option maxRecDepth 100000 in
set_option maxHeartbeats 3200000 in
theorem rq_push_full1 (q : Qu) (A : Option Addr) (n c : Nat) (B : Option Addr) (k d : Nat) (xs : List Int) (w : World) (hl : QL w q A n c) (hb : RB w B k xs) (hk : (k : Int) ≤ 1000000) (hck : chkQ q = 0) (hf : 65536 - (lenL q.ps : Int) < (k : Int)) :
    Calls Try.prog 10 #[.agg #[.slice A n c, .int .i64 q.m, .int .i64 q.g], .slice B k d] w (GivesQE q 7 w) := by
  have HQ := hide hl
  have HB2 := hide (bel2 w (.cells #[.slice A n c, .int .i64 q.m, .int .i64 q.g] 24) (.cells #[.slice none 0 0, .int .i64 0, .int .i64 0] 24))
  have HX := hide ((BlkIs.new w 24 #[.slice A n c, .int .i64 q.m, .int .i64 q.g]).alloc (.cells #[.slice none 0 0, .int .i64 0, .int .i64 0] 24))
  have HG := hide (new2 w (.cells #[.slice A n c, .int .i64 q.m, .int .i64 q.g] 24) 24 #[.slice none 0 0, .int .i64 0, .int .i64 0])
  have HCK := hide (rq_Check q A n c _ (hl.keep HB2.out))
  have HLE := hide (fun w' (h : Below w.heap.size w w') => rq_Len q A n c w' (hl.keep h))
  have hz := run_zero_is dq_zero
  have h0 : (0 : Int) ≤ (k : Int) := by omega
  have hL0 : (0 : Int) ≤ (lenL q.ps : Int) := by omega
  have hLM : (lenL q.ps : Int) ≤ 100000000 := by have := hl.sum; omega
  rw [hck] at HCK
  have hok := (chk_ok q).1 hck
  have hm0 := hok.m0
  have hm1 := hok.m1
  unfold GivesQE
  generalize lenL q.ps = L at *
  generalize q.m = m at *
  generalize q.g = g at *
  clear hl hb hck hok
  go_enter Try.func10, Try.ntmps10
  go_wp2_with fail
  refine HCK.out.mono ?_
  rintro e w2 ⟨rfl, hb2⟩
  have HG2 := hide (HG.out.keep hb2)
  have HX2 := hide (HX.out.keep hb2)
  have HB3 := hide (HB2.out.trans (hb2.mono HB2.out.size))
  obtain ⟨k0, k1, k2⟩ := qcells HX2.out
  clear hb2 HCK HG HX HB2
  have HLE2 := hide (HLE.out w2 HB3.out)
  go_wp2_with fail
  refine HLE2.out.mono ?_
  rintro e w3 ⟨rfl, hb3⟩
  have HG3 := hide (HG2.out.keep hb3)
  have HX3 := hide (HX2.out.keep hb3)
  have HB4 := hide (HB3.out.trans (hb3.mono HB3.out.size))
  clear k0 k1 k2
  obtain ⟨k0, k1, k2⟩ := qcells HX3.out
  clear hb3 HLE2 HG2 HX2 HB3 HLE
  go_wp2_with (refine wpList_q_blk 24 dq_size rfl (.tmp 4) (.tmp 30) (w.heap.size + 1) A n c m g _ _ _ rfl HG3.out rfl rfl ?_; intro w9 hk9 kb9; have HK9 := hide hk9; have HB9 := hide (below_kbq HB4.out kb9 (Nat.le_refl _) (by omega)); clear hk9 kb9)
  all_goals first | (exfalso; omega) | skip
  exact bodyPost_ret (results_dq rfl _ _ (w.heap.size + 1) _ _ _ rfl HK9.out (.int .i64 7) rfl) rfl ⟨⟨A, n, c, rfl, HQ.out.tx.keep HB9.out⟩, HB9.out⟩

set_option maxRecDepth 100000 in
set_option maxHeartbeats 3200000 in
theorem rq_push_full2 (q : Qu) (A : Option Addr) (n c : Nat) (B : Option Addr) (k d : Nat) (xs : List Int) (w : World) (hl : QL w q A n c) (hb : RB w B k xs) (hk : (k : Int) ≤ 1000000) (hck : chkQ q = 0) (hf : (k : Int) ≤ 65536 - (lenL q.ps : Int)) (hc : 1099511627776 < q.m + (k : Int)) :
    Calls Try.prog 10 #[.agg #[.slice A n c, .int .i64 q.m, .int .i64 q.g], .slice B k d] w (GivesQE q 7 w) := by
  have HQ := hide hl
  have HB2 := hide (bel2 w (.cells #[.slice A n c, .int .i64 q.m, .int .i64 q.g] 24) (.cells #[.slice none 0 0, .int .i64 0, .int .i64 0] 24))
  have HX := hide ((BlkIs.new w 24 #[.slice A n c, .int .i64 q.m, .int .i64 q.g]).alloc (.cells #[.slice none 0 0, .int .i64 0, .int .i64 0] 24))
  have HG := hide (new2 w (.cells #[.slice A n c, .int .i64 q.m, .int .i64 q.g] 24) 24 #[.slice none 0 0, .int .i64 0, .int .i64 0])
  have HCK := hide (rq_Check q A n c _ (hl.keep HB2.out))
  have HLE := hide (fun w' (h : Below w.heap.size w w') => rq_Len q A n c w' (hl.keep h))
  have hz := run_zero_is dq_zero
  have h0 : (0 : Int) ≤ (k : Int) := by omega
  have hL0 : (0 : Int) ≤ (lenL q.ps : Int) := by omega
  have hLM : (lenL q.ps : Int) ≤ 100000000 := by have := hl.sum; omega
  rw [hck] at HCK
  have hok := (chk_ok q).1 hck
  have hm0 := hok.m0
  have hm1 := hok.m1
  unfold GivesQE
  generalize lenL q.ps = L at *
  generalize q.m = m at *
  generalize q.g = g at *
  clear hl hb hck hok
  go_enter Try.func10, Try.ntmps10
  go_wp2_with fail
  refine HCK.out.mono ?_
  rintro e w2 ⟨rfl, hb2⟩
  have HG2 := hide (HG.out.keep hb2)
  have HX2 := hide (HX.out.keep hb2)
  have HB3 := hide (HB2.out.trans (hb2.mono HB2.out.size))
  obtain ⟨k0, k1, k2⟩ := qcells HX2.out
  clear hb2 HCK HG HX HB2
  have HLE2 := hide (HLE.out w2 HB3.out)
  go_wp2_with fail
  refine HLE2.out.mono ?_
  rintro e w3 ⟨rfl, hb3⟩
  have HG3 := hide (HG2.out.keep hb3)
  have HX3 := hide (HX2.out.keep hb3)
  have HB4 := hide (HB3.out.trans (hb3.mono HB3.out.size))
  clear k0 k1 k2
  obtain ⟨k0, k1, k2⟩ := qcells HX3.out
  clear hb3 HLE2 HG2 HX2 HB3 HLE
  go_upto_region 5 with (fail)
  all_goals first | (exfalso; omega) | skip
  go_wp2_with (refine wpList_q_blk 24 dq_size rfl (.tmp 4) (.tmp 30) (w.heap.size + 1) A n c m g _ _ _ rfl HG3.out rfl rfl ?_; intro w9 hk9 kb9; have HK9 := hide hk9; have HB9 := hide (below_kbq HB4.out kb9 (Nat.le_refl _) (by omega)); clear hk9 kb9)
  all_goals first | (exfalso; omega) | skip
  exact bodyPost_ret (results_dq rfl _ _ (w.heap.size + 1) _ _ _ rfl HK9.out (.int .i64 7) rfl) rfl ⟨⟨A, n, c, rfl, HQ.out.tx.keep HB9.out⟩, HB9.out⟩

set_option maxRecDepth 100000 in
set_option maxHeartbeats 3200000 in
theorem rq_push_none (q : Qu) (A : Option Addr) (n c : Nat) (B : Option Addr) (k d : Nat) (xs : List Int) (w : World) (hl : QL w q A n c) (hb : RB w B k xs) (hk : (k : Int) ≤ 1000000) (hck : chkQ q = 0) (hf : (0 : Int) ≤ 65536 - (lenL q.ps : Int)) (hk0 : k = 0) :
    Calls Try.prog 10 #[.agg #[.slice A n c, .int .i64 q.m, .int .i64 q.g], .slice B k d] w (GivesQE q 0 w) := by
  have HQ := hide hl
  have HB2 := hide (bel2 w (.cells #[.slice A n c, .int .i64 q.m, .int .i64 q.g] 24) (.cells #[.slice none 0 0, .int .i64 0, .int .i64 0] 24))
  have HX := hide ((BlkIs.new w 24 #[.slice A n c, .int .i64 q.m, .int .i64 q.g]).alloc (.cells #[.slice none 0 0, .int .i64 0, .int .i64 0] 24))
  have HG := hide (new2 w (.cells #[.slice A n c, .int .i64 q.m, .int .i64 q.g] 24) 24 #[.slice none 0 0, .int .i64 0, .int .i64 0])
  have HCK := hide (rq_Check q A n c _ (hl.keep HB2.out))
  have HLE := hide (fun w' (h : Below w.heap.size w w') => rq_Len q A n c w' (hl.keep h))
  have hz := run_zero_is dq_zero
  have h0 : (0 : Int) ≤ (k : Int) := by omega
  have hL0 : (0 : Int) ≤ (lenL q.ps : Int) := by omega
  have hLM : (lenL q.ps : Int) ≤ 100000000 := by have := hl.sum; omega
  rw [hck] at HCK
  have hok := (chk_ok q).1 hck
  have hm0 := hok.m0
  have hm1 := hok.m1
  unfold GivesQE
  generalize lenL q.ps = L at *
  generalize q.m = m at *
  generalize q.g = g at *
  subst hk0
  clear hl hb hck hok
  go_enter Try.func10, Try.ntmps10
  go_wp2_with fail
  refine HCK.out.mono ?_
  rintro e w2 ⟨rfl, hb2⟩
  have HG2 := hide (HG.out.keep hb2)
  have HX2 := hide (HX.out.keep hb2)
  have HB3 := hide (HB2.out.trans (hb2.mono HB2.out.size))
  obtain ⟨k0, k1, k2⟩ := qcells HX2.out
  clear hb2 HCK HG HX HB2
  have HLE2 := hide (HLE.out w2 HB3.out)
  go_wp2_with fail
  refine HLE2.out.mono ?_
  rintro e w3 ⟨rfl, hb3⟩
  have HG3 := hide (HG2.out.keep hb3)
  have HX3 := hide (HX2.out.keep hb3)
  have HB4 := hide (HB3.out.trans (hb3.mono HB3.out.size))
  clear k0 k1 k2
  obtain ⟨k0, k1, k2⟩ := qcells HX3.out
  clear hb3 HLE2 HG2 HX2 HB3 HLE
  go_upto_region 6 with (fail)
  all_goals first | (exfalso; omega) | skip
  go_wp2_with (refine wpList_q_blk 24 dq_size rfl (.tmp 4) (.tmp 35) (w.heap.size + 1) A n c m g _ _ _ rfl HG3.out rfl rfl ?_; intro w9 hk9 kb9; have HK9 := hide hk9; have HB9 := hide (below_kbq HB4.out kb9 (Nat.le_refl _) (by omega)); clear hk9 kb9)
  all_goals first | (exfalso; omega) | skip
  exact bodyPost_ret (results_dq rfl _ _ (w.heap.size + 1) _ _ _ rfl HK9.out (.int .i64 0) rfl) rfl ⟨⟨A, n, c, rfl, HQ.out.tx.keep HB9.out⟩, HB9.out⟩

set_option maxRecDepth 100000 in
set_option maxHeartbeats 3200000 in
theorem rq_push_add (q : Qu) (A : Option Addr) (n c : Nat) (B : Option Addr) (k d : Nat) (xs : List Int) (w : World) (hl : QL w q A n c) (hb : RB w B k xs) (hk : (k : Int) ≤ 1000000) (hck : chkQ q = 0) (hf : (k : Int) ≤ 65536 - (lenL q.ps : Int)) (hc : q.m + (k : Int) ≤ 1099511627776) (hk0 : (0 : Int) < (k : Int)) :
    Calls Try.prog 10 #[.agg #[.slice A n c, .int .i64 q.m, .int .i64 q.g], .slice B k d] w (GivesQE ⟨q.ps ++ [strOfNums xs], q.m + (k : Int), q.g⟩ 0 w) := by
  have HQ := hide hl
  have HB2 := hide (bel2 w (.cells #[.slice A n c, .int .i64 q.m, .int .i64 q.g] 24) (.cells #[.slice none 0 0, .int .i64 0, .int .i64 0] 24))
  have HX := hide ((BlkIs.new w 24 #[.slice A n c, .int .i64 q.m, .int .i64 q.g]).alloc (.cells #[.slice none 0 0, .int .i64 0, .int .i64 0] 24))
  have HG := hide (new2 w (.cells #[.slice A n c, .int .i64 q.m, .int .i64 q.g] 24) 24 #[.slice none 0 0, .int .i64 0, .int .i64 0])
  have HCK := hide (rq_Check q A n c _ (hl.keep HB2.out))
  have HLE := hide (fun w' (h : Below w.heap.size w w') => rq_Len q A n c w' (hl.keep h))
  have hz := run_zero_is dq_zero
  have h0 : (0 : Int) ≤ (k : Int) := by omega
  have hL0 : (0 : Int) ≤ (lenL q.ps : Int) := by omega
  have hLM : (lenL q.ps : Int) ≤ 100000000 := by have := hl.sum; omega
  rw [hck] at HCK
  have hok := (chk_ok q).1 hck
  have hm0 := hok.m0
  have hm1 := hok.m1
  unfold GivesQE
  obtain ⟨S, hS⟩ : ∃ S, S = strOfNums xs := ⟨_, rfl⟩
  rw [← hS]
  have HST := hide (fun w' (h : Below w.heap.size w w') => rb_string (w := w') d (hb.below h))
  rw [← hS] at HST
  have HFW := hide hl.few
  generalize lenL q.ps = L at *
  generalize q.m = m at *
  generalize q.g = g at *
  obtain ⟨l, hll⟩ : ∃ l, l = q.ps := ⟨_, rfl⟩
  rw [← hll]
  have HQ := hide (show QL w ⟨l, m, g⟩ A n c from ⟨by rw [hll]; exact HQ.out.tx, HQ.out.few, by rw [hll]; exact HQ.out.sum⟩)
  clear hl hb hck hok hS hll
  go_enter Try.func10, Try.ntmps10
  go_wp2_with fail
  refine HCK.out.mono ?_
  rintro e w2 ⟨rfl, hb2⟩
  have HG2 := hide (HG.out.keep hb2)
  have HX2 := hide (HX.out.keep hb2)
  have HB3 := hide (HB2.out.trans (hb2.mono HB2.out.size))
  obtain ⟨k0, k1, k2⟩ := qcells HX2.out
  clear hb2 HCK HG HX HB2
  have HLE2 := hide (HLE.out w2 HB3.out)
  go_wp2_with fail
  refine HLE2.out.mono ?_
  rintro e w3 ⟨rfl, hb3⟩
  have HG3 := hide (HG2.out.keep hb3)
  have HX3 := hide (HX2.out.keep hb3)
  have HB4 := hide (HB3.out.trans (hb3.mono HB3.out.size))
  clear k0 k1 k2
  obtain ⟨k0, k1, k2⟩ := qcells HX3.out
  clear hb3 HLE2 HG2 HX2 HB3 HLE
  go_upto_region 9 with (fail)
  all_goals first | (exfalso; omega) | skip
  have HWR := hide (show IntKind.i64.wrap (m + (k : Int)) = m + (k : Int) from IntWalk.i64_in _ (by omega))
  have HBK := hide (fun w' (h : KB (· = w.heap.size + 1) w3 w') => below_kbq HB4.out h (Nat.le_refl _) (show w.heap.size ≤ w.heap.size + 1 by omega))
  clear k0 k1 k2
  refine wp_region_noPanic ?_
  refine wp_region_held_drew (S := fun w' => KB (· = w.heap.size + 1) w3 w') (by kernel_rfl) (KB.refl _ _).drew (fun hS => ?_)
  have EX := HG3.out.drew
  generalize hwd : w3.drew = wd at hS EX ⊢
  clear hwd
  refine wpAnyH_take (i := 0) (v := ?_) (by simp only [List.getElem?_toArray, List.getElem?_cons_succ, List.getElem?_cons_zero] <;> exact rfl) (by kernel_rfl) (by kernel_rfl) (by kernel_rfl) (fun _ _ _ h => h) (Or.inl ⟨by rfl, ?_⟩) hS ?_
  rotate_left
  focus (intro w' hw'; go_simp; all_goals with_reducible rfl)
  try simp only [Act.put, List.setIfInBounds_toArray, List.set_cons_zero, List.set_cons_succ]
  refine wpAnyH_take (i := 1) (v := ?_) (by simp only [List.getElem?_toArray, List.getElem?_cons_succ, List.getElem?_cons_zero] <;> exact rfl) (by kernel_rfl) (by kernel_rfl) (by kernel_rfl) (fun _ _ _ h => h) (Or.inl ⟨by rfl, ?_⟩) hS ?_
  rotate_left
  focus (intro w' hw'; go_simp; all_goals with_reducible rfl)
  try simp only [Act.put, List.setIfInBounds_toArray, List.set_cons_zero, List.set_cons_succ]
  refine wpAnyH_take (i := 2) (v := ?_) (by simp only [List.getElem?_toArray, List.getElem?_cons_succ, List.getElem?_cons_zero] <;> exact rfl) (by kernel_rfl) (by kernel_rfl) (by kernel_rfl) (fun _ _ _ h => h) (Or.inl ⟨by rfl, ?_⟩) hS ?_
  rotate_left
  focus (intro w' hw'; have kk := (hw'.blk HX3.out (show ¬ w.heap.size = w.heap.size + 1 by omega)).cell 0; simp only [List.getElem?_toArray, List.getElem?_cons_zero, List.getElem?_cons_succ] at kk; go_simp; all_goals with_reducible rfl)
  try simp only [Act.put, List.setIfInBounds_toArray, List.set_cons_zero, List.set_cons_succ]
  refine wpAnyH_take (i := 4) (v := ?_) (by simp only [List.getElem?_toArray, List.getElem?_cons_succ, List.getElem?_cons_zero] <;> exact rfl) (by kernel_rfl) (by kernel_rfl) (by kernel_rfl) (fun _ _ _ h => h) (Or.inl ⟨by rfl, ?_⟩) hS ?_
  rotate_left
  focus (intro w' hw'; go_simp; all_goals with_reducible rfl)
  try simp only [Act.put, List.setIfInBounds_toArray, List.set_cons_zero, List.set_cons_succ]
  refine wpAnyH_take (i := 5) (v := ?_) (by simp only [List.getElem?_toArray, List.getElem?_cons_succ, List.getElem?_cons_zero] <;> exact rfl) (by kernel_rfl) (by kernel_rfl) (by kernel_rfl) (fun _ _ _ h => h) (Or.inl ⟨by rfl, ?_⟩) hS ?_
  rotate_left
  focus (intro w' hw'; have kk := HST.out _ (HBK.out _ hw'); go_simp; all_goals with_reducible rfl)
  try simp only [Act.put, List.setIfInBounds_toArray, List.set_cons_zero, List.set_cons_succ]
  refine wpAnyH_take (i := 8) (v := ?_) (by simp only [List.getElem?_toArray, List.getElem?_cons_succ, List.getElem?_cons_zero] <;> exact rfl) (by kernel_rfl) (by kernel_rfl) (by kernel_rfl) (fun _ _ _ h => h) (Or.inl ⟨by rfl, ?_⟩) hS ?_
  rotate_left
  focus (intro w' hw'; go_simp; all_goals with_reducible rfl)
  try simp only [Act.put, List.setIfInBounds_toArray, List.set_cons_zero, List.set_cons_succ]
  refine wpAnyH_take (i := 9) (v := ?_) (by simp only [List.getElem?_toArray, List.getElem?_cons_succ, List.getElem?_cons_zero] <;> exact rfl) (by kernel_rfl) (by kernel_rfl) (by kernel_rfl) (fun _ _ _ h => h) (Or.inl ⟨by rfl, ?_⟩) hS ?_
  rotate_left
  focus (intro w' hw'; have kk := (hw'.blk HX3.out (show ¬ w.heap.size = w.heap.size + 1 by omega)).cell 1; simp only [List.getElem?_toArray, List.getElem?_cons_zero, List.getElem?_cons_succ] at kk; go_simp; all_goals with_reducible rfl)
  try simp only [Act.put, List.setIfInBounds_toArray, List.set_cons_zero, List.set_cons_succ]
  refine wpAnyH_take (i := 10) (v := ?_) (by simp only [List.getElem?_toArray, List.getElem?_cons_succ, List.getElem?_cons_zero] <;> exact rfl) (by kernel_rfl) (by kernel_rfl) (by kernel_rfl) (fun _ _ _ h => h) (Or.inl ⟨by rfl, ?_⟩) hS ?_
  rotate_left
  focus (intro w' hw'; go_simp; all_goals with_reducible rfl)
  try simp only [Act.put, List.setIfInBounds_toArray, List.set_cons_zero, List.set_cons_succ]
  refine wpAnyH_take (i := 11) (v := ?_) (by simp only [List.getElem?_toArray, List.getElem?_cons_succ, List.getElem?_cons_zero] <;> exact rfl) (by kernel_rfl) (by kernel_rfl) (by kernel_rfl) (fun _ _ _ h => h) (Or.inl ⟨by rfl, ?_⟩) hS ?_
  rotate_left
  focus (intro w' hw'; go_simp; all_goals with_reducible rfl)
  try simp only [Act.put, List.setIfInBounds_toArray, List.set_cons_zero, List.set_cons_succ]
  refine wpAnyH_take (i := 12) (v := ?_) (by simp only [List.getElem?_toArray, List.getElem?_cons_succ, List.getElem?_cons_zero] <;> exact rfl) (by kernel_rfl) (by kernel_rfl) (by kernel_rfl) (fun _ _ _ h => h) (Or.inl ⟨by rfl, ?_⟩) hS ?_
  rotate_left
  focus (intro w' hw'; have hw := HWR.out; go_simp; all_goals with_reducible rfl)
  try simp only [Act.put, List.setIfInBounds_toArray, List.set_cons_zero, List.set_cons_succ]
  refine wpAnyH_take (i := 13) (v := ?_) (by simp only [List.getElem?_toArray, List.getElem?_cons_succ, List.getElem?_cons_zero] <;> exact rfl) (by kernel_rfl) (by kernel_rfl) (by kernel_rfl) (fun _ _ _ h => h) (Or.inl ⟨by rfl, ?_⟩) hS ?_
  rotate_left
  focus (intro w' hw'; go_simp; all_goals with_reducible rfl)
  try simp only [Act.put, List.setIfInBounds_toArray, List.set_cons_zero, List.set_cons_succ]
  refine wpAnyH_take (i := 14) (v := ?_) (by simp only [List.getElem?_toArray, List.getElem?_cons_succ, List.getElem?_cons_zero] <;> exact rfl) (by kernel_rfl) (by kernel_rfl) (by kernel_rfl) (fun _ _ _ h => h) (Or.inl ⟨by rfl, ?_⟩) hS ?_
  rotate_left
  focus (intro w' hw'; have kk := (hw'.blk HX3.out (show ¬ w.heap.size = w.heap.size + 1 by omega)).cell 2; simp only [List.getElem?_toArray, List.getElem?_cons_zero, List.getElem?_cons_succ] at kk; go_simp; all_goals with_reducible rfl)
  try simp only [Act.put, List.setIfInBounds_toArray, List.set_cons_zero, List.set_cons_succ]
  refine wpAnyH_ready (rs := [3, 6]) (by kernel_rfl) (by simp) ?_
  refine AllReadyH.cons (o := _) (by simp only [List.getElem?_toArray, List.getElem?_cons_succ, List.getElem?_cons_zero] <;> exact rfl) (fun K hK => ?_) ?_
  focus (
    refine step_append_tx wd (by rfl) (.tmp 36) (.tmp 38) (by rfl) w3.heap.size (.slice none 0 0) 0 [] (by rfl) (World.ownsRow_nil _ _ _ _) A n c l (by rfl) (HQ.out.tx.keep (HBK.out _ hS)) (by have := HFW.out; omega) hS.size ?_
    intro A1 c1 wa hown1 hg1
    rw [Nat.zero_add, List.nil_append] at hown1
    rw [Nat.zero_add]
    have hb1 : Below wd.heap.size wd wa := (Below.refl _ _).grown hg1 (Nat.le_refl _) (fun i hi => by simp [Value.ownBlock] at hi)
    have hS := hS.trans' (KB.of_below (· = w.heap.size + 1) hb1) (fun _ _ h => h)
    have EX := EX.keep hb1
    refine hK.out _ _ hS (fun _ => ?_)
    clear hK K
    try simp only [Act.put, List.setIfInBounds_toArray, List.set_cons_zero, List.set_cons_succ]
    refine wpAnyH_ready (rs := [6]) (by kernel_rfl) (by simp) ?_
    refine AllReadyH.cons (o := _) (by simp only [List.getElem?_toArray, List.getElem?_cons_succ, List.getElem?_cons_zero] <;> exact rfl) (fun K hK => ?_) ?_
    focus (
      go_simp
      have hZ := hS.size
      have hS := hS.alloc (.cells #[.string S] 9)
      have EX := EX.alloc (.cells #[.string S] 9)
      have ho1 := own_low hown1 (bel1 wa (.cells #[.string S] 9))
      have htx := tx_new1 wa S
      have hZ2 : w3.heap.size ≤ (wa.alloc (.cells #[.string S] 9)).heap.size := by simp; omega
      refine hK.out _ _ hS (fun _ => ?_)
      clear hK K
      try simp only [Act.put, List.setIfInBounds_toArray, List.set_cons_zero, List.set_cons_succ]
      refine wpAnyH_ready (rs := [7]) (by kernel_rfl) (by simp) ?_
      refine AllReadyH.cons (o := _) (by simp only [List.getElem?_toArray, List.getElem?_cons_succ, List.getElem?_cons_zero] <;> exact rfl) (fun K hK => ?_) ?_
      focus (
        refine step_append_tx (wa.alloc (.cells #[.string S] 9)) (by rfl) (.tmp 39) (.tmp 42) (by rfl) w3.heap.size (.slice A1 n c1) n l (by rfl) ho1 (some ⟨wa.heap.size, 0, none⟩) 1 1 [S] (by rfl) htx (by have := HFW.out; omega) hZ2 ?_
        intro A2 c2 wq hown2 hg2
        have hS := KB.trans' hS (KB.of_grown (S := fun i => Value.ownBlock (.slice A1 n c1) = some i) hg2 (fun i h _ => h)) (fun i hi h => absurd (ho1.lt i h).1 (by omega))
        have EX := blk_grown EX hg2 (own_apartx ho1 EX (by decide))
        refine hK.out _ _ hS (fun _ => ?_)
        clear hK K
        try simp only [Act.put, List.setIfInBounds_toArray, List.set_cons_zero, List.set_cons_succ]
        refine wpAnyH_take (i := 15) (v := ?_) (by simp only [List.getElem?_toArray, List.getElem?_cons_succ, List.getElem?_cons_zero] <;> exact rfl) (by kernel_rfl) (by kernel_rfl) (by kernel_rfl) (fun _ _ _ h => h) (Or.inl ⟨by rfl, ?_⟩) hS ?_
        rotate_left
        focus (intro w' hw'; have hbt := dq_built; go_simp; all_goals with_reducible rfl)
        try simp only [Act.put, List.setIfInBounds_toArray, List.set_cons_zero, List.set_cons_succ]
        refine wpAnyH_ready (rs := [16]) (by kernel_rfl) (by simp) ?_
        refine AllReadyH.cons (o := _) (by simp only [List.getElem?_toArray, List.getElem?_cons_succ, List.getElem?_cons_zero] <;> exact rfl) (fun K hK => ?_) ?_
        focus (
          refine rgs_store_blk (by rfl) 24 (.tmp 4) (.tmp 51) (by rfl) (w.heap.size + 1) #[.slice A2 (n + 1) c2, .int .i64 (m + (k : Int)), .int .i64 g] #[.slice none 0 0, .int .i64 0, .int .i64 0] 24 (by rfl) (by rfl) EX dq_size rfl (by simp [Value.oneCell']) ?_
          have hT := own_q hown2 EX (by decide) ((KB.refl (· = w.heap.size + 1) wq).setRow (fun _ => rfl) #[.slice A2 (n + 1) c2, .int .i64 (m + (k : Int)), .int .i64 g])
          have hS := hS.setRow (fun _ => rfl) #[.slice A2 (n + 1) c2, .int .i64 (m + (k : Int)), .int .i64 g]
          have EX := EX.row #[.slice A2 (n + 1) c2, .int .i64 (m + (k : Int)), .int .i64 g]
          refine hK.out _ _ hS (fun _ => ?_)
          generalize wq.setRow (w.heap.size + 1) #[.slice A2 (n + 1) c2, .int .i64 (m + (k : Int)), .int .i64 g] = ws at hS EX hT ⊢
          clear hK K
          try simp only [Act.put, List.setIfInBounds_toArray, List.set_cons_zero, List.set_cons_succ]
          refine wpAnyH_take (i := 17) (v := ?_) (by simp only [List.getElem?_toArray, List.getElem?_cons_succ, List.getElem?_cons_zero] <;> exact rfl) (by kernel_rfl) (by kernel_rfl) (by kernel_rfl) (fun _ _ _ h => h) (Or.inl ⟨by rfl, ?_⟩) hS ?_
          rotate_left
          focus (intro w' hw'; go_simp; all_goals with_reducible rfl)
          try simp only [Act.put, List.setIfInBounds_toArray, List.set_cons_zero, List.set_cons_succ]
          refine wpAnyH_done (by kernel_rfl) ?_ _
          refine NoPanic.normal ?_
          go_wp2_with fail
          exact bodyPost_ret (results_dq rfl _ _ (w.heap.size + 1) _ _ _ rfl EX (.int .i64 0) rfl) rfl ⟨⟨A2, n + 1, c2, rfl, TX.of_own (by simpa using hT)⟩, HBK.out _ hS⟩)
        exact AllReadyH.nil)
      exact AllReadyH.nil)
    exact AllReadyH.nil)
  refine AllReadyH.cons (o := _) (by simp only [List.getElem?_toArray, List.getElem?_cons_succ, List.getElem?_cons_zero] <;> exact rfl) (fun K hK => ?_) ?_
  focus (
    go_simp
    have hZ := hS.size
    have hS := hS.alloc (.cells #[.string S] 9)
    have EX := EX.alloc (.cells #[.string S] 9)
    have htx := tx_new1 wd S
    have hZ2 : w3.heap.size ≤ (wd.alloc (.cells #[.string S] 9)).heap.size := by simp; omega
    refine hK.out _ _ hS (fun _ => ?_)
    clear hK K
    try simp only [Act.put, List.setIfInBounds_toArray, List.set_cons_zero, List.set_cons_succ]
    refine wpAnyH_ready (rs := [3]) (by kernel_rfl) (by simp) ?_
    refine AllReadyH.cons (o := _) (by simp only [List.getElem?_toArray, List.getElem?_cons_succ, List.getElem?_cons_zero] <;> exact rfl) (fun K hK => ?_) ?_
    focus (
      refine step_append_tx (wd.alloc (.cells #[.string S] 9)) (by rfl) (.tmp 36) (.tmp 38) (by rfl) w3.heap.size (.slice none 0 0) 0 [] (by rfl) (World.ownsRow_nil _ _ _ _) A n c l (by rfl) (HQ.out.tx.keep (HBK.out _ hS)) (by have := HFW.out; omega) hZ2 ?_
      intro A1 c1 wa hown1 hg1
      rw [Nat.zero_add, List.nil_append] at hown1
      rw [Nat.zero_add]
      have hb1 : Below (wd.alloc (.cells #[.string S] 9)).heap.size (wd.alloc (.cells #[.string S] 9)) wa := (Below.refl _ _).grown hg1 (Nat.le_refl _) (fun i hi => by simp [Value.ownBlock] at hi)
      have hS := hS.trans' (KB.of_below (· = w.heap.size + 1) hb1) (fun _ _ h => h)
      have EX := EX.keep hb1
      have htx := htx.keep hb1
      refine hK.out _ _ hS (fun _ => ?_)
      clear hK K
      try simp only [Act.put, List.setIfInBounds_toArray, List.set_cons_zero, List.set_cons_succ]
      refine wpAnyH_ready (rs := [7]) (by kernel_rfl) (by simp) ?_
      refine AllReadyH.cons (o := _) (by simp only [List.getElem?_toArray, List.getElem?_cons_succ, List.getElem?_cons_zero] <;> exact rfl) (fun K hK => ?_) ?_
      focus (
        refine step_append_tx wa (by rfl) (.tmp 39) (.tmp 42) (by rfl) w3.heap.size (.slice A1 n c1) n l (by rfl) hown1 (some ⟨wd.heap.size, 0, none⟩) 1 1 [S] (by rfl) htx (by have := HFW.out; omega) hS.size ?_
        intro A2 c2 wq hown2 hg2
        have hS := KB.trans' hS (KB.of_grown (S := fun i => Value.ownBlock (.slice A1 n c1) = some i) hg2 (fun i h _ => h)) (fun i hi h => absurd (hown1.lt i h).1 (by omega))
        have EX := blk_grown EX hg2 (own_apartx hown1 EX (by decide))
        refine hK.out _ _ hS (fun _ => ?_)
        clear hK K
        try simp only [Act.put, List.setIfInBounds_toArray, List.set_cons_zero, List.set_cons_succ]
        refine wpAnyH_take (i := 15) (v := ?_) (by simp only [List.getElem?_toArray, List.getElem?_cons_succ, List.getElem?_cons_zero] <;> exact rfl) (by kernel_rfl) (by kernel_rfl) (by kernel_rfl) (fun _ _ _ h => h) (Or.inl ⟨by rfl, ?_⟩) hS ?_
        rotate_left
        focus (intro w' hw'; have hbt := dq_built; go_simp; all_goals with_reducible rfl)
        try simp only [Act.put, List.setIfInBounds_toArray, List.set_cons_zero, List.set_cons_succ]
        refine wpAnyH_ready (rs := [16]) (by kernel_rfl) (by simp) ?_
        refine AllReadyH.cons (o := _) (by simp only [List.getElem?_toArray, List.getElem?_cons_succ, List.getElem?_cons_zero] <;> exact rfl) (fun K hK => ?_) ?_
        focus (
          refine rgs_store_blk (by rfl) 24 (.tmp 4) (.tmp 51) (by rfl) (w.heap.size + 1) #[.slice A2 (n + 1) c2, .int .i64 (m + (k : Int)), .int .i64 g] #[.slice none 0 0, .int .i64 0, .int .i64 0] 24 (by rfl) (by rfl) EX dq_size rfl (by simp [Value.oneCell']) ?_
          have hT := own_q hown2 EX (by decide) ((KB.refl (· = w.heap.size + 1) wq).setRow (fun _ => rfl) #[.slice A2 (n + 1) c2, .int .i64 (m + (k : Int)), .int .i64 g])
          have hS := hS.setRow (fun _ => rfl) #[.slice A2 (n + 1) c2, .int .i64 (m + (k : Int)), .int .i64 g]
          have EX := EX.row #[.slice A2 (n + 1) c2, .int .i64 (m + (k : Int)), .int .i64 g]
          refine hK.out _ _ hS (fun _ => ?_)
          generalize wq.setRow (w.heap.size + 1) #[.slice A2 (n + 1) c2, .int .i64 (m + (k : Int)), .int .i64 g] = ws at hS EX hT ⊢
          clear hK K
          try simp only [Act.put, List.setIfInBounds_toArray, List.set_cons_zero, List.set_cons_succ]
          refine wpAnyH_take (i := 17) (v := ?_) (by simp only [List.getElem?_toArray, List.getElem?_cons_succ, List.getElem?_cons_zero] <;> exact rfl) (by kernel_rfl) (by kernel_rfl) (by kernel_rfl) (fun _ _ _ h => h) (Or.inl ⟨by rfl, ?_⟩) hS ?_
          rotate_left
          focus (intro w' hw'; go_simp; all_goals with_reducible rfl)
          try simp only [Act.put, List.setIfInBounds_toArray, List.set_cons_zero, List.set_cons_succ]
          refine wpAnyH_done (by kernel_rfl) ?_ _
          refine NoPanic.normal ?_
          go_wp2_with fail
          exact bodyPost_ret (results_dq rfl _ _ (w.heap.size + 1) _ _ _ rfl EX (.int .i64 0) rfl) rfl ⟨⟨A2, n + 1, c2, rfl, TX.of_own (by simpa using hT)⟩, HBK.out _ hS⟩)
        exact AllReadyH.nil)
      exact AllReadyH.nil)
    exact AllReadyH.nil)
  exact AllReadyH.nil

set_option maxRecDepth 100000 in
set_option maxHeartbeats 3200000 in
theorem rq_Push (q : Qu) (A : Option Addr) (n c : Nat) (B : Option Addr) (k d : Nat) (xs : List Int) (w : World) (hl : QL w q A n c) (hb : RB w B k xs) (hk : (k : Int) ≤ 1000000) :
    Calls Try.prog 10 #[.agg #[.slice A n c, .int .i64 q.m, .int .i64 q.g], .slice B k d] w (GivesQE (pushQ q xs) (pushE q xs) w) := by
  have hxl := hb.1
  unfold pushQ pushE fitsQ
  rw [hxl]
  by_cases hck : chkQ q = 0
  · simp only [hck, true_and, if_true]
    by_cases hf : (k : Int) ≤ 65536 - (lenL q.ps : Int)
    · by_cases hc : q.m + k ≤ 1099511627776
      · simp only [hf, hc, decide_true, Bool.and_true, if_true, true_and]
        by_cases hk0 : k = 0
        · have : xs = [] := List.eq_nil_of_length_eq_zero (by omega)
          rw [if_neg (by simpa using this)]
          exact rq_push_none q A n c B k d xs w hl hb hk hck (by omega) hk0
        · have : xs ≠ [] := fun e => hk0 (by rw [← hxl, e]; rfl)
          rw [if_pos this]
          exact rq_push_add q A n c B k d xs w hl hb hk hck hf hc (by omega)
      · simp only [hf, hc, decide_true, decide_false, Bool.and_false, Bool.false_eq_true, if_false, false_and]
        exact rq_push_full2 q A n c B k d xs w hl hb hk hck hf (by omega)
    · simp only [hf, decide_false, Bool.false_and, Bool.false_eq_true, if_false, false_and]
      exact rq_push_full1 q A n c B k d xs w hl hb hk hck (by omega)
  · simp only [hck, if_false, false_and]
    exact rq_push_bad q A n c B k d xs w hl hb hk hck
end Go.Proofs.Ytfcokhdkjoimmaa
