/-
  Layer 19: the program's Push (written by gen19push.py).
-/
import Derived.Test.YtfcokhdkjoimmaaOqNew
import Derived.Test.YtfcokhdkjoimmaaRqLight
namespace Go.Proofs.Ytfcokhdkjoimmaa
set_option linter.unusedSimpArgs false
set_option linter.unusedVariables false
open Go.RowKit
set_option maxRecDepth 100000 in
set_option maxHeartbeats 1600000 in
theorem oq_push_bad (q : Qu) (A : Option Addr) (n c : Nat) (B : Option Addr) (k d : Nat) (xs : List Int) (w : World) (hl : QL w q A n c) (hb : RB w B k xs) (hk : (k : Int) ≤ 1000000) (hck : ¬ chkQ q = 0) :
    Calls Try.prog 9 #[.agg #[.slice A n c, .int .i64 q.m, .int .i64 q.g], .slice B k d] w (GivesQE q (chkQ q) w) := by
  have HQ := hide hl
  have HR := hide hb
  have HB2 := hide (bel2 w (.cells #[.slice A n c, .int .i64 q.m, .int .i64 q.g] 28) (.cells #[.slice none 0 0, .int .i64 0, .int .i64 0] 28))
  have HX := hide ((BlkIs.new w 28 #[.slice A n c, .int .i64 q.m, .int .i64 q.g]).alloc (.cells #[.slice none 0 0, .int .i64 0, .int .i64 0] 28))
  have HG := hide (new2 w (.cells #[.slice A n c, .int .i64 q.m, .int .i64 q.g] 28) 28 #[.slice none 0 0, .int .i64 0, .int .i64 0])
  have HCK := hide (oq_Check q A n c _ (hl.keep HB2.out))
  have HRM := hide (fun w' (h : Below w.heap.size w w') => oq_Room q A n c w' (hl.keep h))
  have HCL := hide (fun w' (h : Below w.heap.size w w') => oq_Clone A n c q.ps w' (hl.tx.keep h) (by have := hl.few; omega))
  have HKL := hide hb.1
  have hz := run_zero_is pq_zero
  have h0 : (0 : Int) ≤ (k : Int) := by omega
  unfold GivesQE
  generalize chkQ q = ck at *
  have hne : (ck == 0) = false := beq_eq_false_iff_ne.2 hck
  have hne2 : (ck != 0) = true := by simpa using hck
  generalize q.m = m at *
  generalize q.g = g at *
  clear hl hb hck HRM HCL
  go_enter Try.func9, Try.ntmps9
  go_wp2_with fail
  refine HCK.out.mono ?_
  rintro e w2 ⟨rfl, hb2⟩
  have HG2 := hide (HG.out.keep hb2)
  have HX2 := hide (HX.out.keep hb2)
  have HB3 := hide (HB2.out.trans (hb2.mono HB2.out.size))
  obtain ⟨k0, k1, k2⟩ := qcells HX2.out
  clear hb2 HCK HG HX HB2
  go_wp2_with (refine wpList_q_blk 28 pq_size rfl (.tmp 4) (.tmp 12) (w.heap.size + 1) A n c m g _ _ _ rfl HG2.out rfl rfl ?_; intro w9 hk9 kb9; have HK9 := hide hk9; have HB9 := hide (below_kbq HB3.out kb9 (Nat.le_refl _) (by omega)); clear hk9 kb9)
  exact bodyPost_ret (results_pq rfl _ _ (w.heap.size + 1) _ _ _ rfl HK9.out (.int .i64 ck) rfl) rfl ⟨⟨A, n, c, rfl, HQ.out.tx.keep HB9.out⟩, HB9.out⟩

set_option maxRecDepth 100000 in
set_option maxHeartbeats 1600000 in
theorem oq_push_full1 (q : Qu) (A : Option Addr) (n c : Nat) (B : Option Addr) (k d : Nat) (xs : List Int) (w : World) (hl : QL w q A n c) (hb : RB w B k xs) (hk : (k : Int) ≤ 1000000) (hck : chkQ q = 0) (hf : 65536 - (lenL q.ps : Int) < (k : Int)) :
    Calls Try.prog 9 #[.agg #[.slice A n c, .int .i64 q.m, .int .i64 q.g], .slice B k d] w (GivesQE q 7 w) := by
  have HQ := hide hl
  have HR := hide hb
  have HB2 := hide (bel2 w (.cells #[.slice A n c, .int .i64 q.m, .int .i64 q.g] 28) (.cells #[.slice none 0 0, .int .i64 0, .int .i64 0] 28))
  have HX := hide ((BlkIs.new w 28 #[.slice A n c, .int .i64 q.m, .int .i64 q.g]).alloc (.cells #[.slice none 0 0, .int .i64 0, .int .i64 0] 28))
  have HG := hide (new2 w (.cells #[.slice A n c, .int .i64 q.m, .int .i64 q.g] 28) 28 #[.slice none 0 0, .int .i64 0, .int .i64 0])
  have HCK := hide (oq_Check q A n c _ (hl.keep HB2.out))
  have HRM := hide (fun w' (h : Below w.heap.size w w') => oq_Room q A n c w' (hl.keep h))
  have HCL := hide (fun w' (h : Below w.heap.size w w') => oq_Clone A n c q.ps w' (hl.tx.keep h) (by have := hl.few; omega))
  have HKL := hide hb.1
  have hz := run_zero_is pq_zero
  have h0 : (0 : Int) ≤ (k : Int) := by omega
  have hro : roomQ q = 65536 - (lenL q.ps : Int) := by unfold roomQ; rw [if_pos hck]
  rw [hck] at HCK
  rw [hro] at HRM
  have hok := (chk_ok q).1 hck
  have hL1 : (lenL q.ps : Int) ≤ 65536 := by have := hok.len; omega
  have hL0 : (0 : Int) ≤ (lenL q.ps : Int) := by omega
  have hm0 := hok.m0
  have hm1 := hok.m1
  unfold GivesQE
  generalize lenL q.ps = L at *
  generalize q.m = m at *
  generalize q.g = g at *
  clear hl hb hck HCL hro hok
  go_enter Try.func9, Try.ntmps9
  go_wp2_with fail
  refine HCK.out.mono ?_
  rintro e w2 ⟨rfl, hb2⟩
  have HG2 := hide (HG.out.keep hb2)
  have HX2 := hide (HX.out.keep hb2)
  have HB3 := hide (HB2.out.trans (hb2.mono HB2.out.size))
  obtain ⟨k0, k1, k2⟩ := qcells HX2.out
  clear hb2 HCK HG HX HB2
  have HRM2 := hide (HRM.out w2 HB3.out)
  go_wp2_with fail
  refine HRM2.out.mono ?_
  rintro e w3 ⟨rfl, hb3⟩
  have HG3 := hide (HG2.out.keep hb3)
  have HX3 := hide (HX2.out.keep hb3)
  have HB4 := hide (HB3.out.trans (hb3.mono HB3.out.size))
  clear k0 k1 k2
  obtain ⟨k0, k1, k2⟩ := qcells HX3.out
  clear hb3 HRM2 HG2 HX2 HB3 HRM
  go_wp2_with (refine wpList_q_blk 28 pq_size rfl (.tmp 4) (.tmp 28) (w.heap.size + 1) A n c m g _ _ _ rfl HG3.out rfl rfl ?_; intro w9 hk9 kb9; have HK9 := hide hk9; have HB9 := hide (below_kbq HB4.out kb9 (Nat.le_refl _) (by omega)); clear hk9 kb9)
  exact bodyPost_ret (results_pq rfl _ _ (w.heap.size + 1) _ _ _ rfl HK9.out (.int .i64 7) rfl) rfl ⟨⟨A, n, c, rfl, HQ.out.tx.keep HB9.out⟩, HB9.out⟩

set_option maxRecDepth 100000 in
set_option maxHeartbeats 1600000 in
theorem oq_push_full2 (q : Qu) (A : Option Addr) (n c : Nat) (B : Option Addr) (k d : Nat) (xs : List Int) (w : World) (hl : QL w q A n c) (hb : RB w B k xs) (hk : (k : Int) ≤ 1000000) (hck : chkQ q = 0) (hf : (k : Int) ≤ 65536 - (lenL q.ps : Int)) (hc : isC (q.m + k) = false) :
    Calls Try.prog 9 #[.agg #[.slice A n c, .int .i64 q.m, .int .i64 q.g], .slice B k d] w (GivesQE q 7 w) := by
  have HQ := hide hl
  have HR := hide hb
  have HB2 := hide (bel2 w (.cells #[.slice A n c, .int .i64 q.m, .int .i64 q.g] 28) (.cells #[.slice none 0 0, .int .i64 0, .int .i64 0] 28))
  have HX := hide ((BlkIs.new w 28 #[.slice A n c, .int .i64 q.m, .int .i64 q.g]).alloc (.cells #[.slice none 0 0, .int .i64 0, .int .i64 0] 28))
  have HG := hide (new2 w (.cells #[.slice A n c, .int .i64 q.m, .int .i64 q.g] 28) 28 #[.slice none 0 0, .int .i64 0, .int .i64 0])
  have HCK := hide (oq_Check q A n c _ (hl.keep HB2.out))
  have HRM := hide (fun w' (h : Below w.heap.size w w') => oq_Room q A n c w' (hl.keep h))
  have HCL := hide (fun w' (h : Below w.heap.size w w') => oq_Clone A n c q.ps w' (hl.tx.keep h) (by have := hl.few; omega))
  have HKL := hide hb.1
  have hz := run_zero_is pq_zero
  have h0 : (0 : Int) ≤ (k : Int) := by omega
  have hro : roomQ q = 65536 - (lenL q.ps : Int) := by unfold roomQ; rw [if_pos hck]
  rw [hck] at HCK
  rw [hro] at HRM
  have hok := (chk_ok q).1 hck
  have hL1 : (lenL q.ps : Int) ≤ 65536 := by have := hok.len; omega
  have hL0 : (0 : Int) ≤ (lenL q.ps : Int) := by omega
  have hm0 := hok.m0
  have hm1 := hok.m1
  unfold GivesQE
  have HIC := hide (oq_isCount (q.m + (k : Int)))
  rw [hc] at HIC
  generalize lenL q.ps = L at *
  generalize q.m = m at *
  generalize q.g = g at *
  clear hl hb hck HCL hro hok hc
  go_enter Try.func9, Try.ntmps9
  go_wp2_with fail
  refine HCK.out.mono ?_
  rintro e w2 ⟨rfl, hb2⟩
  have HG2 := hide (HG.out.keep hb2)
  have HX2 := hide (HX.out.keep hb2)
  have HB3 := hide (HB2.out.trans (hb2.mono HB2.out.size))
  obtain ⟨k0, k1, k2⟩ := qcells HX2.out
  clear hb2 HCK HG HX HB2
  have HRM2 := hide (HRM.out w2 HB3.out)
  go_wp2_with fail
  refine HRM2.out.mono ?_
  rintro e w3 ⟨rfl, hb3⟩
  have HG3 := hide (HG2.out.keep hb3)
  have HX3 := hide (HX2.out.keep hb3)
  have HB4 := hide (HB3.out.trans (hb3.mono HB3.out.size))
  clear k0 k1 k2
  obtain ⟨k0, k1, k2⟩ := qcells HX3.out
  clear hb3 HRM2 HG2 HX2 HB3 HRM
  go_wp2_with fail
  all_goals first | (exfalso; omega) | skip
  refine (HIC.out _).mono ?_
  rintro e w4 ⟨rfl, rfl⟩
  go_wp2_with (refine wpList_q_blk 28 pq_size rfl (.tmp 4) (.tmp 28) (w.heap.size + 1) A n c m g _ _ _ rfl HG3.out rfl rfl ?_; intro w9 hk9 kb9; have HK9 := hide hk9; have HB9 := hide (below_kbq HB4.out kb9 (Nat.le_refl _) (by omega)); clear hk9 kb9)
  exact bodyPost_ret (results_pq rfl _ _ (w.heap.size + 1) _ _ _ rfl HK9.out (.int .i64 7) rfl) rfl ⟨⟨A, n, c, rfl, HQ.out.tx.keep HB9.out⟩, HB9.out⟩

set_option maxRecDepth 100000 in
set_option maxHeartbeats 1600000 in
theorem oq_push_none (q : Qu) (A : Option Addr) (n c : Nat) (B : Option Addr) (k d : Nat) (xs : List Int) (w : World) (hl : QL w q A n c) (hb : RB w B k xs) (hk : (k : Int) ≤ 1000000) (hck : chkQ q = 0) (hf : (k : Int) ≤ 65536 - (lenL q.ps : Int)) (hc : isC (q.m + k) = true) (hk0 : k = 0) :
    Calls Try.prog 9 #[.agg #[.slice A n c, .int .i64 q.m, .int .i64 q.g], .slice B k d] w (GivesQE q 0 w) := by
  have HQ := hide hl
  have HR := hide hb
  have HB2 := hide (bel2 w (.cells #[.slice A n c, .int .i64 q.m, .int .i64 q.g] 28) (.cells #[.slice none 0 0, .int .i64 0, .int .i64 0] 28))
  have HX := hide ((BlkIs.new w 28 #[.slice A n c, .int .i64 q.m, .int .i64 q.g]).alloc (.cells #[.slice none 0 0, .int .i64 0, .int .i64 0] 28))
  have HG := hide (new2 w (.cells #[.slice A n c, .int .i64 q.m, .int .i64 q.g] 28) 28 #[.slice none 0 0, .int .i64 0, .int .i64 0])
  have HCK := hide (oq_Check q A n c _ (hl.keep HB2.out))
  have HRM := hide (fun w' (h : Below w.heap.size w w') => oq_Room q A n c w' (hl.keep h))
  have HCL := hide (fun w' (h : Below w.heap.size w w') => oq_Clone A n c q.ps w' (hl.tx.keep h) (by have := hl.few; omega))
  have HKL := hide hb.1
  have hz := run_zero_is pq_zero
  have h0 : (0 : Int) ≤ (k : Int) := by omega
  have hro : roomQ q = 65536 - (lenL q.ps : Int) := by unfold roomQ; rw [if_pos hck]
  rw [hck] at HCK
  rw [hro] at HRM
  have hok := (chk_ok q).1 hck
  have hL1 : (lenL q.ps : Int) ≤ 65536 := by have := hok.len; omega
  have hL0 : (0 : Int) ≤ (lenL q.ps : Int) := by omega
  have hm0 := hok.m0
  have hm1 := hok.m1
  unfold GivesQE
  subst hk0
  rw [show q.m + ((0 : Nat) : Int) = q.m by omega] at hc
  have hf2 : (0 : Int) ≤ 65536 - (lenL q.ps : Int) := by omega
  have hf3 : ¬ 65536 - (lenL q.ps : Int) < 0 := by omega
  clear hf
  have HIC := hide (oq_isCount q.m)
  rw [hc] at HIC
  have HLN := hide hl.tx.len
  have HFW := hide hl.few
  generalize lenL q.ps = L at *
  generalize q.m = m at *
  generalize q.g = g at *
  generalize q.ps = l at *
  clear hl hb hck hro hok hc
  go_enter Try.func9, Try.ntmps9
  go_wp2_with fail
  refine HCK.out.mono ?_
  rintro e w2 ⟨rfl, hb2⟩
  have HG2 := hide (HG.out.keep hb2)
  have HX2 := hide (HX.out.keep hb2)
  have HB3 := hide (HB2.out.trans (hb2.mono HB2.out.size))
  obtain ⟨k0, k1, k2⟩ := qcells HX2.out
  clear hb2 HCK HG HX HB2
  have HRM2 := hide (HRM.out w2 HB3.out)
  go_wp2_with fail
  refine HRM2.out.mono ?_
  rintro e w3 ⟨rfl, hb3⟩
  have HG3 := hide (HG2.out.keep hb3)
  have HX3 := hide (HX2.out.keep hb3)
  have HB4 := hide (HB3.out.trans (hb3.mono HB3.out.size))
  clear k0 k1 k2
  obtain ⟨k0, k1, k2⟩ := qcells HX3.out
  clear hb3 HRM2 HG2 HX2 HB3 HRM
  go_wp2_with fail
  all_goals first | (exfalso; omega) | skip
  refine (HIC.out _).mono ?_
  rintro e w4 ⟨rfl, rfl⟩
  have HCL2 := hide (HCL.out w3 HB4.out)
  go_wp2_with fail
  refine HCL2.out.mono ?_
  rintro e w5 ⟨A1, c1, rfl, ho5, hb5⟩
  have HG5 := hide (HG3.out.keep hb5)
  have HX5 := hide (HX3.out.keep hb5)
  have HB5 := hide (HB4.out.trans (hb5.mono HB4.out.size))
  have HO5 := hide (own_base (B' := w.heap.size + 1 + 1) ho5 HG3.out.lt)
  clear k0 k1 k2
  obtain ⟨k0, k1, k2⟩ := qcells HX5.out
  clear hb5 ho5 HCL HCL2 HG3 HX3 HB4
  have hbt := pq_built
  go_wp2_with (refine wpList_q_blk 28 pq_size rfl (.tmp 4) (.tmp 48) (w.heap.size + 1) A1 l.length c1 m g _ _ _ rfl HG5.out rfl rfl ?_; intro w9 hk9 kb9; have HK9 := hide hk9; have HB9 := hide (below_kbq HB5.out kb9 (Nat.le_refl _) (by omega)); have HO9 := hide (own_q HO5.out HG5.out (by decide) kb9); clear hk9 kb9)
  exact bodyPost_ret (results_pq rfl _ _ (w.heap.size + 1) _ _ _ rfl HK9.out (.int .i64 0) rfl) rfl ⟨⟨A1, l.length, c1, by simp, TX.of_own HO9.out⟩, HB9.out⟩

set_option maxRecDepth 100000 in
set_option maxHeartbeats 1600000 in
theorem oq_push_add (q : Qu) (A : Option Addr) (n c : Nat) (B : Option Addr) (k d : Nat) (xs : List Int) (w : World) (hl : QL w q A n c) (hb : RB w B k xs) (hk : (k : Int) ≤ 1000000) (hck : chkQ q = 0) (hf : (k : Int) ≤ 65536 - (lenL q.ps : Int)) (hc : isC (q.m + k) = true) (hk0 : (0 : Int) < (k : Int)) :
    Calls Try.prog 9 #[.agg #[.slice A n c, .int .i64 q.m, .int .i64 q.g], .slice B k d] w (GivesQE ⟨q.ps ++ [strOfNums xs], q.m + (k : Int), q.g⟩ 0 w) := by
  have HQ := hide hl
  have HR := hide hb
  have HB2 := hide (bel2 w (.cells #[.slice A n c, .int .i64 q.m, .int .i64 q.g] 28) (.cells #[.slice none 0 0, .int .i64 0, .int .i64 0] 28))
  have HX := hide ((BlkIs.new w 28 #[.slice A n c, .int .i64 q.m, .int .i64 q.g]).alloc (.cells #[.slice none 0 0, .int .i64 0, .int .i64 0] 28))
  have HG := hide (new2 w (.cells #[.slice A n c, .int .i64 q.m, .int .i64 q.g] 28) 28 #[.slice none 0 0, .int .i64 0, .int .i64 0])
  have HCK := hide (oq_Check q A n c _ (hl.keep HB2.out))
  have HRM := hide (fun w' (h : Below w.heap.size w w') => oq_Room q A n c w' (hl.keep h))
  have HCL := hide (fun w' (h : Below w.heap.size w w') => oq_Clone A n c q.ps w' (hl.tx.keep h) (by have := hl.few; omega))
  have HKL := hide hb.1
  have hz := run_zero_is pq_zero
  have h0 : (0 : Int) ≤ (k : Int) := by omega
  have hro : roomQ q = 65536 - (lenL q.ps : Int) := by unfold roomQ; rw [if_pos hck]
  rw [hck] at HCK
  rw [hro] at HRM
  have hok := (chk_ok q).1 hck
  have hL1 : (lenL q.ps : Int) ≤ 65536 := by have := hok.len; omega
  have hL0 : (0 : Int) ≤ (lenL q.ps : Int) := by omega
  have hm0 := hok.m0
  have hm1 := hok.m1
  unfold GivesQE
  obtain ⟨S, hS⟩ : ∃ S, S = strOfNums xs := ⟨_, rfl⟩
  rw [← hS]
  have HST := hide (fun w' (h : Below w.heap.size w w') => rb_string (w := w') d (hb.below h))
  rw [← hS] at HST
  have HKP := hide hk0
  have hf3 : ¬ 65536 - (lenL q.ps : Int) < (k : Int) := by omega
  clear hS hk0
  have HIC := hide (oq_isCount (q.m + (k : Int)))
  rw [hc] at HIC
  have HLN := hide hl.tx.len
  have HFW := hide hl.few
  generalize lenL q.ps = L at *
  generalize q.m = m at *
  generalize q.g = g at *
  generalize q.ps = l at *
  clear hl hb hck hro hok hc
  go_enter Try.func9, Try.ntmps9
  go_wp2_with fail
  refine HCK.out.mono ?_
  rintro e w2 ⟨rfl, hb2⟩
  have HG2 := hide (HG.out.keep hb2)
  have HX2 := hide (HX.out.keep hb2)
  have HB3 := hide (HB2.out.trans (hb2.mono HB2.out.size))
  obtain ⟨k0, k1, k2⟩ := qcells HX2.out
  clear hb2 HCK HG HX HB2
  have HRM2 := hide (HRM.out w2 HB3.out)
  go_wp2_with fail
  refine HRM2.out.mono ?_
  rintro e w3 ⟨rfl, hb3⟩
  have HG3 := hide (HG2.out.keep hb3)
  have HX3 := hide (HX2.out.keep hb3)
  have HB4 := hide (HB3.out.trans (hb3.mono HB3.out.size))
  clear k0 k1 k2
  obtain ⟨k0, k1, k2⟩ := qcells HX3.out
  clear hb3 HRM2 HG2 HX2 HB3 HRM
  go_wp2_with fail
  all_goals first | (exfalso; omega) | skip
  refine (HIC.out _).mono ?_
  rintro e w4 ⟨rfl, rfl⟩
  have HCL2 := hide (HCL.out w3 HB4.out)
  go_wp2_with fail
  refine HCL2.out.mono ?_
  rintro e w5 ⟨A1, c1, rfl, ho5, hb5⟩
  have HG5 := hide (HG3.out.keep hb5)
  have HX5 := hide (HX3.out.keep hb5)
  have HB5 := hide (HB4.out.trans (hb5.mono HB4.out.size))
  have HO5 := hide (own_base (B' := w.heap.size + 1 + 1) ho5 HG3.out.lt)
  clear k0 k1 k2
  obtain ⟨k0, k1, k2⟩ := qcells HX5.out
  clear hb5 ho5 HCL HCL2 HG3 HX3 HB4
  have hbt := pq_built
  have hst := HST.out _ HB5.out
  have hk0 := HKP.out
  have HTX := hide (tx_new1 w5 S)
  have HOA := hide (own_low HO5.out (bel1 w5 (.cells #[.string S] 9)))
  have HZ5 := hide (show w.heap.size + 1 < w5.heap.size from HG5.out.lt)
  go_wp2_with (first | (at_builtin; refine wpList_append_tx _ rfl (.tmp 35) (.tmp 38) rfl (w.heap.size + 1 + 1) _ l.length l rfl HOA.out (some ⟨w5.heap.size, 0, none⟩) 1 1 [S] rfl HTX.out (by have h1 := HLN.out; have h2 := HFW.out; omega) (by have := HZ5.out; simp; omega) ?_; intro v6 w6 hown6 hg6; have HG6 := hide (blk_grown (HG5.out.alloc (.cells #[.string S] 9)) hg6 (own_apartx HOA.out (HG5.out.alloc (.cells #[.string S] 9)) (by decide))); have HX6 := hide (blk_grown (HX5.out.alloc (.cells #[.string S] 9)) hg6 (own_apartx HOA.out (HX5.out.alloc (.cells #[.string S] 9)) (by decide))); have HB6 := hide (own_bel HOA.out (HB5.out.alloc HB5.out.size (.cells #[.string S] 9)) (by omega) (Nat.le_refl _) hg6); obtain ⟨A6, c6, rfl, -⟩ := own_texts (l := l ++ [S]) (n := l.length + 1) hown6; have HO6 := hide hown6; clear k0 k1 k2 hown6 hg6; obtain ⟨k0, k1, k2⟩ := qcells HX6.out) | (refine wpList_q_blk 28 pq_size rfl (.tmp 4) (.tmp 48) (w.heap.size + 1) A6 (l.length + 1) c6 (m + (k : Int)) g _ _ _ rfl HG6.out rfl rfl ?_; intro w9 hk9 kb9; have HK9 := hide hk9; have HB9 := hide (below_kbq HB6.out kb9 (Nat.le_refl _) (by omega)); have HO9 := hide (own_q HO6.out HG6.out (by decide) kb9); clear hk9 kb9))
  exact bodyPost_ret (results_pq rfl _ _ (w.heap.size + 1) _ _ _ rfl HK9.out (.int .i64 0) rfl) rfl ⟨⟨A6, l.length + 1, c6, rfl, TX.of_own HO9.out⟩, HB9.out⟩

set_option maxRecDepth 100000 in
set_option maxHeartbeats 1600000 in
theorem oq_Push (q : Qu) (A : Option Addr) (n c : Nat) (B : Option Addr) (k d : Nat) (xs : List Int) (w : World) (hl : QL w q A n c) (hb : RB w B k xs) (hk : (k : Int) ≤ 1000000) :
    Calls Try.prog 9 #[.agg #[.slice A n c, .int .i64 q.m, .int .i64 q.g], .slice B k d] w (GivesQE (pushQ q xs) (pushE q xs) w) := by
  have hxl := hb.1
  unfold pushQ pushE fitsQ
  rw [hxl]
  by_cases hck : chkQ q = 0
  · simp only [hck, true_and, if_true]
    by_cases hf : (k : Int) ≤ 65536 - (lenL q.ps : Int)
    · by_cases hc : isC (q.m + k) = true
      · have hm : q.m + k ≤ 1099511627776 := ((isC_iff _).1 hc).2
        simp only [hf, hm, decide_true, Bool.and_true, if_true, true_and]
        by_cases hk0 : k = 0
        · have : xs = [] := List.eq_nil_of_length_eq_zero (by omega)
          rw [if_neg (by simpa using this)]
          exact oq_push_none q A n c B k d xs w hl hb hk hck hf hc hk0
        · have : xs ≠ [] := fun e => hk0 (by rw [← hxl, e]; rfl)
          rw [if_pos this]
          exact oq_push_add q A n c B k d xs w hl hb hk hck hf hc (by omega)
      · have hc' : isC (q.m + k) = false := by simpa using hc
        have hm : ¬ q.m + k ≤ 1099511627776 := fun h => hc ((isC_iff _).2 ⟨by have := ((chk_ok q).1 hck).m0; omega, h⟩)
        simp only [hf, hm, decide_true, decide_false, Bool.and_false, Bool.false_eq_true, if_false, false_and]
        exact oq_push_full2 q A n c B k d xs w hl hb hk hck hf hc'
    · simp only [hf, decide_false, Bool.false_and, Bool.false_eq_true, if_false, false_and]
      exact oq_push_full1 q A n c B k d xs w hl hb hk hck (by omega)
  · simp only [hck, if_false, false_and]
    exact oq_push_bad q A n c B k d xs w hl hb hk hck
end Go.Proofs.Ytfcokhdkjoimmaa
