/-
  Layer 19: the program's Drain (written by gen19drain.py).
-/
import Derived.Test.YtfcokhdkjoimmaaOqTake
import Derived.Test.YtfcokhdkjoimmaaOqCheck
namespace Go.Proofs.Ytfcokhdkjoimmaa
set_option linter.unusedSimpArgs false
set_option linter.unusedVariables false
open Go.RowKit
set_option maxRecDepth 100000 in
set_option maxHeartbeats 1600000 in
theorem oq_drain_low_a (q : Qu) (A : Option Addr) (n c : Nat) (w : World) (hl : QL w q A n c) (x : Int) (hx : x ≤ (lenL q.ps : Int)) (h1 : x < 1) :
    Calls Try.prog 11 #[.agg #[.slice A n c, .int .i64 q.m, .int .i64 q.g], .int .i64 x] w (GivesQB q [] w) := by
  have HQ := hide hl
  have HB2 := hide (bel2 w (.cells #[.slice A n c, .int .i64 q.m, .int .i64 q.g] 28) (.cells #[.slice none 0 0, .int .i64 0, .int .i64 0] 28))
  have HX := hide ((BlkIs.new w 28 #[.slice A n c, .int .i64 q.m, .int .i64 q.g]).alloc (.cells #[.slice none 0 0, .int .i64 0, .int .i64 0] 28))
  have HG := hide (new2 w (.cells #[.slice A n c, .int .i64 q.m, .int .i64 q.g] 28) 28 #[.slice none 0 0, .int .i64 0, .int .i64 0])
  have HLE := hide (oq_Len q A n c _ (hl.keep HB2.out))
  have HCK := hide (fun w' (h : Below w.heap.size w w') => oq_Check q A n c w' (hl.keep h))
  have HCL := hide (fun w' (h : Below w.heap.size w w') => oq_Clone A n c q.ps w' (hl.tx.keep h) (by have := hl.few; omega))
  have HSM := hide hl.sum
  have hz := run_zero_is pq_zero
  have h0 : (0 : Int) ≤ (lenL q.ps : Int) := by omega
  have h00 : (lenL q.ps : Int) ≤ 100000000 := by have := hl.sum; omega
  unfold GivesQB
  generalize lenL q.ps = L at *
  generalize q.m = m at *
  generalize q.g = g at *
  clear hl HCK HCL
  go_enter Try.func11, Try.ntmps11
  go_wp2_with fail
  refine HLE.out.mono ?_
  rintro e w2 ⟨rfl, hb2⟩
  have HG2 := hide (HG.out.keep hb2)
  have HX2 := hide (HX.out.keep hb2)
  have HB3 := hide (HB2.out.trans (hb2.mono HB2.out.size))
  obtain ⟨k0, k1, k2⟩ := qcells HX2.out
  clear hb2 HLE HG HX HB2
  go_wp2_with (refine wpList_q_blk 28 pq_size rfl (.tmp 4) (.tmp 19) (w.heap.size + 1) A n c m g _ _ _ rfl HG2.out rfl rfl ?_; intro w9 hk9 kb9; have HK9 := hide hk9; have HB9 := hide (below_kbq HB3.out kb9 (Nat.le_refl _) (by omega)); clear hk9 kb9)
  all_goals first | (exfalso; omega) | skip
  exact bodyPost_ret (results_pq rfl _ _ (w.heap.size + 1) _ _ _ rfl HK9.out (.slice none 0 0) rfl) rfl ⟨⟨A, n, c, none, 0, 0, rfl, HQ.out.tx.keep HB9.out, RB.nothing _ _⟩, HB9.out⟩

set_option maxRecDepth 100000 in
set_option maxHeartbeats 1600000 in
theorem oq_drain_low_b (q : Qu) (A : Option Addr) (n c : Nat) (w : World) (hl : QL w q A n c) (x : Int) (hx : (lenL q.ps : Int) < x) (h1 : (lenL q.ps : Int) < 1) :
    Calls Try.prog 11 #[.agg #[.slice A n c, .int .i64 q.m, .int .i64 q.g], .int .i64 x] w (GivesQB q [] w) := by
  have HQ := hide hl
  have HB2 := hide (bel2 w (.cells #[.slice A n c, .int .i64 q.m, .int .i64 q.g] 28) (.cells #[.slice none 0 0, .int .i64 0, .int .i64 0] 28))
  have HX := hide ((BlkIs.new w 28 #[.slice A n c, .int .i64 q.m, .int .i64 q.g]).alloc (.cells #[.slice none 0 0, .int .i64 0, .int .i64 0] 28))
  have HG := hide (new2 w (.cells #[.slice A n c, .int .i64 q.m, .int .i64 q.g] 28) 28 #[.slice none 0 0, .int .i64 0, .int .i64 0])
  have HLE := hide (oq_Len q A n c _ (hl.keep HB2.out))
  have HCK := hide (fun w' (h : Below w.heap.size w w') => oq_Check q A n c w' (hl.keep h))
  have HCL := hide (fun w' (h : Below w.heap.size w w') => oq_Clone A n c q.ps w' (hl.tx.keep h) (by have := hl.few; omega))
  have HSM := hide hl.sum
  have hz := run_zero_is pq_zero
  have h0 : (0 : Int) ≤ (lenL q.ps : Int) := by omega
  have h00 : (lenL q.ps : Int) ≤ 100000000 := by have := hl.sum; omega
  unfold GivesQB
  generalize lenL q.ps = L at *
  generalize q.m = m at *
  generalize q.g = g at *
  clear hl HCK HCL
  go_enter Try.func11, Try.ntmps11
  go_wp2_with fail
  refine HLE.out.mono ?_
  rintro e w2 ⟨rfl, hb2⟩
  have HG2 := hide (HG.out.keep hb2)
  have HX2 := hide (HX.out.keep hb2)
  have HB3 := hide (HB2.out.trans (hb2.mono HB2.out.size))
  obtain ⟨k0, k1, k2⟩ := qcells HX2.out
  clear hb2 HLE HG HX HB2
  go_wp2_with (refine wpList_q_blk 28 pq_size rfl (.tmp 4) (.tmp 19) (w.heap.size + 1) A n c m g _ _ _ rfl HG2.out rfl rfl ?_; intro w9 hk9 kb9; have HK9 := hide hk9; have HB9 := hide (below_kbq HB3.out kb9 (Nat.le_refl _) (by omega)); clear hk9 kb9)
  all_goals first | (exfalso; omega) | skip
  exact bodyPost_ret (results_pq rfl _ _ (w.heap.size + 1) _ _ _ rfl HK9.out (.slice none 0 0) rfl) rfl ⟨⟨A, n, c, none, 0, 0, rfl, HQ.out.tx.keep HB9.out, RB.nothing _ _⟩, HB9.out⟩

set_option maxRecDepth 100000 in
set_option maxHeartbeats 1600000 in
theorem oq_drain_bad_a (q : Qu) (A : Option Addr) (n c : Nat) (w : World) (hl : QL w q A n c) (x : Int) (hx : x ≤ (lenL q.ps : Int)) (h1 : 1 ≤ x) (hck : ¬ chkQ q = 0) :
    Calls Try.prog 11 #[.agg #[.slice A n c, .int .i64 q.m, .int .i64 q.g], .int .i64 x] w (GivesQB q [] w) := by
  have HQ := hide hl
  have HB2 := hide (bel2 w (.cells #[.slice A n c, .int .i64 q.m, .int .i64 q.g] 28) (.cells #[.slice none 0 0, .int .i64 0, .int .i64 0] 28))
  have HX := hide ((BlkIs.new w 28 #[.slice A n c, .int .i64 q.m, .int .i64 q.g]).alloc (.cells #[.slice none 0 0, .int .i64 0, .int .i64 0] 28))
  have HG := hide (new2 w (.cells #[.slice A n c, .int .i64 q.m, .int .i64 q.g] 28) 28 #[.slice none 0 0, .int .i64 0, .int .i64 0])
  have HLE := hide (oq_Len q A n c _ (hl.keep HB2.out))
  have HCK := hide (fun w' (h : Below w.heap.size w w') => oq_Check q A n c w' (hl.keep h))
  have HCL := hide (fun w' (h : Below w.heap.size w w') => oq_Clone A n c q.ps w' (hl.tx.keep h) (by have := hl.few; omega))
  have HSM := hide hl.sum
  have hz := run_zero_is pq_zero
  have h0 : (0 : Int) ≤ (lenL q.ps : Int) := by omega
  have h00 : (lenL q.ps : Int) ≤ 100000000 := by have := hl.sum; omega
  unfold GivesQB
  generalize lenL q.ps = L at *
  generalize chkQ q = ck at *
  have hne : (ck == 0) = false := beq_eq_false_iff_ne.2 hck
  have hne2 : (ck != 0) = true := by simpa using hck
  generalize q.m = m at *
  generalize q.g = g at *
  clear hl hck HCL
  go_enter Try.func11, Try.ntmps11
  go_wp2_with fail
  refine HLE.out.mono ?_
  rintro e w2 ⟨rfl, hb2⟩
  have HG2 := hide (HG.out.keep hb2)
  have HX2 := hide (HX.out.keep hb2)
  have HB3 := hide (HB2.out.trans (hb2.mono HB2.out.size))
  obtain ⟨k0, k1, k2⟩ := qcells HX2.out
  clear hb2 HLE HG HX HB2
  have HCK2 := hide (HCK.out w2 HB3.out)
  go_wp2_with fail
  all_goals first | (exfalso; omega) | skip
  refine HCK2.out.mono ?_
  rintro e w3 ⟨rfl, hb3⟩
  have HG3 := hide (HG2.out.keep hb3)
  have HX3 := hide (HX2.out.keep hb3)
  have HB4 := hide (HB3.out.trans (hb3.mono HB3.out.size))
  clear k0 k1 k2
  obtain ⟨k0, k1, k2⟩ := qcells HX3.out
  clear hb3 HCK2 HG2 HX2 HB3 HCK
  go_wp2_with (refine wpList_q_blk 28 pq_size rfl (.tmp 4) (.tmp 19) (w.heap.size + 1) A n c m g _ _ _ rfl HG3.out rfl rfl ?_; intro w9 hk9 kb9; have HK9 := hide hk9; have HB9 := hide (below_kbq HB4.out kb9 (Nat.le_refl _) (by omega)); clear hk9 kb9)
  exact bodyPost_ret (results_pq rfl _ _ (w.heap.size + 1) _ _ _ rfl HK9.out (.slice none 0 0) rfl) rfl ⟨⟨A, n, c, none, 0, 0, rfl, HQ.out.tx.keep HB9.out, RB.nothing _ _⟩, HB9.out⟩

set_option maxRecDepth 100000 in
set_option maxHeartbeats 1600000 in
theorem oq_drain_bad_b (q : Qu) (A : Option Addr) (n c : Nat) (w : World) (hl : QL w q A n c) (x : Int) (hx : (lenL q.ps : Int) < x) (h1 : 1 ≤ (lenL q.ps : Int)) (hck : ¬ chkQ q = 0) :
    Calls Try.prog 11 #[.agg #[.slice A n c, .int .i64 q.m, .int .i64 q.g], .int .i64 x] w (GivesQB q [] w) := by
  have HQ := hide hl
  have HB2 := hide (bel2 w (.cells #[.slice A n c, .int .i64 q.m, .int .i64 q.g] 28) (.cells #[.slice none 0 0, .int .i64 0, .int .i64 0] 28))
  have HX := hide ((BlkIs.new w 28 #[.slice A n c, .int .i64 q.m, .int .i64 q.g]).alloc (.cells #[.slice none 0 0, .int .i64 0, .int .i64 0] 28))
  have HG := hide (new2 w (.cells #[.slice A n c, .int .i64 q.m, .int .i64 q.g] 28) 28 #[.slice none 0 0, .int .i64 0, .int .i64 0])
  have HLE := hide (oq_Len q A n c _ (hl.keep HB2.out))
  have HCK := hide (fun w' (h : Below w.heap.size w w') => oq_Check q A n c w' (hl.keep h))
  have HCL := hide (fun w' (h : Below w.heap.size w w') => oq_Clone A n c q.ps w' (hl.tx.keep h) (by have := hl.few; omega))
  have HSM := hide hl.sum
  have hz := run_zero_is pq_zero
  have h0 : (0 : Int) ≤ (lenL q.ps : Int) := by omega
  have h00 : (lenL q.ps : Int) ≤ 100000000 := by have := hl.sum; omega
  unfold GivesQB
  generalize lenL q.ps = L at *
  generalize chkQ q = ck at *
  have hne : (ck == 0) = false := beq_eq_false_iff_ne.2 hck
  have hne2 : (ck != 0) = true := by simpa using hck
  generalize q.m = m at *
  generalize q.g = g at *
  clear hl hck HCL
  go_enter Try.func11, Try.ntmps11
  go_wp2_with fail
  refine HLE.out.mono ?_
  rintro e w2 ⟨rfl, hb2⟩
  have HG2 := hide (HG.out.keep hb2)
  have HX2 := hide (HX.out.keep hb2)
  have HB3 := hide (HB2.out.trans (hb2.mono HB2.out.size))
  obtain ⟨k0, k1, k2⟩ := qcells HX2.out
  clear hb2 HLE HG HX HB2
  have HCK2 := hide (HCK.out w2 HB3.out)
  go_wp2_with fail
  all_goals first | (exfalso; omega) | skip
  refine HCK2.out.mono ?_
  rintro e w3 ⟨rfl, hb3⟩
  have HG3 := hide (HG2.out.keep hb3)
  have HX3 := hide (HX2.out.keep hb3)
  have HB4 := hide (HB3.out.trans (hb3.mono HB3.out.size))
  clear k0 k1 k2
  obtain ⟨k0, k1, k2⟩ := qcells HX3.out
  clear hb3 HCK2 HG2 HX2 HB3 HCK
  go_wp2_with (refine wpList_q_blk 28 pq_size rfl (.tmp 4) (.tmp 19) (w.heap.size + 1) A n c m g _ _ _ rfl HG3.out rfl rfl ?_; intro w9 hk9 kb9; have HK9 := hide hk9; have HB9 := hide (below_kbq HB4.out kb9 (Nat.le_refl _) (by omega)); clear hk9 kb9)
  exact bodyPost_ret (results_pq rfl _ _ (w.heap.size + 1) _ _ _ rfl HK9.out (.slice none 0 0) rfl) rfl ⟨⟨A, n, c, none, 0, 0, rfl, HQ.out.tx.keep HB9.out, RB.nothing _ _⟩, HB9.out⟩

set_option maxRecDepth 100000 in
set_option maxHeartbeats 1600000 in
theorem oq_drain_go_a (q : Qu) (A : Option Addr) (n c : Nat) (w : World) (hl : QL w q A n c) (N : Nat) (hx : (N : Int) ≤ (lenL q.ps : Int)) (h1 : (1 : Int) ≤ (N : Int)) (hck : chkQ q = 0) :
    Calls Try.prog 11 #[.agg #[.slice A n c, .int .i64 q.m, .int .i64 q.g], .int .i64 (N : Int)] w (GivesQB ⟨dropP N q.ps, q.m, q.g + (N : Int)⟩ ((flat q.ps).take N) w) := by
  have HQ := hide hl
  have HB2 := hide (bel2 w (.cells #[.slice A n c, .int .i64 q.m, .int .i64 q.g] 28) (.cells #[.slice none 0 0, .int .i64 0, .int .i64 0] 28))
  have HX := hide ((BlkIs.new w 28 #[.slice A n c, .int .i64 q.m, .int .i64 q.g]).alloc (.cells #[.slice none 0 0, .int .i64 0, .int .i64 0] 28))
  have HG := hide (new2 w (.cells #[.slice A n c, .int .i64 q.m, .int .i64 q.g] 28) 28 #[.slice none 0 0, .int .i64 0, .int .i64 0])
  have HLE := hide (oq_Len q A n c _ (hl.keep HB2.out))
  have HCK := hide (fun w' (h : Below w.heap.size w w') => oq_Check q A n c w' (hl.keep h))
  have HCL := hide (fun w' (h : Below w.heap.size w w') => oq_Clone A n c q.ps w' (hl.tx.keep h) (by have := hl.few; omega))
  have HSM := hide hl.sum
  have hz := run_zero_is pq_zero
  have h0 : (0 : Int) ≤ (lenL q.ps : Int) := by omega
  have h00 : (lenL q.ps : Int) ≤ 100000000 := by have := hl.sum; omega
  have hok := (chk_ok q).1 hck
  have hm0 := hok.g0
  have hm1 := hok.g1
  have HLL := hide hl.tx.len
  have HFW := hide hl.few
  have h65 : (N : Int) ≤ 65536 := by have := hok.len; omega
  have HTK := hide (fun (g' c' B : Nat) (w' : World) ho => oq_take g' q.ps.length c' B N q.ps w' ho (by have := HFW.out; have := HLL.out; omega) (by omega) (by omega) hok.len hok.no)
  have HLP := hide (show 0 < q.ps.length by
    rcases Nat.eq_zero_or_pos q.ps.length with h | h
    · exfalso
      have h2 := List.eq_nil_of_length_eq_zero h
      have h3 : lenL q.ps = 0 := by rw [h2]; rfl
      omega
    · exact h)
  have HFB := hide (show ∀ z ∈ (flat q.ps).take N, 0 ≤ z ∧ z ≤ 255 from fun z hz => flat_all q.ps z (List.mem_of_mem_take hz))
  unfold GivesQB
  rw [hck] at HCK
  generalize lenL q.ps = L at *
  generalize q.m = m at *
  generalize q.g = g at *
  generalize q.ps = l at *
  clear hl hck hok
  go_enter Try.func11, Try.ntmps11
  go_wp2_with fail
  refine HLE.out.mono ?_
  rintro e w2 ⟨rfl, hb2⟩
  have HG2 := hide (HG.out.keep hb2)
  have HX2 := hide (HX.out.keep hb2)
  have HB3 := hide (HB2.out.trans (hb2.mono HB2.out.size))
  obtain ⟨k0, k1, k2⟩ := qcells HX2.out
  clear hb2 HLE HG HX HB2
  have HCK2 := hide (HCK.out w2 HB3.out)
  go_wp2_with fail
  all_goals first | (exfalso; omega) | skip
  refine HCK2.out.mono ?_
  rintro e w3 ⟨rfl, hb3⟩
  have HG3 := hide (HG2.out.keep hb3)
  have HX3 := hide (HX2.out.keep hb3)
  have HB4 := hide (HB3.out.trans (hb3.mono HB3.out.size))
  clear k0 k1 k2
  obtain ⟨k0, k1, k2⟩ := qcells HX3.out
  clear hb3 HCK2 HG2 HX2 HB3 HCK
  have HCL2 := hide (HCL.out w3 HB4.out)
  go_wp2_with fail
  refine HCL2.out.mono ?_
  rintro e w5 ⟨A1, c1, rfl, ho5, hb5⟩
  have HG5 := hide (HG3.out.keep hb5)
  have HX5 := hide (HX3.out.keep hb5)
  have HB5 := hide (HB4.out.trans (hb5.mono HB4.out.size))
  have HO5 := hide (own_base (B' := w.heap.size + 1 + 1) ho5 HG3.out.lt)
  have HBG := hide (show w.heap.size + 1 + 1 ≤ w5.heap.size from HG5.out.lt)
  clear k0 k1 k2
  clear hb5 ho5 HCL HCL2 HG3 HX3 HB4
  obtain ⟨ga, ca, hA, -, -⟩ := own_at HO5.out HLP.out
  obtain ⟨rfl, rfl⟩ : A1 = some ⟨ga, 0, none⟩ ∧ c1 = ca := by injection hA with a b c; exact ⟨a, c⟩
  clear hA
  have HTK2 := hide (HTK.out ga c1 _ w5 HO5.out)
  go_wp2_with fail
  refine HTK2.out.mono ?_
  rintro e w6 ⟨⟨A2, n2, c2, C2, d2, rfl, ho6, hr6⟩, hb6⟩
  have HG6 := hide (HG5.out.below hb6 (by omega))
  have HX6 := hide (HX5.out.below hb6 (by omega))
  have HB6 := hide (HB5.out.trans (hb6.mono (by omega)))
  have HO6 := hide ho6
  have HR6 := hide hr6
  obtain ⟨k0, k1, k2⟩ := qcells HX6.out
  clear hb6 ho6 hr6 HTK HTK2 HG5 HX5 HB5 HO5
  have hbt := pq_built
  go_wp2_with (refine wpList_q_blk 28 pq_size rfl (.tmp 4) (.tmp 35) (w.heap.size + 1) A2 n2 c2 m (g + (N : Int)) _ _ _ rfl HG6.out rfl rfl ?_; intro w9 hk9 kb9; have HK9 := hide hk9; have HB9 := hide (below_kbq HB6.out kb9 (Nat.le_refl _) (by omega)); have HO9 := hide (own_q HO6.out HG6.out (by decide) kb9); have HR9 := hide (own_qb HR6.out HG6.out (by decide) kb9); clear hk9 kb9)
  exact bodyPost_ret (results_pq rfl _ _ (w.heap.size + 1) _ _ _ rfl HK9.out (.slice C2 N d2) rfl) rfl ⟨⟨A2, n2, c2, C2, N, d2, rfl, TX.of_own HO9.out, (rb_of_own HR9.out HFB.out).1⟩, HB9.out⟩

set_option maxRecDepth 100000 in
set_option maxHeartbeats 1600000 in
theorem oq_drain_go_b (q : Qu) (A : Option Addr) (n c : Nat) (w : World) (hl : QL w q A n c) (x : Int) (N : Nat) (hN : lenL q.ps = N) (hx : (N : Int) < x) (h1 : (1 : Int) ≤ (N : Int)) (hck : chkQ q = 0) :
    Calls Try.prog 11 #[.agg #[.slice A n c, .int .i64 q.m, .int .i64 q.g], .int .i64 x] w (GivesQB ⟨dropP N q.ps, q.m, q.g + (N : Int)⟩ ((flat q.ps).take N) w) := by
  have HQ := hide hl
  have HB2 := hide (bel2 w (.cells #[.slice A n c, .int .i64 q.m, .int .i64 q.g] 28) (.cells #[.slice none 0 0, .int .i64 0, .int .i64 0] 28))
  have HX := hide ((BlkIs.new w 28 #[.slice A n c, .int .i64 q.m, .int .i64 q.g]).alloc (.cells #[.slice none 0 0, .int .i64 0, .int .i64 0] 28))
  have HG := hide (new2 w (.cells #[.slice A n c, .int .i64 q.m, .int .i64 q.g] 28) 28 #[.slice none 0 0, .int .i64 0, .int .i64 0])
  have HLE := hide (oq_Len q A n c _ (hl.keep HB2.out))
  have HCK := hide (fun w' (h : Below w.heap.size w w') => oq_Check q A n c w' (hl.keep h))
  have HCL := hide (fun w' (h : Below w.heap.size w w') => oq_Clone A n c q.ps w' (hl.tx.keep h) (by have := hl.few; omega))
  have HSM := hide hl.sum
  have hz := run_zero_is pq_zero
  have h0 : (0 : Int) ≤ (lenL q.ps : Int) := by omega
  have h00 : (lenL q.ps : Int) ≤ 100000000 := by have := hl.sum; omega
  have hok := (chk_ok q).1 hck
  have hm0 := hok.g0
  have hm1 := hok.g1
  have HLL := hide hl.tx.len
  have HFW := hide hl.few
  have h65 : (N : Int) ≤ 65536 := by have := hok.len; omega
  have HTK := hide (fun (g' c' B : Nat) (w' : World) ho => oq_take g' q.ps.length c' B N q.ps w' ho (by have := HFW.out; have := HLL.out; omega) (by omega) (by omega) hok.len hok.no)
  have HLP := hide (show 0 < q.ps.length by
    rcases Nat.eq_zero_or_pos q.ps.length with h | h
    · exfalso
      have h2 := List.eq_nil_of_length_eq_zero h
      have h3 : lenL q.ps = 0 := by rw [h2]; rfl
      omega
    · exact h)
  have HFB := hide (show ∀ z ∈ (flat q.ps).take N, 0 ≤ z ∧ z ≤ 255 from fun z hz => flat_all q.ps z (List.mem_of_mem_take hz))
  unfold GivesQB
  rw [hck] at HCK
  rw [hN] at HLE HSM h0 h00
  generalize lenL q.ps = L at *
  generalize q.m = m at *
  generalize q.g = g at *
  generalize q.ps = l at *
  clear hl hck hok
  go_enter Try.func11, Try.ntmps11
  go_wp2_with fail
  refine HLE.out.mono ?_
  rintro e w2 ⟨rfl, hb2⟩
  have HG2 := hide (HG.out.keep hb2)
  have HX2 := hide (HX.out.keep hb2)
  have HB3 := hide (HB2.out.trans (hb2.mono HB2.out.size))
  obtain ⟨k0, k1, k2⟩ := qcells HX2.out
  clear hb2 HLE HG HX HB2
  have HCK2 := hide (HCK.out w2 HB3.out)
  go_wp2_with fail
  all_goals first | (exfalso; omega) | skip
  refine HCK2.out.mono ?_
  rintro e w3 ⟨rfl, hb3⟩
  have HG3 := hide (HG2.out.keep hb3)
  have HX3 := hide (HX2.out.keep hb3)
  have HB4 := hide (HB3.out.trans (hb3.mono HB3.out.size))
  clear k0 k1 k2
  obtain ⟨k0, k1, k2⟩ := qcells HX3.out
  clear hb3 HCK2 HG2 HX2 HB3 HCK
  have HCL2 := hide (HCL.out w3 HB4.out)
  go_wp2_with fail
  refine HCL2.out.mono ?_
  rintro e w5 ⟨A1, c1, rfl, ho5, hb5⟩
  have HG5 := hide (HG3.out.keep hb5)
  have HX5 := hide (HX3.out.keep hb5)
  have HB5 := hide (HB4.out.trans (hb5.mono HB4.out.size))
  have HO5 := hide (own_base (B' := w.heap.size + 1 + 1) ho5 HG3.out.lt)
  have HBG := hide (show w.heap.size + 1 + 1 ≤ w5.heap.size from HG5.out.lt)
  clear k0 k1 k2
  clear hb5 ho5 HCL HCL2 HG3 HX3 HB4
  obtain ⟨ga, ca, hA, -, -⟩ := own_at HO5.out HLP.out
  obtain ⟨rfl, rfl⟩ : A1 = some ⟨ga, 0, none⟩ ∧ c1 = ca := by injection hA with a b c; exact ⟨a, c⟩
  clear hA
  have HTK2 := hide (HTK.out ga c1 _ w5 HO5.out)
  go_wp2_with fail
  refine HTK2.out.mono ?_
  rintro e w6 ⟨⟨A2, n2, c2, C2, d2, rfl, ho6, hr6⟩, hb6⟩
  have HG6 := hide (HG5.out.below hb6 (by omega))
  have HX6 := hide (HX5.out.below hb6 (by omega))
  have HB6 := hide (HB5.out.trans (hb6.mono (by omega)))
  have HO6 := hide ho6
  have HR6 := hide hr6
  obtain ⟨k0, k1, k2⟩ := qcells HX6.out
  clear hb6 ho6 hr6 HTK HTK2 HG5 HX5 HB5 HO5
  have hbt := pq_built
  go_wp2_with (refine wpList_q_blk 28 pq_size rfl (.tmp 4) (.tmp 35) (w.heap.size + 1) A2 n2 c2 m (g + (N : Int)) _ _ _ rfl HG6.out rfl rfl ?_; intro w9 hk9 kb9; have HK9 := hide hk9; have HB9 := hide (below_kbq HB6.out kb9 (Nat.le_refl _) (by omega)); have HO9 := hide (own_q HO6.out HG6.out (by decide) kb9); have HR9 := hide (own_qb HR6.out HG6.out (by decide) kb9); clear hk9 kb9)
  exact bodyPost_ret (results_pq rfl _ _ (w.heap.size + 1) _ _ _ rfl HK9.out (.slice C2 N d2) rfl) rfl ⟨⟨A2, n2, c2, C2, N, d2, rfl, TX.of_own HO9.out, (rb_of_own HR9.out HFB.out).1⟩, HB9.out⟩

set_option maxRecDepth 100000 in
set_option maxHeartbeats 1600000 in
theorem oq_Drain (q : Qu) (A : Option Addr) (n c : Nat) (x : Int) (w : World) (hl : QL w q A n c) :
    Calls Try.prog 11 #[.agg #[.slice A n c, .int .i64 q.m, .int .i64 q.g], .int .i64 x] w (GivesQB (drainQ q x) (drainB q x) w) := by
  by_cases hlow : x < 1 ∨ lenL q.ps = 0
  · have hg : goesN q x = 0 := by unfold goesN; split <;> omega
    rw [show drainQ q x = q by unfold drainQ; rw [if_pos hg], show drainB q x = [] by unfold drainB; rw [hg]; rfl]
    rcases Int.lt_or_le (lenL q.ps : Int) x with h | h
    · exact oq_drain_low_b q A n c w hl x h (by omega)
    · exact oq_drain_low_a q A n c w hl x h (by omega)
  · by_cases hck : chkQ q = 0
    · have hg : goesN q x = min x.toNat (lenL q.ps) := by unfold goesN; rw [if_pos hck]
      rw [show drainQ q x = ⟨dropP (goesN q x) q.ps, q.m, q.g + goesN q x⟩ by unfold drainQ; rw [if_neg (by omega)], show drainB q x = (flat q.ps).take (goesN q x) from rfl]
      rcases Int.lt_or_le (lenL q.ps : Int) x with h | h
      · rw [show goesN q x = lenL q.ps by omega]
        exact oq_drain_go_b q A n c w hl x (lenL q.ps) rfl h (by omega) hck
      · obtain ⟨N, rfl⟩ : ∃ N : Nat, x = (N : Int) := ⟨x.toNat, by omega⟩
        rw [show goesN q (N : Int) = N by omega]
        exact oq_drain_go_a q A n c w hl N h (by omega) hck
    · have hg : goesN q x = 0 := by unfold goesN; rw [if_neg hck]
      rw [show drainQ q x = q by unfold drainQ; rw [if_pos hg], show drainB q x = [] by unfold drainB; rw [hg]; rfl]
      rcases Int.lt_or_le (lenL q.ps : Int) x with h | h
      · exact oq_drain_bad_b q A n c w hl x h (by omega) hck
      · exact oq_drain_bad_a q A n c w hl x h (by omega) hck
end Go.Proofs.Ytfcokhdkjoimmaa
