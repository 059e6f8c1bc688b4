/-
  Layer 15: Begin (written by gen15begin.py).
-/
import Derived.Test.YtjjgnhdaaicmeaaIdNew
import Derived.Test.YtjjgnhdaaicmeaaRegW
import Derived.BigRegion
import Derived.Deep.CutRange
import Derived.Deep.DeepCutAuto
namespace Go.Proofs.Ytjjgnhdaaicmeaa
set_option linter.unusedSimpArgs false
set_option linter.unusedVariables false
open Go.RowKit

set_option maxRecDepth 100000 in
set_option maxHeartbeats 3200000 in
theorem id_beg_2 (T : Tb) (A : Option Addr) (n c : Nat) (B : Option Addr) (m d : Nat) (id : Int) (w : World) (hl : TL w T A n c B m d) (hn : (n : Int) ≤ 1000) (hm : (m : Int) ≤ 1000) (hck : ¬ chkI T = 0) :
    Calls Try.prog 14 #[.agg #[.int .i64 T.l, .slice A n c, .slice B m d], .int .i64 id] w (GivesTC T A B (T, 2) w) := by
  have HL := hide hl
  have HB2 := hide (bel2 w (.cells #[.int .i64 T.l, .slice A n c, .slice B m d] 28) (.cells #[.int .i64 0, .slice none 0 0, .slice none 0 0] 28))
  have HX := hide ((BlkIs.new w 28 #[.int .i64 T.l, .slice A n c, .slice B m d]).alloc (.cells #[.int .i64 0, .slice none 0 0, .slice none 0 0] 28))
  have HG := hide (new2 w (.cells #[.int .i64 T.l, .slice A n c, .slice B m d] 28) 28 #[.int .i64 0, .slice none 0 0, .slice none 0 0])
  have HC := hide (id_Check T A n c B m d _ (hl.keep HB2.out) (by omega) (by omega))
  have HCL := hide (fun w' (h : TL w' T A n c B m d) => id_Class T A n c B m d id w' h (by omega) (by omega))
  have hz := run_zero_is tb_zero
  generalize chkI T = ck at *
  have hne : (ck == 0) = false := beq_eq_false_iff_ne.2 hck
  clear hl hn hm hck HCL
  go_enter Try.func14, Try.ntmps14
  go_wp2_with fail
  refine HC.out.mono ?_
  rintro e w2 ⟨rfl, hb2⟩
  have HG2 := hide (HG.out.keep hb2)
  have HX2 := hide (HX.out.keep hb2)
  have HB3 := hide (HB2.out.trans (hb2.mono HB2.out.size))
  obtain ⟨k0, k1, k2⟩ := cells3 HX2.out
  clear hb2 HC HG HX HB2
  go_wp2_with (refine wpList_tb_blk rfl (.tmp 4) (.tmp 10) (w.heap.size + 1) T.l A B n c m d _ _ _ rfl HG2.out rfl rfl ?_; intro w9 hk9 kb9; have HK9 := hide hk9; have HB9 := hide (below_kb HB3.out kb9 (Nat.le_refl _) (by omega)); clear hk9 kb9)
  exact bodyPost_ret (results_tbc rfl _ _ (w.heap.size + 1) _ _ _ rfl HK9.out (.int .u32 2) rfl) rfl ⟨A, n, c, B, m, d, rfl, HL.out.keep HB9.out, HB9.out, fun g _ h => h⟩
set_option maxRecDepth 100000 in
set_option maxHeartbeats 3200000 in
theorem id_beg_1 (T : Tb) (A : Option Addr) (n c : Nat) (B : Option Addr) (m d : Nat) (id : Int) (w : World) (hl : TL w T A n c B m d) (hn : (n : Int) ≤ 1000) (hm : (m : Int) ≤ 1000) (hck : chkI T = 0) (cl : Int) (hcl : clsI T id = cl) (hc1 : ¬ cl = 1) :
    Calls Try.prog 14 #[.agg #[.int .i64 T.l, .slice A n c, .slice B m d], .int .i64 id] w (GivesTC T A B (T, 1) w) := by
  have HL := hide hl
  have HB2 := hide (bel2 w (.cells #[.int .i64 T.l, .slice A n c, .slice B m d] 28) (.cells #[.int .i64 0, .slice none 0 0, .slice none 0 0] 28))
  have HX := hide ((BlkIs.new w 28 #[.int .i64 T.l, .slice A n c, .slice B m d]).alloc (.cells #[.int .i64 0, .slice none 0 0, .slice none 0 0] 28))
  have HG := hide (new2 w (.cells #[.int .i64 T.l, .slice A n c, .slice B m d] 28) 28 #[.int .i64 0, .slice none 0 0, .slice none 0 0])
  have HC := hide (id_Check T A n c B m d _ (hl.keep HB2.out) (by omega) (by omega))
  have HCL := hide (fun w' (h : TL w' T A n c B m d) => id_Class T A n c B m d id w' h (by omega) (by omega))
  have hz := run_zero_is tb_zero
  rw [hck] at HC
  have hne : (cl == 1) = false := beq_eq_false_iff_ne.2 hc1
  clear hl hn hm hck hc1
  go_enter Try.func14, Try.ntmps14
  go_wp2_with fail
  refine HC.out.mono ?_
  rintro e w2 ⟨rfl, hb2⟩
  have HG2 := hide (HG.out.keep hb2)
  have HX2 := hide (HX.out.keep hb2)
  have HB3 := hide (HB2.out.trans (hb2.mono HB2.out.size))
  obtain ⟨k0, k1, k2⟩ := cells3 HX2.out
  clear hb2 HC HG HX HB2
  have HCD := hide (HCL.out w2 (HL.out.keep HB3.out))
  clear HCL
  rw [hcl] at HCD
  go_wp2_with fail
  refine HCD.out.mono ?_
  rintro e w3 ⟨rfl, hb3⟩
  have HG3 := hide (HG2.out.keep hb3)
  have HX3 := hide (HX2.out.keep hb3)
  have HB4 := hide (HB3.out.trans (hb3.mono HB3.out.size))
  clear k0 k1 k2
  obtain ⟨k0, k1, k2⟩ := cells3 HX3.out
  clear hb3 HCD HG2 HX2 HB3
  go_wp2_with (refine wpList_tb_blk rfl (.tmp 4) (.tmp 16) (w.heap.size + 1) T.l A B n c m d _ _ _ rfl HG3.out rfl rfl ?_; intro w9 hk9 kb9; have HK9 := hide hk9; have HB9 := hide (below_kb HB4.out kb9 (Nat.le_refl _) (by omega)); clear hk9 kb9)
  exact bodyPost_ret (results_tbc rfl _ _ (w.heap.size + 1) _ _ _ rfl HK9.out (.int .u32 1) rfl) rfl ⟨A, n, c, B, m, d, rfl, HL.out.keep HB9.out, HB9.out, fun g _ h => h⟩
set_option maxRecDepth 100000 in
set_option maxHeartbeats 3200000 in
theorem id_beg_11 (T : Tb) (A : Option Addr) (n c : Nat) (B : Option Addr) (m d : Nat) (id : Int) (w : World) (hl : TL w T A n c B m d) (hn : (n : Int) ≤ 1000) (hm : (m : Int) ≤ 1000) (hck : chkI T = 0) (hcl : clsI T id = 1) (h16 : n = 16) :
    Calls Try.prog 14 #[.agg #[.int .i64 T.l, .slice A n c, .slice B m d], .int .i64 id] w (GivesTC T A B (T, 11) w) := by
  have HL := hide hl
  have HB2 := hide (bel2 w (.cells #[.int .i64 T.l, .slice A n c, .slice B m d] 28) (.cells #[.int .i64 0, .slice none 0 0, .slice none 0 0] 28))
  have HX := hide ((BlkIs.new w 28 #[.int .i64 T.l, .slice A n c, .slice B m d]).alloc (.cells #[.int .i64 0, .slice none 0 0, .slice none 0 0] 28))
  have HG := hide (new2 w (.cells #[.int .i64 T.l, .slice A n c, .slice B m d] 28) 28 #[.int .i64 0, .slice none 0 0, .slice none 0 0])
  have HC := hide (id_Check T A n c B m d _ (hl.keep HB2.out) (by omega) (by omega))
  have HCL := hide (fun w' (h : TL w' T A n c B m d) => id_Class T A n c B m d id w' h (by omega) (by omega))
  have hz := run_zero_is tb_zero
  rw [hck] at HC
  subst h16
  clear hl hn hm hck
  go_enter Try.func14, Try.ntmps14
  go_wp2_with fail
  refine HC.out.mono ?_
  rintro e w2 ⟨rfl, hb2⟩
  have HG2 := hide (HG.out.keep hb2)
  have HX2 := hide (HX.out.keep hb2)
  have HB3 := hide (HB2.out.trans (hb2.mono HB2.out.size))
  obtain ⟨k0, k1, k2⟩ := cells3 HX2.out
  clear hb2 HC HG HX HB2
  have HCD := hide (HCL.out w2 (HL.out.keep HB3.out))
  clear HCL
  rw [hcl] at HCD
  go_wp2_with fail
  refine HCD.out.mono ?_
  rintro e w3 ⟨rfl, hb3⟩
  have HG3 := hide (HG2.out.keep hb3)
  have HX3 := hide (HX2.out.keep hb3)
  have HB4 := hide (HB3.out.trans (hb3.mono HB3.out.size))
  clear k0 k1 k2
  obtain ⟨k0, k1, k2⟩ := cells3 HX3.out
  clear hb3 HCD HG2 HX2 HB3
  go_wp2_with (refine wpList_tb_blk rfl (.tmp 4) (.tmp 22) (w.heap.size + 1) T.l A B 16 c m d _ _ _ rfl HG3.out rfl rfl ?_; intro w9 hk9 kb9; have HK9 := hide hk9; have HB9 := hide (below_kb HB4.out kb9 (Nat.le_refl _) (by omega)); clear hk9 kb9)
  exact bodyPost_ret (results_tbc rfl _ _ (w.heap.size + 1) _ _ _ rfl HK9.out (.int .u32 11) rfl) rfl ⟨A, 16, c, B, m, d, rfl, HL.out.keep HB9.out, HB9.out, fun g _ h => h⟩
end Go.Proofs.Ytjjgnhdaaicmeaa
