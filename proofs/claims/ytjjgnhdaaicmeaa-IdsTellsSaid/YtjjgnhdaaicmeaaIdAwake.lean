/-
  Layer 15: awake (written by gen15aw.py).
-/
import Derived.Test.YtjjgnhdaaicmeaaIdSteps
import Derived.Test.YtjjgnhdaaicmeaaIdSame
import Derived.BigGuardPart
namespace Go.Proofs.Ytjjgnhdaaicmeaa
set_option linter.unusedSimpArgs false
set_option linter.unusedVariables false
open Go.RowKit

/-- A table and a code, the lists' lengths as numbers. -/
def KTC (T : Tb) (l cd : Int) (a b : Nat) (w : World) (e : Ending) (w' : World) : Prop := ∃ A c B d, e = .returned (.tuple #[.agg #[.int .i64 l, .slice A a c, .slice B b d], .int .u32 cd]) ∧ TL w' T A a c B b d ∧ Below w.heap.size w w'
def KT (T : Tb) (l : Int) (a b : Nat) (w : World) (e : Ending) (w' : World) : Prop := ∃ A c B d, e = .returned (.agg #[.int .i64 l, .slice A a c, .slice B b d]) ∧ TL w' T A a c B b d ∧ Below w.heap.size w w'
theorem ktc {r : Tb × Int} {T : Tb} {l cd : Int} {a b : Nat} {fn : FuncId} {args : Array Value} {w : World} {T0 : Tb} {A0 B0 : Option Addr} (h : Calls Try.prog fn args w (GivesTC T0 A0 B0 r w)) (hr : r = (T, cd)) (hl : T.l = l) (ha : T.op.length = a) (hb : T.cu.length = b) : Calls Try.prog fn args w (KTC T l cd a b w) := h.mono fun e w' hh => by
  subst hr hl ha hb
  obtain ⟨A, n, c, B, m, d, rfl, ht, hb, -⟩ := hh
  have h1 := ht.op.len
  have h2 := ht.cu.len
  simp only at h1 h2 ht
  subst h1 h2
  exact ⟨A, c, B, d, rfl, ht, hb⟩
theorem kt {r T : Tb} {l : Int} {a b : Nat} {fn : FuncId} {args : Array Value} {w : World} {T0 : Tb} {A0 B0 : Option Addr} (h : Calls Try.prog fn args w (GivesT T0 A0 B0 r w)) (hr : r = T) (hl : T.l = l) (ha : T.op.length = a) (hb : T.cu.length = b) : Calls Try.prog fn args w (KT T l a b w) := h.mono fun e w' hh => by
  subst hr hl ha hb
  obtain ⟨A, n, c, B, m, d, rfl, ht, hb, -⟩ := hh
  have h1 := ht.op.len
  have h2 := ht.cu.len
  subst h1 h2
  exact ⟨A, c, B, d, rfl, ht, hb⟩
theorem tl_none (w : World) : TL w ⟨0, [], []⟩ none 0 0 none 0 0 := ⟨⟨rfl, Nat.le_refl _, Nat.zero_le _, fun i x h => by simp at h⟩, ⟨rfl, Nat.le_refl _, Nat.zero_le _, fun i x h => by simp at h⟩⟩
def tA : Tb := ⟨3, [3], []⟩
def tU : Tb := ⟨7, [3, 7], []⟩
def tW : Tb := ⟨7, [7], [3]⟩
def tV : Tb := ⟨7, [], [3]⟩
theorem aw_e1 : begI ⟨0, [], []⟩ 3 = (tA, 0) := by rfl
theorem aw_e2 : begI tA 7 = (tU, 0) := by rfl
theorem aw_e3 : begI tU 5 = (tU, 1) := by rfl
theorem aw_e4 : begI tU 8 = (tU, 1) := by rfl
theorem aw_e5 : endI tU 3 true = tW := by rfl
theorem aw_e6 : endI tW 7 false = tV := by rfl
theorem wf_small {n : Int} (h : 0 ≤ n) (h2 : n ≤ 255) : (Lit.int .i64 n).wf = true := WalkArith.wf_i64 (by omega)
theorem aw_b1 (w : World) : Calls Try.prog 14 #[.agg #[.int .i64 0, .slice none 0 0, .slice none 0 0], .int .i64 3] w (KTC tA 3 0 1 0 w) := ktc (id_Begin ⟨0, [], []⟩ none 0 0 none 0 0 3 w (tl_none w) (by decide) (by decide) (wf_small (by decide) (by decide))) aw_e1 rfl rfl rfl
theorem aw_b2 (w : World) (A0 : Option Addr) (c0 : Nat) (B0 : Option Addr) (d0 : Nat) (h : TL w tA A0 1 c0 B0 0 d0) : Calls Try.prog 14 #[.agg #[.int .i64 3, .slice A0 1 c0, .slice B0 0 d0], .int .i64 7] w (KTC tU 7 0 2 0 w) := ktc (id_Begin tA A0 1 c0 B0 0 d0 7 w h (by decide) (by decide) (wf_small (by decide) (by decide))) aw_e2 rfl rfl rfl
theorem aw_b3 (w : World) (A0 : Option Addr) (c0 : Nat) (B0 : Option Addr) (d0 : Nat) (h : TL w tU A0 2 c0 B0 0 d0) : Calls Try.prog 14 #[.agg #[.int .i64 7, .slice A0 2 c0, .slice B0 0 d0], .int .i64 5] w (KTC tU 7 1 2 0 w) := ktc (id_Begin tU A0 2 c0 B0 0 d0 5 w h (by decide) (by decide) (wf_small (by decide) (by decide))) aw_e3 rfl rfl rfl
theorem aw_b4 (w : World) (A0 : Option Addr) (c0 : Nat) (B0 : Option Addr) (d0 : Nat) (h : TL w tU A0 2 c0 B0 0 d0) : Calls Try.prog 14 #[.agg #[.int .i64 7, .slice A0 2 c0, .slice B0 0 d0], .int .i64 8] w (KTC tU 7 1 2 0 w) := ktc (id_Begin tU A0 2 c0 B0 0 d0 8 w h (by decide) (by decide) (wf_small (by decide) (by decide))) aw_e4 rfl rfl rfl
theorem aw_d1 (w : World) (A0 : Option Addr) (c0 : Nat) (B0 : Option Addr) (d0 : Nat) (h : TL w tU A0 2 c0 B0 0 d0) : Calls Try.prog 13 #[.agg #[.int .i64 7, .slice A0 2 c0, .slice B0 0 d0], .int .i64 3, .bool true] w (KT tW 7 1 1 w) := kt (id_End tU A0 2 c0 B0 0 d0 3 true w h (by decide) (by decide) (wf_small (by decide) (by decide))) aw_e5 rfl rfl rfl
theorem aw_d2 (w : World) (A0 : Option Addr) (c0 : Nat) (B0 : Option Addr) (d0 : Nat) (h : TL w tW A0 1 c0 B0 1 d0) : Calls Try.prog 13 #[.agg #[.int .i64 7, .slice A0 1 c0, .slice B0 1 d0], .int .i64 7, .bool false] w (KT tV 7 0 1 w) := kt (id_End tW A0 1 c0 B0 1 d0 7 false w h (by decide) (by decide) (wf_small (by decide) (by decide))) aw_e6 rfl rfl rfl
theorem aw_c1 (w : World) (A0 : Option Addr) (c0 : Nat) (B0 : Option Addr) (d0 : Nat) (h : TL w tU A0 2 c0 B0 0 d0) : Calls Try.prog 7 #[.agg #[.int .i64 7, .slice A0 2 c0, .slice B0 0 d0], .int .i64 3] w fun e w' => e = .returned (.int .i64 2) ∧ Below w.heap.size w w' := by
  have := id_Class tU A0 2 c0 B0 0 d0 3 w h (by decide) (by decide)
  rwa [show clsI tU 3 = 2 by rfl] at this
theorem aw_c2 (w : World) (A0 : Option Addr) (c0 : Nat) (B0 : Option Addr) (d0 : Nat) (h : TL w tU A0 2 c0 B0 0 d0) : Calls Try.prog 7 #[.agg #[.int .i64 7, .slice A0 2 c0, .slice B0 0 d0], .int .i64 1] w fun e w' => e = .returned (.int .i64 3) ∧ Below w.heap.size w w' := by
  have := id_Class tU A0 2 c0 B0 0 d0 1 w h (by decide) (by decide)
  rwa [show clsI tU 1 = 3 by rfl] at this
theorem aw_c3 (w : World) (A0 : Option Addr) (c0 : Nat) (B0 : Option Addr) (d0 : Nat) (h : TL w tU A0 2 c0 B0 0 d0) : Calls Try.prog 7 #[.agg #[.int .i64 7, .slice A0 2 c0, .slice B0 0 d0], .int .i64 9] w fun e w' => e = .returned (.int .i64 1) ∧ Below w.heap.size w w' := by
  have := id_Class tU A0 2 c0 B0 0 d0 9 w h (by decide) (by decide)
  rwa [show clsI tU 9 = 1 by rfl] at this
theorem aw_c4 (w : World) (A0 : Option Addr) (c0 : Nat) (B0 : Option Addr) (d0 : Nat) (h : TL w tU A0 2 c0 B0 0 d0) : Calls Try.prog 7 #[.agg #[.int .i64 7, .slice A0 2 c0, .slice B0 0 d0], .int .i64 2] w fun e w' => e = .returned (.int .i64 0) ∧ Below w.heap.size w w' := by
  have := id_Class tU A0 2 c0 B0 0 d0 2 w h (by decide) (by decide)
  rwa [show clsI tU 2 = 0 by rfl] at this
theorem aw_c5 (w : World) (A0 : Option Addr) (c0 : Nat) (B0 : Option Addr) (d0 : Nat) (h : TL w tV A0 0 c0 B0 1 d0) : Calls Try.prog 7 #[.agg #[.int .i64 7, .slice A0 0 c0, .slice B0 1 d0], .int .i64 3] w fun e w' => e = .returned (.int .i64 4) ∧ Below w.heap.size w w' := by
  have := id_Class tV A0 0 c0 B0 1 d0 3 w h (by decide) (by decide)
  rwa [show clsI tV 3 = 4 by rfl] at this
theorem aw_c6 (w : World) (A0 : Option Addr) (c0 : Nat) (B0 : Option Addr) (d0 : Nat) (h : TL w tV A0 0 c0 B0 1 d0) : Calls Try.prog 7 #[.agg #[.int .i64 7, .slice A0 0 c0, .slice B0 1 d0], .int .i64 7] w fun e w' => e = .returned (.int .i64 3) ∧ Below w.heap.size w w' := by
  have := id_Class tV A0 0 c0 B0 1 d0 7 w h (by decide) (by decide)
  rwa [show clsI tV 7 = 3 by rfl] at this
theorem aw_k (w : World) (A0 : Option Addr) (c0 : Nat) (B0 : Option Addr) (d0 : Nat) (h : TL w tV A0 0 c0 B0 1 d0) : Calls Try.prog 9 #[.agg #[.int .i64 7, .slice A0 0 c0, .slice B0 1 d0]] w fun e w' => e = .returned (.int .i64 0) ∧ Below w.heap.size w w' := by
  have := id_Check tV A0 0 c0 B0 1 d0 w h (by decide) (by decide)
  rwa [show chkI tV = 0 by rfl] at this
theorem aw_s1 (w : World) (A0 : Option Addr) (c0 : Nat) (B0 : Option Addr) (d0 : Nat) (h : TL w tV A0 0 c0 B0 1 d0) : Calls Try.prog 11 #[.agg #[.int .i64 7, .slice A0 0 c0, .slice B0 1 d0], .agg #[.int .i64 7, .slice A0 0 c0, .slice B0 1 d0]] w fun e w' => e = .returned (.bool true) ∧ Below w.heap.size w w' := by
  have := id_Same tV tV A0 0 c0 B0 1 d0 A0 0 c0 B0 1 d0 w h h (by decide) (by decide)
  rwa [show sameI tV tV = true by rfl] at this
theorem aw_s2 (w : World) (A0 : Option Addr) (c0 : Nat) (B0 : Option Addr) (d0 : Nat) (A1 : Option Addr) (c1 : Nat) (B1 : Option Addr) (d1 : Nat) (h : TL w tU A0 2 c0 B0 0 d0) (h' : TL w tV A1 0 c1 B1 1 d1) : Calls Try.prog 11 #[.agg #[.int .i64 7, .slice A0 2 c0, .slice B0 0 d0], .agg #[.int .i64 7, .slice A1 0 c1, .slice B1 1 d1]] w fun e w' => e = .returned (.bool false) ∧ Below w.heap.size w w' := by
  have := id_Same tU tV A0 2 c0 B0 0 d0 A1 0 c1 B1 1 d1 w h h' (by decide) (by decide)
  rwa [show sameI tU tV = false by rfl] at this

set_option maxRecDepth 100000 in
set_option maxHeartbeats 3200000 in
theorem aw_ids (w : World) : Calls Try.prog 6 #[] w fun e w' => e = .returned (.bool true) ∧ Below w.heap.size w w' := by
  have hz := run_zero_is tb_zero
  go_enter Try.func6, Try.ntmps6
  go_wp2_with fail
  refine (aw_b1 _).mono ?_
  rintro e x1 ⟨A1, c1, B1, d1, rfl, h1, hb⟩
  have HB_1 := hide hb
  clear hb
  have HT := hide h1
  clear h1
  have HT_y1 := hide (HT.out.keep (bel1 x1 (.cells #[.int .i64 3, .slice A1 1 c1, .slice B1 0 d1] 28)))
  have HBY_1 := hide (HB_1.out.alloc HB_1.out.size (.cells #[.int .i64 3, .slice A1 1 c1, .slice B1 0 d1] 28))
  clear HT
  clear HB_1
  go_wp2_with fail
  refine (aw_b2 _ _ _ _ _ HT_y1.out).mono ?_
  rintro e x2 ⟨A2, c2, B2, d2, rfl, h2, hb⟩
  have HT_2 := hide (HT_y1.out.keep hb)
  have HB_2 := hide (HBY_1.out.trans (hb.mono HBY_1.out.size))
  clear HT_y1
  clear HBY_1
  clear hb
  have HU := hide h2
  clear h2 HT_2
  have HU_y2 := hide (HU.out.keep (bel1 x2 (.cells #[.int .i64 7, .slice A2 2 c2, .slice B2 0 d2] 28)))
  have KU_y2 := hide (BlkIs.new x2 28 #[.int .i64 7, .slice A2 2 c2, .slice B2 0 d2])
  have HBY_2 := hide (HB_2.out.alloc HB_2.out.size (.cells #[.int .i64 7, .slice A2 2 c2, .slice B2 0 d2] 28))
  clear HU
  clear HB_2
  go_wp2_with fail
  refine (aw_b3 _ _ _ _ _ HU_y2.out).mono ?_
  rintro e x3 ⟨A3, c3, B3, d3, rfl, -, hb⟩
  have HU_3 := hide (HU_y2.out.keep hb)
  have KU_3 := hide (KU_y2.out.keep hb)
  have HB_3 := hide (HBY_2.out.trans (hb.mono HBY_2.out.size))
  clear HU_y2 KU_y2
  clear HBY_2
  clear hb
  have HU_y3 := hide (HU_3.out.keep (bel1 x3 (.cells #[.int .i64 7, .slice A3 2 c3, .slice B3 0 d3] 28)))
  have KU_y3 := hide (KU_3.out.keep (bel1 x3 (.cells #[.int .i64 7, .slice A3 2 c3, .slice B3 0 d3] 28)))
  have HBY_3 := hide (HB_3.out.alloc HB_3.out.size (.cells #[.int .i64 7, .slice A3 2 c3, .slice B3 0 d3] 28))
  clear HU_3 KU_3
  clear HB_3
  obtain ⟨ku_0, ku_1, ku_2⟩ := cells3 KU_y3.out
  go_wp2_with fail
  refine (aw_b4 _ _ _ _ _ HU_y3.out).mono ?_
  rintro e x4 ⟨A4, c4, B4, d4, rfl, -, hb⟩
  have HU_4 := hide (HU_y3.out.keep hb)
  have KU_4 := hide (KU_y3.out.keep hb)
  have HB_4 := hide (HBY_3.out.trans (hb.mono HBY_3.out.size))
  clear HU_y3 KU_y3
  clear HBY_3
  clear hb
  clear ku_0 ku_1 ku_2
  have HU_y4 := hide (HU_4.out.keep (bel1 x4 (.cells #[.int .i64 7, .slice A4 2 c4, .slice B4 0 d4] 28)))
  have KU_y4 := hide (KU_4.out.keep (bel1 x4 (.cells #[.int .i64 7, .slice A4 2 c4, .slice B4 0 d4] 28)))
  have HBY_4 := hide (HB_4.out.alloc HB_4.out.size (.cells #[.int .i64 7, .slice A4 2 c4, .slice B4 0 d4] 28))
  clear HU_4 KU_4
  clear HB_4
  obtain ⟨ku_0, ku_1, ku_2⟩ := cells3 KU_y4.out
  go_wp2_with fail
  refine (aw_d1 _ _ _ _ _ HU_y4.out).mono ?_
  rintro e x5 ⟨A5, c5, B5, d5, rfl, h5, hb⟩
  have HU_5 := hide (HU_y4.out.keep hb)
  have KU_5 := hide (KU_y4.out.keep hb)
  have HB_5 := hide (HBY_4.out.trans (hb.mono HBY_4.out.size))
  clear HU_y4 KU_y4
  clear HBY_4
  clear hb
  clear ku_0 ku_1 ku_2
  have HWW := hide h5
  clear h5
  go_wp2_with fail
  refine (aw_d2 _ _ _ _ _ HWW.out).mono ?_
  rintro e x6 ⟨A6, c6, B6, d6, rfl, h6, hb⟩
  have HU_6 := hide (HU_5.out.keep hb)
  have KU_6 := hide (KU_5.out.keep hb)
  have HWW_6 := hide (HWW.out.keep hb)
  have HB_6 := hide (HB_5.out.trans (hb.mono HB_5.out.size))
  clear HU_5 KU_5 HWW
  clear HB_5
  clear hb
  have HV := hide h6
  clear h6 HWW_6
  have HU_y6 := hide (HU_6.out.keep (bel1 x6 (.cells #[.int .i64 7, .slice A6 0 c6, .slice B6 1 d6] 28)))
  have KU_y6 := hide (KU_6.out.keep (bel1 x6 (.cells #[.int .i64 7, .slice A6 0 c6, .slice B6 1 d6] 28)))
  have HV_y6 := hide (HV.out.keep (bel1 x6 (.cells #[.int .i64 7, .slice A6 0 c6, .slice B6 1 d6] 28)))
  have KV_y6 := hide (BlkIs.new x6 28 #[.int .i64 7, .slice A6 0 c6, .slice B6 1 d6])
  have HBY_6 := hide (HB_6.out.alloc HB_6.out.size (.cells #[.int .i64 7, .slice A6 0 c6, .slice B6 1 d6] 28))
  clear HU_6 KU_6 HV
  clear HB_6
  obtain ⟨ku_0, ku_1, ku_2⟩ := cells3 KU_y6.out
  obtain ⟨kv_0, kv_1, kv_2⟩ := cells3 KV_y6.out
  go_wp2_with fail
  refine (aw_c1 _ _ _ _ _ HU_y6.out).mono ?_
  rintro e x7 ⟨rfl, hb⟩
  have HU_7 := hide (HU_y6.out.keep hb)
  have KU_7 := hide (KU_y6.out.keep hb)
  have HV_7 := hide (HV_y6.out.keep hb)
  have KV_7 := hide (KV_y6.out.keep hb)
  have HB_7 := hide (HBY_6.out.trans (hb.mono HBY_6.out.size))
  clear HU_y6 KU_y6 HV_y6 KV_y6
  clear HBY_6
  clear hb
  clear ku_0 ku_1 ku_2
  clear kv_0 kv_1 kv_2
  obtain ⟨ku_0, ku_1, ku_2⟩ := cells3 KU_7.out
  obtain ⟨kv_0, kv_1, kv_2⟩ := cells3 KV_7.out
  go_wp2_with fail
  refine (aw_c2 _ _ _ _ _ HU_7.out).mono ?_
  rintro e x8 ⟨rfl, hb⟩
  have HU_8 := hide (HU_7.out.keep hb)
  have KU_8 := hide (KU_7.out.keep hb)
  have HV_8 := hide (HV_7.out.keep hb)
  have KV_8 := hide (KV_7.out.keep hb)
  have HB_8 := hide (HB_7.out.trans (hb.mono HB_7.out.size))
  clear HU_7 KU_7 HV_7 KV_7
  clear HB_7
  clear hb
  clear ku_0 ku_1 ku_2
  clear kv_0 kv_1 kv_2
  obtain ⟨ku_0, ku_1, ku_2⟩ := cells3 KU_8.out
  obtain ⟨kv_0, kv_1, kv_2⟩ := cells3 KV_8.out
  go_wp2_with fail
  refine (aw_c3 _ _ _ _ _ HU_8.out).mono ?_
  rintro e x9 ⟨rfl, hb⟩
  have HU_9 := hide (HU_8.out.keep hb)
  have KU_9 := hide (KU_8.out.keep hb)
  have HV_9 := hide (HV_8.out.keep hb)
  have KV_9 := hide (KV_8.out.keep hb)
  have HB_9 := hide (HB_8.out.trans (hb.mono HB_8.out.size))
  clear HU_8 KU_8 HV_8 KV_8
  clear HB_8
  clear hb
  clear ku_0 ku_1 ku_2
  clear kv_0 kv_1 kv_2
  obtain ⟨ku_0, ku_1, ku_2⟩ := cells3 KU_9.out
  obtain ⟨kv_0, kv_1, kv_2⟩ := cells3 KV_9.out
  go_wp2_with fail
  refine (aw_c4 _ _ _ _ _ HU_9.out).mono ?_
  rintro e x10 ⟨rfl, hb⟩
  have HU_10 := hide (HU_9.out.keep hb)
  have KU_10 := hide (KU_9.out.keep hb)
  have HV_10 := hide (HV_9.out.keep hb)
  have KV_10 := hide (KV_9.out.keep hb)
  have HB_10 := hide (HB_9.out.trans (hb.mono HB_9.out.size))
  clear HU_9 KU_9 HV_9 KV_9
  clear HB_9
  clear hb
  clear ku_0 ku_1 ku_2
  clear kv_0 kv_1 kv_2
  obtain ⟨ku_0, ku_1, ku_2⟩ := cells3 KU_10.out
  obtain ⟨kv_0, kv_1, kv_2⟩ := cells3 KV_10.out
  go_wp2_with fail
  refine (aw_c5 _ _ _ _ _ HV_10.out).mono ?_
  rintro e x11 ⟨rfl, hb⟩
  have HU_11 := hide (HU_10.out.keep hb)
  have KU_11 := hide (KU_10.out.keep hb)
  have HV_11 := hide (HV_10.out.keep hb)
  have KV_11 := hide (KV_10.out.keep hb)
  have HB_11 := hide (HB_10.out.trans (hb.mono HB_10.out.size))
  clear HU_10 KU_10 HV_10 KV_10
  clear HB_10
  clear hb
  clear ku_0 ku_1 ku_2
  clear kv_0 kv_1 kv_2
  obtain ⟨ku_0, ku_1, ku_2⟩ := cells3 KU_11.out
  obtain ⟨kv_0, kv_1, kv_2⟩ := cells3 KV_11.out
  go_wp2_with fail
  refine (aw_c6 _ _ _ _ _ HV_11.out).mono ?_
  rintro e x12 ⟨rfl, hb⟩
  have HU_12 := hide (HU_11.out.keep hb)
  have KU_12 := hide (KU_11.out.keep hb)
  have HV_12 := hide (HV_11.out.keep hb)
  have KV_12 := hide (KV_11.out.keep hb)
  have HB_12 := hide (HB_11.out.trans (hb.mono HB_11.out.size))
  clear HU_11 KU_11 HV_11 KV_11
  clear HB_11
  clear hb
  clear ku_0 ku_1 ku_2
  clear kv_0 kv_1 kv_2
  obtain ⟨ku_0, ku_1, ku_2⟩ := cells3 KU_12.out
  obtain ⟨kv_0, kv_1, kv_2⟩ := cells3 KV_12.out
  go_wp2_with fail
  refine (aw_k _ _ _ _ _ HV_12.out).mono ?_
  rintro e x13 ⟨rfl, hb⟩
  have HU_13 := hide (HU_12.out.keep hb)
  have KU_13 := hide (KU_12.out.keep hb)
  have HV_13 := hide (HV_12.out.keep hb)
  have KV_13 := hide (KV_12.out.keep hb)
  have HB_13 := hide (HB_12.out.trans (hb.mono HB_12.out.size))
  clear HU_12 KU_12 HV_12 KV_12
  clear HB_12
  clear hb
  clear ku_0 ku_1 ku_2
  clear kv_0 kv_1 kv_2
  obtain ⟨ku_0, ku_1, ku_2⟩ := cells3 KU_13.out
  obtain ⟨kv_0, kv_1, kv_2⟩ := cells3 KV_13.out
  go_wp2_with fail
  refine (aw_s1 _ _ _ _ _ HV_13.out).mono ?_
  rintro e x14 ⟨rfl, hb⟩
  have HU_14 := hide (HU_13.out.keep hb)
  have KU_14 := hide (KU_13.out.keep hb)
  have HV_14 := hide (HV_13.out.keep hb)
  have KV_14 := hide (KV_13.out.keep hb)
  have HB_14 := hide (HB_13.out.trans (hb.mono HB_13.out.size))
  clear HU_13 KU_13 HV_13 KV_13
  clear HB_13
  clear hb
  clear ku_0 ku_1 ku_2
  clear kv_0 kv_1 kv_2
  obtain ⟨ku_0, ku_1, ku_2⟩ := cells3 KU_14.out
  obtain ⟨kv_0, kv_1, kv_2⟩ := cells3 KV_14.out
  go_wp2_with fail
  refine (aw_s2 _ _ _ _ _ _ _ _ _ HU_14.out HV_14.out).mono ?_
  rintro e x15 ⟨rfl, hb⟩
  have HU_15 := hide (HU_14.out.keep hb)
  have KU_15 := hide (KU_14.out.keep hb)
  have HV_15 := hide (HV_14.out.keep hb)
  have KV_15 := hide (KV_14.out.keep hb)
  have HB_15 := hide (HB_14.out.trans (hb.mono HB_14.out.size))
  clear HU_14 KU_14 HV_14 KV_14
  clear HB_14
  clear hb
  go_wp2
  go_ret
  exact ⟨rfl, HB_15.out⟩
end Go.Proofs.Ytjjgnhdaaicmeaa
