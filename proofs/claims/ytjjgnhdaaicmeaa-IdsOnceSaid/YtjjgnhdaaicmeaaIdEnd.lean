/-
  Layer 15: End, where nothing ends (written by gen15end.py).
-/
import Derived.Test.YtjjgnhdaaicmeaaIdBegin2
namespace Go.Proofs.Ytjjgnhdaaicmeaa
set_option linter.unusedSimpArgs false
set_option linter.unusedVariables false
open Go.RowKit

set_option maxRecDepth 100000 in
set_option maxHeartbeats 6400000 in
theorem id_end_a (T : Tb) (A : Option Addr) (n c : Nat) (B : Option Addr) (m d : Nat) (id : Int) (cut : Bool) (w : World) (hl : TL w T A n c B m d) (hn : (n : Int) ≤ 1000) (hm : (m : Int) ≤ 1000) (hck : ¬ chkI T = 0) :
    Calls Try.prog 13 #[.agg #[.int .i64 T.l, .slice A n c, .slice B m d], .int .i64 id, .bool cut] w (GivesT T A B T w) := by
  have HL := hide hl
  have HB2 := hide (bel2 w (.cells #[.int .i64 T.l, .slice A n c, .slice B m d] 28) (.cells #[.int .i64 0, .slice none 0 0, .slice none 0 0] 28))
  have HX := hide ((BlkIs.new w 28 #[.int .i64 T.l, .slice A n c, .slice B m d]).alloc (.cells #[.int .i64 0, .slice none 0 0, .slice none 0 0] 28))
  have HG := hide (new2 w (.cells #[.int .i64 T.l, .slice A n c, .slice B m d] 28) 28 #[.int .i64 0, .slice none 0 0, .slice none 0 0])
  have HC := hide (id_Check T A n c B m d _ (hl.keep HB2.out) (by omega) (by omega))
  have HCL := hide (fun w' (h : TL w' T A n c B m d) => id_Class T A n c B m d id w' h (by omega) (by omega))
  have hz := run_zero_is tb_zero
  generalize chkI T = ck at *
  have hne : (ck == 0) = false := beq_eq_false_iff_ne.2 hck
  clear hl hn hm HCL
  go_enter Try.func13, Try.ntmps13
  go_wp2_with fail
  refine HC.out.mono ?_
  rintro e w2 ⟨rfl, hb2⟩
  have HG2 := hide (HG.out.keep hb2)
  have HX2 := hide (HX.out.keep hb2)
  have HB3 := hide (HB2.out.trans (hb2.mono HB2.out.size))
  obtain ⟨k0, k1, k2⟩ := cells3 HX2.out
  clear hb2 HC HG HX HB2
  go_wp2_with (refine wpList_tb_blk rfl (.tmp 6) (.tmp 18) (w.heap.size + 1) T.l A B n c m d _ _ _ rfl HG2.out rfl rfl ?_; intro w9 hk9 kb9; have HK9 := hide hk9; have HB9 := hide (below_kb HB3.out kb9 (Nat.le_refl _) (by omega)); clear hk9 kb9)
  exact bodyPost_ret (results_tb rfl _ _ (w.heap.size + 1) _ _ _ rfl HK9.out) rfl ⟨A, n, c, B, m, d, rfl, HL.out.keep HB9.out, HB9.out, fun g _ h => h⟩
set_option maxRecDepth 100000 in
set_option maxHeartbeats 6400000 in
theorem id_end_b (T : Tb) (A : Option Addr) (n c : Nat) (B : Option Addr) (m d : Nat) (id : Int) (cut : Bool) (w : World) (hl : TL w T A n c B m d) (hn : (n : Int) ≤ 1000) (hm : (m : Int) ≤ 1000) (hck : chkI T = 0) (cl : Int) (hcl : clsI T id = cl) (hc1 : ¬ cl = 2) :
    Calls Try.prog 13 #[.agg #[.int .i64 T.l, .slice A n c, .slice B m d], .int .i64 id, .bool cut] w (GivesT T A B T w) := by
  have HL := hide hl
  have HB2 := hide (bel2 w (.cells #[.int .i64 T.l, .slice A n c, .slice B m d] 28) (.cells #[.int .i64 0, .slice none 0 0, .slice none 0 0] 28))
  have HX := hide ((BlkIs.new w 28 #[.int .i64 T.l, .slice A n c, .slice B m d]).alloc (.cells #[.int .i64 0, .slice none 0 0, .slice none 0 0] 28))
  have HG := hide (new2 w (.cells #[.int .i64 T.l, .slice A n c, .slice B m d] 28) 28 #[.int .i64 0, .slice none 0 0, .slice none 0 0])
  have HC := hide (id_Check T A n c B m d _ (hl.keep HB2.out) (by omega) (by omega))
  have HCL := hide (fun w' (h : TL w' T A n c B m d) => id_Class T A n c B m d id w' h (by omega) (by omega))
  have hz := run_zero_is tb_zero
  rw [hck] at HC
  have hne : (cl == 2) = false := beq_eq_false_iff_ne.2 hc1
  clear hl hn hm hck hc1
  go_enter Try.func13, Try.ntmps13
  go_wp2_with fail
  refine HC.out.mono ?_
  rintro e w2 ⟨rfl, hb2⟩
  have HG2 := hide (HG.out.keep hb2)
  have HX2 := hide (HX.out.keep hb2)
  have HB3 := hide (HB2.out.trans (hb2.mono HB2.out.size))
  obtain ⟨k0, k1, k2⟩ := cells3 HX2.out
  clear hb2 HC HG HX HB2
  have HCD := hide (HCL.out w2 (HL.out.keep HB3.out))
  clear HCL
  rw [hcl] at HCD
  go_wp2_with fail
  refine HCD.out.mono ?_
  rintro e w3 ⟨rfl, hb3⟩
  have HG3 := hide (HG2.out.keep hb3)
  have HX3 := hide (HX2.out.keep hb3)
  have HB4 := hide (HB3.out.trans (hb3.mono HB3.out.size))
  clear k0 k1 k2
  obtain ⟨k0, k1, k2⟩ := cells3 HX3.out
  clear hb3 HCD HG2 HX2 HB3
  go_wp2_with (refine wpList_tb_blk rfl (.tmp 6) (.tmp 18) (w.heap.size + 1) T.l A B n c m d _ _ _ rfl HG3.out rfl rfl ?_; intro w9 hk9 kb9; have HK9 := hide hk9; have HB9 := hide (below_kb HB4.out kb9 (Nat.le_refl _) (by omega)); clear hk9 kb9)
  exact bodyPost_ret (results_tb rfl _ _ (w.heap.size + 1) _ _ _ rfl HK9.out) rfl ⟨A, n, c, B, m, d, rfl, HL.out.keep HB9.out, HB9.out, fun g _ h => h⟩

/-! ## One cell stored -/
theorem run_storeVar_cell {P : Program} (w : World) (b o : Nat) (ty : TypeId) (v : Value) (hv : v.cells = #[v]) (h1 : v.oneCell' = true) (hc : (w.cell? ⟨b, o, none⟩).isSome = true) (hf : w.frozen? ⟨b, o, none⟩ = false) (hi : (P.info? ty).map (·.size) = some 1) :
    (storeVar ty ⟨b, o, none⟩ v).run P w = .ok () (w.setCell ⟨b, o, none⟩ v) := by
  have := run_storeCells_cells (P := P) b o [v] 0 w (fun j hj => by obtain rfl : j = 0 := by simpa using hj
                                                                    simpa using hc) (fun j hj => by obtain rfl : j = 0 := by simpa using hj
                                                                                                    simpa using hf) (fun u hu => by rw [List.mem_singleton.1 hu]; exact h1)
  cases hq : P.info? ty with
  | none => simp [hq] at hi
  | some i =>
    have hs : i.size = 1 := by simpa [hq] using hi
    simp only [Nat.add_zero] at this
    simp [storeVar, sizeOf, typeInfo, hq, hv, hs, this, World.setCells]
theorem wpList_put_cell {P : Program} {ops : Array Oper} {rest : List Oper} {op : Oper} {a : Act} {w : World} {Q : Exit → Act → World → Prop} (hgd : op.guard = none) (ty : TypeId) (x y : Operand) (ho : op.op = .store ty x y)
    (g i : Nat) (t : TypeId) (cs : Array Value) (v : Value) (hx : a.eval x = .pointer (some ⟨g, i, none⟩)) (hy : a.eval y = v) (hv : v.cells = #[v]) (h1 : v.oneCell' = true) (hk : BlkIs w g t cs) (hic : i < cs.size) (hi : (P.info? ty).map (·.size) = some 1)
    (h : ∀ w', BlkIs w' g t (cs.setIfInBounds i v) → KB (· = g) w w' → wpList P ops Q rest (a.put op.dst undef) w') : wpList P ops Q (op :: rest) a w := by
  refine wpList_plain hgd fun _ hK => ?_
  have hr := run_storeVar_cell (P := P) w g i ty v hv h1 (by rw [hk.cell, Array.getElem?_eq_getElem hic]; rfl) (hk.frozen i) hi
  unfold Oper.wp execOp
  simp only [ho, hx, hy, Instr.storeAt, Instr.sureAddr, Sem.run_bind, Sem.run_pure, Result.andThen_ok, hr]
  exact hK _ _ (h _ (hk.put i v) ((KB.refl (· = g) w).setCell (fun _ => rfl) v))
end Go.Proofs.Ytjjgnhdaaicmeaa
