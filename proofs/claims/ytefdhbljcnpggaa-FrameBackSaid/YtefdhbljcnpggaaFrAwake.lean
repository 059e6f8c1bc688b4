/-
  Layer 9: what every right program answers (awake).
-/
import Derived.Test.YtefdhbljcnpggaaFrRead
import Derived.Test.YtefdhbljcnpggaaFrPut
import Derived.Test.YtefdhbljcnpggaaFrSame
import Derived.Laws.StructEq
namespace Go.Proofs.Ytefdhbljcnpggaa
open Go.RowKit

def aF : Fr := ⟨1, 44, 3, ⟨#[97, 98]⟩, 1, 1, true, 9, 0, 0, 0⟩
def bF : Fr := ⟨6, 0, 0, ⟨#[]⟩, 0, 0, false, 0, 0, 0, 0⟩
theorem aF_cs : aF.cs none 0 0 = #[.int .u8 1, .int .u8 44, .int .i64 3, .string ⟨#[97, 98]⟩, .int .i64 1, .int .i64 1, .bool true, .int .u8 9, .int .u32 0, .int .i64 0, .int .i64 0, .slice none 0 0] := rfl
theorem aF_chk : aF.chk 0 = 0 := by kernel_rfl
theorem bF_chk : bF.chk 0 = 4 := by kernel_rfl
theorem aF_put : aF.put [] = [0, 0, 9, 1, 44, 0, 0, 0, 3, 1, 128, 0, 0, 1, 9, 97, 98, 0] := by kernel_rfl
theorem bF_put : bF.put [] = [] := by kernel_rfl
theorem aF_len : aF.len 0 = 9 := by kernel_rfl
theorem aF_same : sameF aF aF [] [] = true := by kernel_rfl
theorem aF_zero : sameF aF Fr.zero [] [] = false := by kernel_rfl
theorem rd1 : readR 1 44 3 (bts ⟨#[1, 128, 0, 0, 1, 9, 97, 98, 0]⟩) = ⟨aF, [], 0, 0⟩ := by kernel_rfl
theorem rd2 : readR 8 0 5 (bts ⟨#[128, 0, 0, 0]⟩) = Rd.fault 1 5 := by kernel_rfl
theorem rd3 : readR 2 0 5 (bts ⟨#[]⟩) = Rd.fault 6 5 := by kernel_rfl
theorem rd4 : readR 5 0 5 (bts ⟨#[]⟩) = Rd.fault 1 0 := by kernel_rfl
theorem allP_nil : AllP [] := fun p hp => by cases hp

theorem aw_put1 (w : World) : Calls Try.prog 14 #[.agg (aF.cs none 0 0)] w (GivesPut w.heap.size [0, 0, 9, 1, 44, 0, 0, 0, 3, 1, 128, 0, 0, 1, 9, 97, 98, 0] 0 w) := by
  have h := fr_Put aF none 0 0 [] (by decide) (by decide) (by decide) (by decide) (by decide) allP_nil (by decide) (by decide) w (PL.none_ _)
  rw [aF_put, aF_chk] at h
  exact h
theorem aw_put2 (w : World) : Calls Try.prog 14 #[.agg (bF.cs none 0 0)] w (GivesPut w.heap.size [] 4 w) := by
  have h := fr_Put bF none 0 0 [] (by decide) (by decide) (by decide) (by decide) (by decide) allP_nil (by decide) (by decide) w (PL.none_ _)
  rw [bF_put, bF_chk] at h
  exact h
theorem aw_rd1 (w : World) : Calls Try.prog 9 #[.agg #[.int .i64 0, .int .u8 1, .int .u8 44, .int .i64 3], .string ⟨#[1, 128, 0, 0, 1, 9, 97, 98, 0]⟩] w (GivesRd ⟨aF, [], 0, 0⟩ w) := by
  have h := fr_Read 0 1 44 3 (by omega) ⟨#[1, 128, 0, 0, 1, 9, 97, 98, 0]⟩ (by decide) w
  rwa [rd1] at h
theorem aw_rd2 (w : World) : Calls Try.prog 9 #[.agg #[.int .i64 0, .int .u8 8, .int .u8 0, .int .i64 5], .string ⟨#[128, 0, 0, 0]⟩] w (GivesRd (Rd.fault 1 5) w) := by
  have h := fr_Read 0 8 0 5 (by omega) ⟨#[128, 0, 0, 0]⟩ (by decide) w
  rwa [rd2] at h
theorem aw_rd3 (w : World) : Calls Try.prog 9 #[.agg #[.int .i64 0, .int .u8 2, .int .u8 0, .int .i64 5], .string ⟨#[]⟩] w (GivesRd (Rd.fault 6 5) w) := by
  have h := fr_Read 0 2 0 5 (by omega) ⟨#[]⟩ (by decide) w
  rwa [rd3] at h
theorem aw_rd4 (w : World) : Calls Try.prog 9 #[.agg #[.int .i64 0, .int .u8 5, .int .u8 0, .int .i64 5], .string ⟨#[]⟩] w (GivesRd (Rd.fault 1 0) w) := by
  have h := fr_Read 0 5 0 5 (by omega) ⟨#[]⟩ (by decide) w
  rwa [rd4] at h
theorem wpList_load_want {P : Program} {ops : Array Oper} {rest : List Oper} {o : Oper} {a : Act} {w : World} {Q : Exit → Act → World → Prop} (hw : Region.wanted o (yielded ops a.tmps) = true) (ty : TypeId) (x : Operand) (ho : o.op = .load ty x)
    (g : Nat) (hx : a.eval x = .pointer (some ⟨g, 0, none⟩)) (t : TypeId) (cs : Array Value) (d : TypeDesc) (hg : BlkIs w g t cs)
    (hu : P.underlying ty = some d) (hd : (match d with | .struct _ | .array _ _ => true | _ => false) = true) (hi : (P.info? ty).map (·.size) = some cs.size)
    (h : wpList P ops Q rest (a.put o.dst (.agg cs)) w) : wpList P ops Q (o :: rest) a w := by
  refine wpList_lz true (.agg cs) hw (fun _ => ?_) h
  unfold execOp
  simp only [ho, hx, Instr.loadAt, Instr.sureAddr, Sem.run_bind, Sem.run_pure, Result.andThen_ok, run_loadVar_row w g t ty cs (0, 0) d hg hu hd hi]
theorem fa_cells {w : World} {g : Nat} {t : TypeId} {a b : Value} (h : BlkIs w g t #[a, b]) : w.cell? ⟨g, 0, none⟩ = some a ∧ w.cell? ⟨g, 1, none⟩ = some b := ⟨h.cell 0, h.cell 1⟩
theorem two_stored (w : World) (cs z ds y : Array Value) (t u : TypeId) :
    BlkIs ((((w.alloc (.cells z t)).alloc (.cells y u)).setRow w.heap.size cs).setRow (w.heap.size + 1) ds) w.heap.size t cs ∧ BlkIs ((((w.alloc (.cells z t)).alloc (.cells y u)).setRow w.heap.size cs).setRow (w.heap.size + 1) ds) (w.heap.size + 1) u ds ∧
    Below w.heap.size w ((((w.alloc (.cells z t)).alloc (.cells y u)).setRow w.heap.size cs).setRow (w.heap.size + 1) ds) :=
  ⟨(((BlkIs.new w t z).alloc _).row cs).row_other (by omega) ds, ((blk_two (w := w) (t := t) (cs := z)).row_other (by omega) cs).row ds, below_setRow (below_setRow below_two (Nat.le_refl _) _) (by omega) _⟩

set_option maxRecDepth 100000 in
set_option maxHeartbeats 1600000 in
theorem aw_frame (w : World) : Calls Try.prog 8 #[] w fun e w' => e = .returned (.bool true) ∧ Below w.heap.size w w' := by
  go_enter Try.func8, Try.ntmps8
  go_upto_region 2 with (fail)
  have B0 := hide (Below.refl w.heap.size w)
  have KN1 := hide (BlkIs.new w 28 #[.int .u8 1, .int .u8 44, .int .i64 3, .string ⟨#[97, 98]⟩, .int .i64 1, .int .i64 1, .bool true, .int .u8 9, .int .u32 0, .int .i64 0, .int .i64 0, .slice none 0 0])
  obtain ⟨g, hg⟩ : ∃ g, g = w.heap.size := ⟨_, rfl⟩
  have Lg := hide (show w.heap.size ≤ g by rw [hg]; exact B0.out.size)
  have B1 := hide (B0.out.alloc B0.out.size (.cells #[.int .u8 1, .int .u8 44, .int .i64 3, .string ⟨#[97, 98]⟩, .int .i64 1, .int .i64 1, .bool true, .int .u8 9, .int .u32 0, .int .i64 0, .int .i64 0, .slice none 0 0] 28))
  rw [← hg] at KN1 ⊢
  generalize w.alloc (.cells #[.int .u8 1, .int .u8 44, .int .i64 3, .string ⟨#[97, 98]⟩, .int .i64 1, .int .i64 1, .bool true, .int .u8 9, .int .u32 0, .int .i64 0, .int .i64 0, .slice none 0 0] 28) = w1 at B1 KN1 ⊢
  clear hg B0
  have KG0 := hide (show BlkIs w1 g 28 (aF.cs none 0 0) from KN1.out)
  clear KN1
  go_wp2_with (refine wpList_load_blk rfl 28 (.tmp 1) rfl g rfl 28 (aF.cs none 0 0) _ KG0.out Try.underlying28 rfl fr_sz ?_)
  refine (aw_put1 _).mono ?_
  rintro e w2 ⟨v2, rfl, ho2, hb2⟩
  have Kg2 := hide (KG0.out.keep hb2)
  have B2 := hide (B1.out.trans (hb2.mono B1.out.size))
  clear hb2 KG0 B1
  obtain ⟨A2, c2, rfl⟩ := own_form ho2
  have ER := hide (show RB w2 A2 18 [0, 0, 9, 1, 44, 0, 0, 0, 3, 1, 128, 0, 0, 1, 9, 97, 98, 0] from (rb_of_own ho2 (by intro x hx; simp at hx; omega)).1)
  clear ho2
  go_wp2_with fail
  refine (aw_rd1 _).mono ?_
  rintro e w3 ⟨A1, c1, rfl, hpl, hb3⟩
  have HPL1 := hide hpl
  clear hpl
  have Kg3 := hide (Kg2.out.keep hb3)
  have ER3 := hide (ER.out.below hb3)
  have B3 := hide (B2.out.trans (hb3.mono B2.out.size))
  clear hb3 Kg2 ER B2
  go_upto_region 4 with (first
    | (refine wpList_store_blk rfl 28 (.tmp 4) (.tmp 23) rfl w3.heap.size (aF.cs A1 0 c1) #[.int .u8 0, .int .u8 0, .int .i64 0, .string ⟨#[]⟩, .int .i64 0, .int .i64 0, .bool false, .int .u8 0, .int .u32 0, .int .i64 0, .int .i64 0, .slice none 0 0] 28 rfl rfl ((BlkIs.new w3 28 #[.int .u8 0, .int .u8 0, .int .i64 0, .string ⟨#[]⟩, .int .i64 0, .int .i64 0, .bool false, .int .u8 0, .int .u32 0, .int .i64 0, .int .i64 0, .slice none 0 0]).alloc _) fr_sz rfl (Fr.cs_one _ _ _ _) ?_)
    | (refine wpList_store_blk rfl 31 (.tmp 5) (.tmp 24) rfl (w3.heap.size + 1) #[.int .u32 0, .int .i64 0] #[.int .u32 0, .int .i64 0] 31 rfl rfl (blk_two.row_other (by omega) _) fa_size rfl (fa_one _ _ rfl rfl) ?_))
  obtain ⟨ka4, kb4, hb4⟩ := two_stored w3 (aF.cs A1 0 c1) #[.int .u8 0, .int .u8 0, .int .i64 0, .string ⟨#[]⟩, .int .i64 0, .int .i64 0, .bool false, .int .u8 0, .int .u32 0, .int .i64 0, .int .i64 0, .slice none 0 0] #[.int .u32 0, .int .i64 0] #[.int .u32 0, .int .i64 0] 28 31
  obtain ⟨f1, hf1⟩ : ∃ g, g = w3.heap.size := ⟨_, rfl⟩
  obtain ⟨a1, ha1⟩ : ∃ g, g = w3.heap.size + 1 := ⟨_, rfl⟩
  generalize hw4 : (((w3.alloc (.cells #[.int .u8 0, .int .u8 0, .int .i64 0, .string ⟨#[]⟩, .int .i64 0, .int .i64 0, .bool false, .int .u8 0, .int .u32 0, .int .i64 0, .int .i64 0, .slice none 0 0] 28)).alloc (.cells #[.int .u32 0, .int .i64 0] 31)).setRow w3.heap.size (aF.cs A1 0 c1)).setRow (w3.heap.size + 1) #[.int .u32 0, .int .i64 0] = w4 at ka4 kb4 hb4 ⊢
  rw [← ha1] at kb4 ⊢
  rw [← hf1] at ka4 ⊢
  have Kg4 := hide (Kg3.out.keep hb4)
  have ER4 := hide (ER3.out.below hb4)
  have EP4 := hide (HPL1.out.keep hb4)
  have B4 := hide (B3.out.trans (hb4.mono B3.out.size))
  clear hb4 Kg3 ER3 HPL1 B3
  have KA4 := hide ka4
  have KB4 := hide kb4
  clear ka4 kb4 hf1 ha1 hw4
  go_wp2_with fail
  refine (aw_rd2 _).mono ?_
  rintro e w5 ⟨A3, c3, rfl, hpl, hb5⟩
  have HPL2 := hide hpl
  clear hpl
  have Kg5 := hide (Kg4.out.keep hb5)
  have Kf15 := hide (KA4.out.keep hb5)
  have Ka15 := hide (KB4.out.keep hb5)
  have ER5 := hide (ER4.out.below hb5)
  have EP5 := hide (EP4.out.keep hb5)
  have B5 := hide (B4.out.trans (hb5.mono B4.out.size))
  clear hb5 Kg4 KA4 KB4 ER4 EP4 B4
  go_upto_region 5 with (first
    | (refine wpList_store_blk rfl 28 (.tmp 6) (.tmp 28) rfl w5.heap.size (Fr.zero.cs A3 0 c3) #[.int .u8 0, .int .u8 0, .int .i64 0, .string ⟨#[]⟩, .int .i64 0, .int .i64 0, .bool false, .int .u8 0, .int .u32 0, .int .i64 0, .int .i64 0, .slice none 0 0] 28 rfl rfl ((BlkIs.new w5 28 #[.int .u8 0, .int .u8 0, .int .i64 0, .string ⟨#[]⟩, .int .i64 0, .int .i64 0, .bool false, .int .u8 0, .int .u32 0, .int .i64 0, .int .i64 0, .slice none 0 0]).alloc _) fr_sz rfl (Fr.cs_one _ _ _ _) ?_)
    | (refine wpList_store_blk rfl 31 (.tmp 7) (.tmp 29) rfl (w5.heap.size + 1) #[.int .u32 1, .int .i64 5] #[.int .u32 0, .int .i64 0] 31 rfl rfl (blk_two.row_other (by omega) _) fa_size rfl (fa_one _ _ rfl rfl) ?_))
  obtain ⟨ka6, kb6, hb6⟩ := two_stored w5 (Fr.zero.cs A3 0 c3) #[.int .u8 0, .int .u8 0, .int .i64 0, .string ⟨#[]⟩, .int .i64 0, .int .i64 0, .bool false, .int .u8 0, .int .u32 0, .int .i64 0, .int .i64 0, .slice none 0 0] #[.int .u32 1, .int .i64 5] #[.int .u32 0, .int .i64 0] 28 31
  obtain ⟨f2, hf2⟩ : ∃ g, g = w5.heap.size := ⟨_, rfl⟩
  obtain ⟨a2, ha2⟩ : ∃ g, g = w5.heap.size + 1 := ⟨_, rfl⟩
  generalize hw6 : (((w5.alloc (.cells #[.int .u8 0, .int .u8 0, .int .i64 0, .string ⟨#[]⟩, .int .i64 0, .int .i64 0, .bool false, .int .u8 0, .int .u32 0, .int .i64 0, .int .i64 0, .slice none 0 0] 28)).alloc (.cells #[.int .u32 0, .int .i64 0] 31)).setRow w5.heap.size (Fr.zero.cs A3 0 c3)).setRow (w5.heap.size + 1) #[.int .u32 1, .int .i64 5] = w6 at ka6 kb6 hb6 ⊢
  rw [← ha2] at kb6 ⊢
  rw [← hf2] at ka6 ⊢
  have Kg6 := hide (Kg5.out.keep hb6)
  have Kf16 := hide (Kf15.out.keep hb6)
  have Ka16 := hide (Ka15.out.keep hb6)
  have ER6 := hide (ER5.out.below hb6)
  have EP6 := hide (EP5.out.keep hb6)
  have B6 := hide (B5.out.trans (hb6.mono B5.out.size))
  clear hb6 Kg5 Kf15 Ka15 ER5 EP5 B5
  have KA6 := hide ka6
  have KB6 := hide kb6
  clear ka6 kb6 hf2 ha2 hw6
  go_wp2_with fail
  refine (aw_rd3 _).mono ?_
  rintro e w7 ⟨A4, c4, rfl, hpl, hb7⟩
  have HPL3 := hide hpl
  clear hpl
  have Kg7 := hide (Kg6.out.keep hb7)
  have Kf17 := hide (Kf16.out.keep hb7)
  have Ka17 := hide (Ka16.out.keep hb7)
  have Ka27 := hide (KB6.out.keep hb7)
  have ER7 := hide (ER6.out.below hb7)
  have EP7 := hide (EP6.out.keep hb7)
  have B7 := hide (B6.out.trans (hb7.mono B6.out.size))
  clear hb7 Kg6 Kf16 Ka16 KB6 ER6 EP6 B6
  go_upto_region 6 with (first
    | (refine wpList_store_blk rfl 28 (.tmp 8) (.tmp 33) rfl w7.heap.size (Fr.zero.cs A4 0 c4) #[.int .u8 0, .int .u8 0, .int .i64 0, .string ⟨#[]⟩, .int .i64 0, .int .i64 0, .bool false, .int .u8 0, .int .u32 0, .int .i64 0, .int .i64 0, .slice none 0 0] 28 rfl rfl ((BlkIs.new w7 28 #[.int .u8 0, .int .u8 0, .int .i64 0, .string ⟨#[]⟩, .int .i64 0, .int .i64 0, .bool false, .int .u8 0, .int .u32 0, .int .i64 0, .int .i64 0, .slice none 0 0]).alloc _) fr_sz rfl (Fr.cs_one _ _ _ _) ?_)
    | (refine wpList_store_blk rfl 31 (.tmp 9) (.tmp 34) rfl (w7.heap.size + 1) #[.int .u32 6, .int .i64 5] #[.int .u32 0, .int .i64 0] 31 rfl rfl (blk_two.row_other (by omega) _) fa_size rfl (fa_one _ _ rfl rfl) ?_))
  obtain ⟨ka8, kb8, hb8⟩ := two_stored w7 (Fr.zero.cs A4 0 c4) #[.int .u8 0, .int .u8 0, .int .i64 0, .string ⟨#[]⟩, .int .i64 0, .int .i64 0, .bool false, .int .u8 0, .int .u32 0, .int .i64 0, .int .i64 0, .slice none 0 0] #[.int .u32 6, .int .i64 5] #[.int .u32 0, .int .i64 0] 28 31
  obtain ⟨f3, hf3⟩ : ∃ g, g = w7.heap.size := ⟨_, rfl⟩
  obtain ⟨a3, ha3⟩ : ∃ g, g = w7.heap.size + 1 := ⟨_, rfl⟩
  generalize hw8 : (((w7.alloc (.cells #[.int .u8 0, .int .u8 0, .int .i64 0, .string ⟨#[]⟩, .int .i64 0, .int .i64 0, .bool false, .int .u8 0, .int .u32 0, .int .i64 0, .int .i64 0, .slice none 0 0] 28)).alloc (.cells #[.int .u32 0, .int .i64 0] 31)).setRow w7.heap.size (Fr.zero.cs A4 0 c4)).setRow (w7.heap.size + 1) #[.int .u32 6, .int .i64 5] = w8 at ka8 kb8 hb8 ⊢
  rw [← ha3] at kb8 ⊢
  rw [← hf3] at ka8 ⊢
  have Kg8 := hide (Kg7.out.keep hb8)
  have Kf18 := hide (Kf17.out.keep hb8)
  have Ka18 := hide (Ka17.out.keep hb8)
  have Ka28 := hide (Ka27.out.keep hb8)
  have ER8 := hide (ER7.out.below hb8)
  have EP8 := hide (EP7.out.keep hb8)
  have B8 := hide (B7.out.trans (hb8.mono B7.out.size))
  clear hb8 Kg7 Kf17 Ka17 Ka27 ER7 EP7 B7
  have KA8 := hide ka8
  have KB8 := hide kb8
  clear ka8 kb8 hf3 ha3 hw8
  go_wp2_with fail
  refine (aw_rd4 _).mono ?_
  rintro e w9 ⟨A5, c5, rfl, hpl, hb9⟩
  have HPL4 := hide hpl
  clear hpl
  have Kg9 := hide (Kg8.out.keep hb9)
  have Kf19 := hide (Kf18.out.keep hb9)
  have Ka19 := hide (Ka18.out.keep hb9)
  have Ka29 := hide (Ka28.out.keep hb9)
  have Ka39 := hide (KB8.out.keep hb9)
  have ER9 := hide (ER8.out.below hb9)
  have EP9 := hide (EP8.out.keep hb9)
  have B9 := hide (B8.out.trans (hb9.mono B8.out.size))
  clear hb9 Kg8 Kf18 Ka18 Ka28 KB8 ER8 EP8 B8
  go_upto_region 7 with (first
    | (refine wpList_store_blk rfl 28 (.tmp 10) (.tmp 38) rfl w9.heap.size (Fr.zero.cs A5 0 c5) #[.int .u8 0, .int .u8 0, .int .i64 0, .string ⟨#[]⟩, .int .i64 0, .int .i64 0, .bool false, .int .u8 0, .int .u32 0, .int .i64 0, .int .i64 0, .slice none 0 0] 28 rfl rfl ((BlkIs.new w9 28 #[.int .u8 0, .int .u8 0, .int .i64 0, .string ⟨#[]⟩, .int .i64 0, .int .i64 0, .bool false, .int .u8 0, .int .u32 0, .int .i64 0, .int .i64 0, .slice none 0 0]).alloc _) fr_sz rfl (Fr.cs_one _ _ _ _) ?_)
    | (refine wpList_store_blk rfl 31 (.tmp 11) (.tmp 39) rfl (w9.heap.size + 1) #[.int .u32 1, .int .i64 0] #[.int .u32 0, .int .i64 0] 31 rfl rfl (blk_two.row_other (by omega) _) fa_size rfl (fa_one _ _ rfl rfl) ?_))
  obtain ⟨ka10, kb10, hb10⟩ := two_stored w9 (Fr.zero.cs A5 0 c5) #[.int .u8 0, .int .u8 0, .int .i64 0, .string ⟨#[]⟩, .int .i64 0, .int .i64 0, .bool false, .int .u8 0, .int .u32 0, .int .i64 0, .int .i64 0, .slice none 0 0] #[.int .u32 1, .int .i64 0] #[.int .u32 0, .int .i64 0] 28 31
  obtain ⟨f4, hf4⟩ : ∃ g, g = w9.heap.size := ⟨_, rfl⟩
  obtain ⟨a4, ha4⟩ : ∃ g, g = w9.heap.size + 1 := ⟨_, rfl⟩
  generalize hw10 : (((w9.alloc (.cells #[.int .u8 0, .int .u8 0, .int .i64 0, .string ⟨#[]⟩, .int .i64 0, .int .i64 0, .bool false, .int .u8 0, .int .u32 0, .int .i64 0, .int .i64 0, .slice none 0 0] 28)).alloc (.cells #[.int .u32 0, .int .i64 0] 31)).setRow w9.heap.size (Fr.zero.cs A5 0 c5)).setRow (w9.heap.size + 1) #[.int .u32 1, .int .i64 0] = w10 at ka10 kb10 hb10 ⊢
  rw [← ha4] at kb10 ⊢
  rw [← hf4] at ka10 ⊢
  have Kg10 := hide (Kg9.out.keep hb10)
  have Kf110 := hide (Kf19.out.keep hb10)
  have Ka110 := hide (Ka19.out.keep hb10)
  have Ka210 := hide (Ka29.out.keep hb10)
  have Ka310 := hide (Ka39.out.keep hb10)
  have ER10 := hide (ER9.out.below hb10)
  have EP10 := hide (EP9.out.keep hb10)
  have B10 := hide (B9.out.trans (hb10.mono B9.out.size))
  clear hb10 Kg9 Kf19 Ka19 Ka29 Ka39 ER9 EP9 B9
  have KA10 := hide ka10
  have KB10 := hide kb10
  clear ka10 kb10 hf4 ha4 hw10
  go_wp2_with fail
  refine (aw_put2 _).mono ?_
  rintro e w11 ⟨v9, rfl, ho9, hb11⟩
  have Kg11 := hide (Kg10.out.keep hb11)
  have Kf111 := hide (Kf110.out.keep hb11)
  have Ka111 := hide (Ka110.out.keep hb11)
  have Ka211 := hide (Ka210.out.keep hb11)
  have Ka311 := hide (Ka310.out.keep hb11)
  have Ka411 := hide (KB10.out.keep hb11)
  have ER11 := hide (ER10.out.below hb11)
  have EP11 := hide (EP10.out.keep hb11)
  have B11 := hide (B10.out.trans (hb11.mono B10.out.size))
  clear hb11 Kg10 Kf110 Ka110 Ka210 Ka310 KB10 ER10 EP10 B10
  clear ho9
  have s1 := rb_string c2 ER11.out
  rw [show strOfNums [0, 0, 9, 1, 44, 0, 0, 0, 3, 1, 128, 0, 0, 1, 9, 97, 98, 0] = ⟨#[0, 0, 9, 1, 44, 0, 0, 0, 3, 1, 128, 0, 0, 1, 9, 97, 98, 0]⟩ by rfl] at s1
  have HSA := hide (fun w h => (fr_Same aF aF none A1 0 0 0 c1 [] [] w (PL.none_ _) h (by decide) (by decide)))
  rw [aF_same] at HSA
  have HSZ := hide (fun w => (fr_Same aF Fr.zero none none 0 0 0 0 [] [] w (PL.none_ _) (PL.none_ _) (by decide) (by decide)))
  rw [aF_zero] at HSZ
  have HCK := hide (fun w => fr_Check aF none 0 0 (by decide) (by decide) (by decide) w)
  rw [aF_chk] at HCK
  have HLN := hide (fun w => fr_Length aF none 0 0 (by decide) (by decide) (by decide) w)
  rw [aF_len] at HLN
  obtain ⟨p10, p11⟩ := fa_cells Ka111.out
  obtain ⟨p20, p21⟩ := fa_cells Ka211.out
  obtain ⟨p30, p31⟩ := fa_cells Ka311.out
  obtain ⟨p40, p41⟩ := fa_cells Ka411.out
  go_wp2_with (first
    | (refine wpList_load_want (by rfl) 28 (.tmp 1) rfl g rfl 28 (aF.cs none 0 0) _ Kg11.out Try.underlying28 rfl fr_sz ?_)
    | (refine wpList_load_want (by rfl) 28 (.tmp 4) rfl f1 rfl 28 (aF.cs A1 0 c1) _ Kf111.out Try.underlying28 rfl fr_sz ?_))
  clear s1
  clear p10 p11 p20 p21 p30 p31 p40 p41
  refine (HSA.out _ EP11.out).mono ?_
  rintro e w12 ⟨rfl, hb12⟩
  have Kg12 := hide (Kg11.out.keep hb12)
  have Kf112 := hide (Kf111.out.keep hb12)
  have Ka112 := hide (Ka111.out.keep hb12)
  have Ka212 := hide (Ka211.out.keep hb12)
  have Ka312 := hide (Ka311.out.keep hb12)
  have Ka412 := hide (Ka411.out.keep hb12)
  have ER12 := hide (ER11.out.below hb12)
  have EP12 := hide (EP11.out.keep hb12)
  have B12 := hide (B11.out.trans (hb12.mono B11.out.size))
  clear hb12 Kg11 Kf111 Ka111 Ka211 Ka311 Ka411 ER11 EP11 B11
  obtain ⟨p10, p11⟩ := fa_cells Ka112.out
  obtain ⟨p20, p21⟩ := fa_cells Ka212.out
  obtain ⟨p30, p31⟩ := fa_cells Ka312.out
  obtain ⟨p40, p41⟩ := fa_cells Ka412.out
  go_wp2_with (refine wpList_load_want (by rfl) 28 (.tmp 1) rfl g rfl 28 (aF.cs none 0 0) _ Kg12.out Try.underlying28 rfl fr_sz ?_)
  clear p10 p11 p20 p21 p30 p31 p40 p41
  refine (HCK.out _).mono ?_
  rintro e w13 ⟨rfl, hb13⟩
  have Kg13 := hide (Kg12.out.keep hb13)
  have Kf113 := hide (Kf112.out.keep hb13)
  have Ka113 := hide (Ka112.out.keep hb13)
  have Ka213 := hide (Ka212.out.keep hb13)
  have Ka313 := hide (Ka312.out.keep hb13)
  have Ka413 := hide (Ka412.out.keep hb13)
  have ER13 := hide (ER12.out.below hb13)
  have EP13 := hide (EP12.out.keep hb13)
  have B13 := hide (B12.out.trans (hb13.mono B12.out.size))
  clear hb13 Kg12 Kf112 Ka112 Ka212 Ka312 Ka412 ER12 EP12 B12
  go_wp2_with (refine wpList_load_want (by rfl) 28 (.tmp 1) rfl g rfl 28 (aF.cs none 0 0) _ Kg13.out Try.underlying28 rfl fr_sz ?_)
  refine (HLN.out _).mono ?_
  rintro e w14 ⟨rfl, hb14⟩
  have Kg14 := hide (Kg13.out.keep hb14)
  have Kf114 := hide (Kf113.out.keep hb14)
  have Ka114 := hide (Ka113.out.keep hb14)
  have Ka214 := hide (Ka213.out.keep hb14)
  have Ka314 := hide (Ka313.out.keep hb14)
  have Ka414 := hide (Ka413.out.keep hb14)
  have ER14 := hide (ER13.out.below hb14)
  have EP14 := hide (EP13.out.keep hb14)
  have B14 := hide (B13.out.trans (hb14.mono B13.out.size))
  clear hb14 Kg13 Kf113 Ka113 Ka213 Ka313 Ka413 ER13 EP13 B13
  go_wp2_with (refine wpList_load_want (by rfl) 28 (.tmp 1) rfl g rfl 28 (aF.cs none 0 0) _ Kg14.out Try.underlying28 rfl fr_sz ?_)
  refine (HSZ.out _).mono ?_
  rintro e w15 ⟨rfl, hb15⟩
  have Kg15 := hide (Kg14.out.keep hb15)
  have Kf115 := hide (Kf114.out.keep hb15)
  have Ka115 := hide (Ka114.out.keep hb15)
  have Ka215 := hide (Ka214.out.keep hb15)
  have Ka315 := hide (Ka314.out.keep hb15)
  have Ka415 := hide (Ka414.out.keep hb15)
  have ER15 := hide (ER14.out.below hb15)
  have EP15 := hide (EP14.out.keep hb15)
  have B15 := hide (B14.out.trans (hb15.mono B14.out.size))
  clear hb15 Kg14 Kf114 Ka114 Ka214 Ka314 Ka414 ER14 EP14 B14
  go_wp2_with fail
  go_ret
  exact ⟨rfl, B15.out⟩
end Go.Proofs.Ytefdhbljcnpggaa
