/-
  Layer 15: Begin, where a stream begins (written by gen15begin.py).
-/
import Derived.Test.YtjjgnhdaaicmeaaIdBegin
import Derived.Test.YtjjgnhdaaicmeaaRegW
import Derived.BigRegion
import Derived.Deep.CutRange
import Derived.Deep.DeepCutAuto
namespace Go.Proofs.Ytjjgnhdaaicmeaa
set_option linter.unusedSimpArgs false
set_option linter.unusedVariables false
open Go.RowKit

/-- A row of numbers that a call made. -/
structure OR (w : World) (B : Nat) (A : Option Addr) (n c : Nat) (l : List Int) : Prop where
  own : w.ownsRow B 3 1 (.slice A n c) n (ncs l)
theorem OR.keep {w w' : World} {B : Nat} {A : Option Addr} {n c : Nat} {l : List Int} (h : OR w B A n c l) (hb : Below w.heap.size w w') : OR w' B A n c l := ⟨own_low h.own hb⟩
theorem OR.alloc {w : World} {B : Nat} {A : Option Addr} {n c : Nat} {l : List Int} (h : OR w B A n c l) (o : Obj) : OR (w.alloc o) B A n c l := h.keep (bel1 w o)
theorem OR.ap {w : World} {B g : Nat} {A : Option Addr} {n c : Nat} {l : List Int} (h : OR w B A n c l) (hg : g < B) : ApL g A l := by
  rcases h.own.2 with ⟨he, h0⟩ | ⟨g', cap, cur, he, hb, _⟩
  · refine .inl ?_
    have := h.own.1
    rw [h0] at this
    simpa [ncs] using this
  · injection he with e1
    exact .inr ⟨g', 0, e1, by omega⟩
/-- A table's block is no row of numbers. -/
theorem OR.row {w : World} {B x : Nat} {A : Option Addr} {n c : Nat} {l : List Int} {zs : Array Value} (h : OR w B A n c l) (hk : BlkIs w x 28 zs) (cs : Array Value) : OR (w.setRow x cs) B A n c l :=
  ⟨own_kbx h.own ((KB.refl (· = x) w).setRow (fun _ => rfl) cs) (own_apartx h.own hk (by decide))⟩
/-- A list of numbers, its length named. -/
def GivesQ (b0 q : Nat) (l : List Int) (w : World) (e : Ending) (w' : World) : Prop := (∃ A c, e = .returned (.slice A q c) ∧ OR w' b0 A q c l) ∧ Below w.heap.size w w'
theorem givesQ {b0 q : Nat} {l : List Int} {fn : FuncId} {args : Array Value} {w : World} (hq : l.length = q) (hb0 : b0 ≤ w.heap.size) (h : Calls Try.prog fn args w (GivesRow l w)) : Calls Try.prog fn args w (GivesQ b0 q l w) := h.mono fun e w' hh => by
  subst hq
  obtain ⟨A, c, rfl, ho, hb⟩ := hh
  exact ⟨⟨A, c, rfl, ⟨own_base ho hb0⟩⟩, hb⟩

set_option maxRecDepth 100000 in
set_option maxHeartbeats 6400000 in
theorem id_beg_0 (T : Tb) (A : Option Addr) (n c : Nat) (B : Option Addr) (m d : Nat) (id : Int) (w : World) (hl : TL w T A n c B m d) (hn : (n : Int) ≤ 1000) (hm : (m : Int) ≤ 1000) (hck : chkI T = 0) (hcl : clsI T id = 1) (h16 : ¬ n = 16) (hid : (Lit.int .i64 id).wf = true) :
    Calls Try.prog 14 #[.agg #[.int .i64 T.l, .slice A n c, .slice B m d], .int .i64 id] w (GivesTC T A B (⟨id, T.op ++ [id], T.cu⟩, 0) w) := by
  obtain ⟨w1, hw1⟩ : ∃ w1, w1 = w.alloc (.cells #[.int .i64 T.l, .slice A n c, .slice B m d] 28) := ⟨_, rfl⟩
  have HW1 := hide hw1
  have HX1 := hide (show BlkIs w1 w.heap.size 28 #[.int .i64 T.l, .slice A n c, .slice B m d] by rw [hw1]; exact BlkIs.new w _ _)
  have HB01 := hide (show Below w.heap.size w w1 by rw [hw1]; exact bel1 w _)
  have HZ1 := hide (show w1.heap.size = w.heap.size + 1 by rw [hw1, World.size_alloc])
  have HL1 := hide (hl.keep HB01.out)
  have HB1B := hide (bel1 w1 (.cells #[.int .i64 0, .slice none 0 0, .slice none 0 0] 28))
  have HXB := hide (HX1.out.alloc (.cells #[.int .i64 0, .slice none 0 0, .slice none 0 0] 28))
  have HGB0 := hide (BlkIs.new w1 28 #[.int .i64 0, .slice none 0 0, .slice none 0 0])
  have HLB := hide (HL1.out.keep HB1B.out)
  have HC := hide (id_Check T A n c B m d _ HLB.out (by omega) (by omega))
  have HCL := hide (fun w' (h : TL w' T A n c B m d) => id_Class T A n c B m d id w' h (by omega) (by omega))
  rw [hck] at HC
  obtain ⟨L1, hL1⟩ : ∃ L1, L1 = T.op ++ [id] := ⟨_, rfl⟩
  obtain ⟨q1, hq1⟩ : ∃ q, L1.length = q := ⟨_, rfl⟩
  obtain ⟨q2, hq2⟩ : ∃ q, T.cu.length = q := ⟨_, rfl⟩
  have HW := hide (fun w' (h : Below w1.heap.size w1 w') => givesQ hq1 h.size (hL1 ▸ id_behind A n c T.op id w' (HL1.out.op.keep h) hn hid))
  have HV := hide (fun w' (h : Below w1.heap.size w1 w') => givesQ hq2 h.size (id_Clone B m d T.cu w' (HL1.out.cu.keep h) (by omega)))
  have HL1E := hide hL1
  have HID := hide hid
  have hz := run_zero_is tb_zero
  have h16' : ¬ (n : Int) = 16 := by omega
  clear hl hn hm hck hid h16 hL1 hq1 hq2 hw1
  go_enter Try.func14, Try.ntmps14
  go_wp2_with fail
  rw [← HW1.out]
  refine HC.out.mono ?_
  rintro e w2 ⟨rfl, hb2⟩
  have HG2 := hide (HGB0.out.keep hb2)
  have HX2 := hide (HXB.out.keep hb2)
  have HB12 := hide (HB1B.out.trans (hb2.mono HB1B.out.size))
  obtain ⟨k0, k1, k2⟩ := cells3 HX2.out
  have HCD := hide (HCL.out w2 (HLB.out.keep hb2))
  rw [hcl] at HCD
  clear hb2 HC HXB HGB0 HCL HB1B HLB hcl
  go_wp2_with fail
  refine HCD.out.mono ?_
  rintro e w3 ⟨rfl, hb3⟩
  have HG3 := hide (HG2.out.keep hb3)
  have HX3 := hide (HX2.out.keep hb3)
  have HB13 := hide (HB12.out.trans (hb3.mono HB12.out.size))
  clear k0 k1 k2
  obtain ⟨k0, k1, k2⟩ := cells3 HX3.out
  clear hb3 HCD HG2 HX2 HB12
  go_upto_region 7 with (fail)
  clear k0 k1 k2
  obtain ⟨gb, hgb⟩ : ∃ gb, gb = w.heap.size := ⟨_, rfl⟩
  obtain ⟨k0, k1, k2⟩ := cells3 HX1.out
  have HGB := hide HX1.out.lt
  obtain ⟨x, hx⟩ : ∃ x, x = w1.heap.size := ⟨_, rfl⟩
  have EX0 : BlkIs w3.drew x 28 #[.int .i64 0, .slice none 0 0, .slice none 0 0] := by rw [hx]; exact HG3.out
  have Mx : w1.heap.size ≤ x := by rw [hx]; exact Nat.le_refl _
  rw [← hgb] at k0 k1 k2 HGB ⊢
  rw [show gb + 1 = x by rw [hx, hgb]; exact HZ1.out.symm]
  clear HG3 HX3 hgb hx HX1 HZ1 HW1 h16'
  refine wp_region_noPanic ?_
  refine wp_region_held_drew (S := fun w' => Below w1.heap.size w1 w') (by kernel_rfl) HB13.out.drew (fun hS => ?_)
  generalize w3.drew = wd at hS EX0 ⊢
  refine wpAnyH_take (i := 0) (v := ?_) (by simp only [List.getElem?_toArray, List.getElem?_cons_succ, List.getElem?_cons_zero] <;> exact rfl) (by kernel_rfl) (by kernel_rfl) (by kernel_rfl) (fun _ _ _ h => h) (Or.inl ⟨by rfl, ?_⟩) hS ?_
  rotate_left
  focus (intro w' hw'; go_simp; all_goals with_reducible rfl)
  try simp only [Act.put, List.setIfInBounds_toArray, List.set_cons_zero, List.set_cons_succ]
  refine wpAnyH_take (i := 1) (v := ?_) (by simp only [List.getElem?_toArray, List.getElem?_cons_succ, List.getElem?_cons_zero] <;> exact rfl) (by kernel_rfl) (by kernel_rfl) (by kernel_rfl) (fun _ _ _ h => h) (Or.inl ⟨by rfl, ?_⟩) hS ?_
  rotate_left
  focus (intro w' hw'; go_simp; all_goals with_reducible rfl)
  try simp only [Act.put, List.setIfInBounds_toArray, List.set_cons_zero, List.set_cons_succ]
  refine wpAnyH_take (i := 2) (v := ?_) (by simp only [List.getElem?_toArray, List.getElem?_cons_succ, List.getElem?_cons_zero] <;> exact rfl) (by kernel_rfl) (by kernel_rfl) (by kernel_rfl) (fun _ _ _ h => h) (Or.inl ⟨by rfl, ?_⟩) hS ?_
  rotate_left
  focus (intro w' hw'; have kk := (hw'.cell (p := ⟨gb, 1, none⟩) HGB.out).trans k1; go_simp; all_goals with_reducible rfl)
  try simp only [Act.put, List.setIfInBounds_toArray, List.set_cons_zero, List.set_cons_succ]
  refine wpAnyH_take (i := 3) (v := ?_) (by simp only [List.getElem?_toArray, List.getElem?_cons_succ, List.getElem?_cons_zero] <;> exact rfl) (by kernel_rfl) (by kernel_rfl) (by kernel_rfl) (fun _ _ _ h => h) (Or.inl ⟨by rfl, ?_⟩) hS ?_
  rotate_left
  focus (intro w' hw'; go_simp; all_goals with_reducible rfl)
  try simp only [Act.put, List.setIfInBounds_toArray, List.set_cons_zero, List.set_cons_succ]
  refine wpAnyH_take (i := 5) (v := ?_) (by simp only [List.getElem?_toArray, List.getElem?_cons_succ, List.getElem?_cons_zero] <;> exact rfl) (by kernel_rfl) (by kernel_rfl) (by kernel_rfl) (fun _ _ _ h => h) (Or.inl ⟨by rfl, ?_⟩) hS ?_
  rotate_left
  focus (intro w' hw'; go_simp; all_goals with_reducible rfl)
  try simp only [Act.put, List.setIfInBounds_toArray, List.set_cons_zero, List.set_cons_succ]
  refine wpAnyH_take (i := 6) (v := ?_) (by simp only [List.getElem?_toArray, List.getElem?_cons_succ, List.getElem?_cons_zero] <;> exact rfl) (by kernel_rfl) (by kernel_rfl) (by kernel_rfl) (fun _ _ _ h => h) (Or.inl ⟨by rfl, ?_⟩) hS ?_
  rotate_left
  focus (intro w' hw'; have kk := (hw'.cell (p := ⟨gb, 2, none⟩) HGB.out).trans k2; go_simp; all_goals with_reducible rfl)
  try simp only [Act.put, List.setIfInBounds_toArray, List.set_cons_zero, List.set_cons_succ]
  refine wpAnyH_ready (rs := [4]) (by kernel_rfl) (by simp) ?_
  refine AllReadyH.cons (o := _) (by simp only [List.getElem?_toArray, List.getElem?_cons_succ, List.getElem?_cons_zero] <;> exact rfl) (fun K hK => ?_) ?_
  focus (
    go_simp
    go_at_call 28
    refine (HW.out _ hS).mono ?_
    rintro e wr1 ⟨⟨A1, c1, rfl, o1⟩, hb⟩
    have hS := hS.trans (hb.mono hS.size)
    have Ex1 := EX0.keep hb
    clear hb
    go_wp2_with fail
    refine hK.out _ _ hS (fun _ => ?_)
    clear hK K
    try simp only [Act.put, List.setIfInBounds_toArray, List.set_cons_zero, List.set_cons_succ]
    refine wpAnyH_ready (rs := [7]) (by kernel_rfl) (by simp) ?_
    refine AllReadyH.cons (o := _) (by simp only [List.getElem?_toArray, List.getElem?_cons_succ, List.getElem?_cons_zero] <;> exact rfl) (fun K hK => ?_) ?_
    focus (
      go_simp
      go_at_call 27
      refine (HV.out _ hS).mono ?_
      rintro e wr2 ⟨⟨B1, c2, rfl, o2⟩, hb⟩
      have hS := hS.trans (hb.mono hS.size)
      have Ex2 := Ex1.keep hb
      have Eo12 := o1.keep hb
      clear hb
      go_wp2_with fail
      refine hK.out _ _ hS (fun _ => ?_)
      clear hK K
      try simp only [Act.put, List.setIfInBounds_toArray, List.set_cons_zero, List.set_cons_succ]
      refine wpAnyH_take (i := 8) (v := ?_) (by simp only [List.getElem?_toArray, List.getElem?_cons_succ, List.getElem?_cons_zero] <;> exact rfl) (by kernel_rfl) (by kernel_rfl) (by kernel_rfl) (fun _ _ _ h => h) (Or.inl ⟨by rfl, ?_⟩) hS ?_
      rotate_left
      focus (intro w' hw'; go_simp; all_goals with_reducible rfl)
      try simp only [Act.put, List.setIfInBounds_toArray, List.set_cons_zero, List.set_cons_succ]
      refine wpAnyH_ready (rs := [9]) (by kernel_rfl) (by simp) ?_
      refine AllReadyH.cons (o := _) (by simp only [List.getElem?_toArray, List.getElem?_cons_succ, List.getElem?_cons_zero] <;> exact rfl) (fun K hK => ?_) ?_
      focus (
        refine rgs_store_blk (by rfl) 28 (.tmp 4) (.tmp 31) (by rfl) x #[.int .i64 id, .slice A1 q1 c1, .slice B1 q2 c2] #[.int .i64 0, .slice none 0 0, .slice none 0 0] 28 (by rfl) (by rfl) Ex2 tb_size rfl (tb_one id A1 B1 q1 c1 q2 c2) ?_
        have hS := below_setRow hS Mx #[.int .i64 id, .slice A1 q1 c1, .slice B1 q2 c2]
        have Ex3 := Ex2.row #[.int .i64 id, .slice A1 q1 c1, .slice B1 q2 c2]
        have Eo13 := Eo12.row Ex2 #[.int .i64 id, .slice A1 q1 c1, .slice B1 q2 c2]
        have Eo23 := o2.row Ex2 #[.int .i64 id, .slice A1 q1 c1, .slice B1 q2 c2]
        refine hK.out _ _ hS (fun _ => ?_)
        generalize wr2.setRow x #[.int .i64 id, .slice A1 q1 c1, .slice B1 q2 c2] = ws3 at hS Ex3 Eo13 Eo23 ⊢
        clear hK K
        try simp only [Act.put, List.setIfInBounds_toArray, List.set_cons_zero, List.set_cons_succ]
        refine wpAnyH_take (i := 10) (v := ?_) (by simp only [List.getElem?_toArray, List.getElem?_cons_succ, List.getElem?_cons_zero] <;> exact rfl) (by kernel_rfl) (by kernel_rfl) (by kernel_rfl) (fun _ _ _ h => h) (Or.inl ⟨by rfl, ?_⟩) hS ?_
        rotate_left
        focus (intro w' hw'; go_simp; all_goals with_reducible rfl)
        try simp only [Act.put, List.setIfInBounds_toArray, List.set_cons_zero, List.set_cons_succ]
        refine wpAnyH_done (by kernel_rfl) ?_ _
        refine NoPanic.normal ?_
        go_wp2
        exact bodyPost_ret (results_tbc rfl _ _ x _ _ _ rfl Ex3 (.int .u32 0) rfl) rfl ⟨A1, q1, c1, B1, q2, c2, rfl, ⟨nl_own (HL1E.out ▸ Eo13.own) (all_snoc HL1.out.op.all HID.out), nl_own Eo23.own HL1.out.cu.all⟩, HB01.out.trans (hS.mono HB01.out.size), fun g hg _ => ⟨HL1E.out ▸ Eo13.ap (Nat.lt_of_lt_of_le hg HB01.out.size), Eo23.ap (Nat.lt_of_lt_of_le hg HB01.out.size)⟩⟩)
      exact AllReadyH.nil)
    exact AllReadyH.nil)
  exact AllReadyH.nil
end Go.Proofs.Ytjjgnhdaaicmeaa
