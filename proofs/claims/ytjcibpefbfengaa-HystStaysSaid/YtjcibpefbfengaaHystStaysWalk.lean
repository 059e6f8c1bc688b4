/-
  HystStays: its walk.
-/
import Derived.Test.YtjcibpefbfengaaHystStaysMath
import Derived.Test.YtjcibpefbfengaaHyAwake
import Derived.BigGuardPart
import Derived.Deep.QuietTactic
import Derived.BigQuiet
import Derived.Deep.CutRange
import Derived.Deep.DeepCutAuto
namespace Go.Proofs.Ytjcibpefbfengaa.hystStays
set_option linter.unusedSimpArgs false
set_option linter.unusedVariables false
open Go.RowKit

/-- What the walk knows of memory: the argument's block, the controller's variable. -/
structure SS (w : World) (g : Nat) (x : Hy) (wr : World) (y : Hy) : Prop where
  rf : BlkIs wr g 28 x.cs
  x : BlkIs wr (g + 1) 24 y.cs
  bel : Below g w wr
theorem SS.keep {w wr wr' : World} {g : Nat} {x y : Hy} (h : SS w g x wr y) (hb : Below wr.heap.size wr wr') : SS w g x wr' y :=
  ⟨h.rf.keep hb, h.x.keep hb, h.bel.trans (hb.mono (Nat.le_of_lt h.rf.lt))⟩
theorem SS.put {w wr : World} {g : Nat} {x y : Hy} (h : SS w g x wr y) (z : Hy) : SS w g x (wr.setRow (g + 1) z.cs) z :=
  ⟨h.rf.row_other (by omega) _, h.x.row _, below_setRow h.bel (by omega) _⟩
/-- What stands of the numbers at the head of round i: s looks since it rose. -/
structure IS (x y : Hy) (s : Int) (i : Nat) : Prop where
  ok : y.Ok
  q : y.q = x.q
  calm : y.c ≤ s
  low : 0 ≤ s
  high : s ≤ x.q + i
/-- A controller in a new variable. -/
def NewH (w : World) (z : Hy) (s : Value) (wx : World) : Prop := ∃ gy, s = .pointer (some ⟨gy, 0, none⟩) ∧ BlkIs wx gy 24 z.cs ∧ Below w.heap.size w wx

set_option maxRecDepth 100000 in
set_option maxHeartbeats 6400000 in
theorem walk_at (x : Hy) (A : Option Addr) (N c : Nat) (G : List Int) (w : World) (hl : NL .i64 w A N c G) :
    Calls Try.prog 4 #[.agg x.cs, .slice A N c] w fun e w' => e = .returned (.bool true) ∧ Below w.heap.size w w' := by
  have HAW := hide aw_hyst
  have HCK := hide (fun w => hy_Check x w)
  obtain ⟨g, hg⟩ : ∃ g, g = w.heap.size := ⟨_, rfl⟩
  have HL := hide hg.symm
  obtain ⟨W0, hW0⟩ : ∃ W0, w.alloc (.cells x.cs 28) = W0 := ⟨_, rfl⟩
  have HW0 := hide hW0
  have HR0 := hide (show BlkIs W0 g 28 x.cs by rw [← hW0, hg]; exact BlkIs.new w _ _)
  have HL1 := hide (show W0.heap.size = g + 1 by rw [← hW0, hg]; simp)
  obtain ⟨W, hW⟩ : ∃ W, W0.alloc (.cells x.cs 24) = W := ⟨_, rfl⟩
  have HW := hide hW
  have HS := hide (show SS w g x W x from ⟨by rw [← hW]; exact HR0.out.alloc _, by rw [← hW, ← HL1.out]; exact BlkIs.new W0 _ _, by rw [← hW, ← hW0, hg]; exact bel2 w _ _⟩)
  have HG := hide hl
  clear hg hW hW0 hl
  by_cases hN : 100 < (N : Int)
  · go_enter Try.func4, Try.ntmps4
    go_upto_region 1 with (fail)
    rw [HL.out]
    rw [HW0.out]
    go_upto_region 2 with (first | (refine wpList_load_blk rfl 28 (.tmp 2) rfl g rfl 28 x.cs _ HR0.out Try.underlying28 rfl rh_size ?_) | (refine wpList_store_new rfl 24 (.tmp 5) (.tmp 11) rfl x.cs _ 24 rfl rfl hy_size rfl (Hy.cs_one x) ?_))
    rw [HL1.out]
    rw [HW.out]
    go_wp2_with fail
    refine (HAW.out _).mono ?_
    rintro e w9 ⟨rfl, hb⟩
    have HB9 := hide (HS.out.bel.trans (hb.mono (by have := HS.out.rf.lt; omega)))
    clear hb
    go_wp2
    go_ret
    exact ⟨rfl, by rw [HL.out]; exact HB9.out⟩
  · have hN' : decide (100 < (N : Int)) = false := by rw [decide_eq_false_iff_not]; exact hN
    have hN6 : N ≤ 100 := by omega
    clear hN
    cases hok : okH x with
    | false =>
      rw [chkH_no hok] at HCK
      clear hok
      go_enter Try.func4, Try.ntmps4
      go_upto_region 1 with (fail)
      rw [HL.out]
      rw [HW0.out]
      go_upto_region 2 with (first | (refine wpList_load_blk rfl 28 (.tmp 2) rfl g rfl 28 x.cs _ HR0.out Try.underlying28 rfl rh_size ?_) | (refine wpList_store_new rfl 24 (.tmp 5) (.tmp 11) rfl x.cs _ 24 rfl rfl hy_size rfl (Hy.cs_one x) ?_))
      rw [HL1.out]
      rw [HW.out]
      go_wp2_with (refine rgs_load_want (by rfl) 24 (.tmp 5) rfl (g + 1) rfl 24 x.cs _ HS.out.x Try.underlying24 rfl hy_size ?_)
      refine (HCK.out _).mono ?_
      rintro e W1 ⟨rfl, hb⟩
      have HS1 := hide (HS.out.keep hb)
      clear hb HS
      have HS := hide HS1.out
      clear HS1
      go_wp2_with fail
      refine (HAW.out _).mono ?_
      rintro e w9 ⟨rfl, hb⟩
      have HB9 := hide (HS.out.bel.trans (hb.mono (by have := HS.out.rf.lt; omega)))
      clear hb
      go_wp2
      go_ret
      exact ⟨rfl, by rw [HL.out]; exact HB9.out⟩
    | true =>
      rw [chkH_yes hok] at HCK
      have ho := okH_iff.1 hok
      have hq0 : 1 ≤ x.q := ho.2.2.2.2.2.2.2.2.1
      have hq1 : x.q ≤ 1000 := ho.2.2.2.2.2.2.2.2.2.1
      have HI0 := hide (show IS x x x.q 0 from ⟨ho, rfl, by have := ho.2.2.2.2.2.2.2.2.2.2.2; omega, by omega, by omega⟩)
      clear hok ho
      go_enter Try.func4, Try.ntmps4
      go_upto_region 1 with (fail)
      rw [HL.out]
      rw [HW0.out]
      go_upto_region 2 with (first | (refine wpList_load_blk rfl 28 (.tmp 2) rfl g rfl 28 x.cs _ HR0.out Try.underlying28 rfl rh_size ?_) | (refine wpList_store_new rfl 24 (.tmp 5) (.tmp 11) rfl x.cs _ 24 rfl rfl hy_size rfl (Hy.cs_one x) ?_))
      rw [HL1.out]
      rw [HW.out]
      go_wp2_with (refine rgs_load_want (by rfl) 24 (.tmp 5) rfl (g + 1) rfl 24 x.cs _ HS.out.x Try.underlying24 rfl hy_size ?_)
      refine (HCK.out _).mono ?_
      rintro e W1 ⟨rfl, hb⟩
      have HS1 := hide (HS.out.keep hb)
      clear hb HS
      have HS := hide HS1.out
      clear HS1
      clear HCK
      obtain ⟨x0, x1, x2, x3, x4, x5, x6⟩ := cells7 HS.out.rf
      clear x0 x1 x2 x3 x4 x6
      go_wp2_with fail
      clear x5
      go_loopw [6, 7] (fun s6 s7 wr => ∃ (i : Nat) (y : Hy) (s : Int), i ≤ N ∧ s7 = .int .i64 (i : Int) ∧ s6 = .int .i64 s ∧ Hid (SS w g x wr y) ∧ Hid (IS x y s i)) (fun _ s7 _ => N - (intOf s7).toNat)
      case atStart => exact ⟨0, x, x.q, by omega, rfl, rfl, HS.out, HI0.out⟩
      case round =>
        clear HS HI0
        obtain ⟨i, y, s, hi, rfl, rfl, HS, HI⟩ := hrel
        by_cases hlt : i < N
        · have hlt' : (i : Int) < (N : Int) := by omega
          obtain ⟨k, b, off, hx, rfl, hbl, c0, hdw⟩ := HG.out.round hlt
          have e0 := (HS.out.bel.cell (p := ⟨b, off + i, none⟩) (by rw [← HL.out]; exact hbl)).trans c0
          have HBW := hide (show b < wr.heap.size from Nat.lt_of_lt_of_le hbl (by have := HS.out.bel.size; have := HS.out.rf.lt; have := HL.out; omega))
          have E0 := hide e0
          obtain ⟨lk0, lk⟩ := look_is k HI.out.ok
          obtain ⟨z, hz⟩ : ∃ z, z = stpH y k := ⟨_, rfl⟩
          obtain ⟨ch, hch⟩ : ∃ ch, ch = chgB y k := ⟨_, rfl⟩
          obtain ⟨zn, hzn⟩ : ∃ zn, zn = zonI y k := ⟨_, rfl⟩
          have QS := hide (fun w => hy_See y k w)
          have QZ := hide (fun w => hy_Zone y k w)
          have QC := hide (fun w => hy_Check z w)
          have HZO := hide (show z.Ok by rw [hz]; exact stp_ok k HI.out.ok)
          have HZQ := hide (show z.q = x.q by rw [hz]; exact (stp_same y k).2.2.2.2.trans HI.out.q)
          rw [chkH_yes (okH_iff.2 HZO.out)] at QC
          rw [← hz, ← hch] at QS
          rw [← hzn] at QZ
          rw [← hz] at lk0
          rw [← hz, ← hch, ← hzn] at lk
          have LK0 := hide lk0
          have LK := hide lk
          clear lk lk0 hz hch hzn c0 hx hdw e0
          have HX := hide HS.out.x
          have hi6 : (i : Int) ≤ 100 := by omega
          have hs0 := HI.out.low
          have hs1 : s ≤ x.q + i := HI.out.high
          go_upto_region 8 with (fail)
          go_cut [8, 9] from 29 to 37 (fun s8 s9 wx => s9 = .bool ch ∧ NewH wr z s8 wx)
          case first =>
            refine wp_region_noPanic ?_
            refine wp_region_held_drew (S := fun w' => Below wr.heap.size wr w') (by kernel_rfl) (Below.refl _ _).drew (fun hS => ?_)
            generalize wr.drew = wd at hS  ⊢
            refine wpAnyH_take (i := 0) (by simp only [List.getElem?_toArray, List.getElem?_cons_zero] <;> exact rfl) (by kernel_rfl) (by kernel_rfl) (by kernel_rfl) (fun _ _ _ h => h) (rgs_yields_blk (by rfl) 24 (.tmp 5) (by rfl) (g + 1) (by rfl) 24 y.cs _ (fun w' hw' => HX.out.keep hw') Try.underlying24 rfl hy_size) hS ?_
            try simp only [Act.put, List.setIfInBounds_toArray, List.set_cons_zero, List.set_cons_succ]
            refine wpAnyH_take (i := 1) (v := ?_) (by simp only [List.getElem?_toArray, List.getElem?_cons_succ, List.getElem?_cons_zero] <;> exact rfl) (by kernel_rfl) (by kernel_rfl) (by kernel_rfl) (fun _ _ _ h => h) (Or.inl ⟨by rfl, ?_⟩) hS ?_
            rotate_left
            focus (intro w' hw'; go_simp; all_goals with_reducible rfl)
            try simp only [Act.put, List.setIfInBounds_toArray, List.set_cons_zero, List.set_cons_succ]
            refine wpAnyH_take (i := 2) (v := ?_) (by simp only [List.getElem?_toArray, List.getElem?_cons_succ, List.getElem?_cons_zero] <;> exact rfl) (by kernel_rfl) (by kernel_rfl) (by kernel_rfl) (fun _ _ _ h => h) (Or.inl ⟨by rfl, ?_⟩) hS ?_
            rotate_left
            focus (intro w' hw'; go_simp; all_goals with_reducible rfl)
            try simp only [Act.put, List.setIfInBounds_toArray, List.set_cons_zero, List.set_cons_succ]
            refine wpAnyH_take (i := 3) (v := ?_) (by simp only [List.getElem?_toArray, List.getElem?_cons_succ, List.getElem?_cons_zero] <;> exact rfl) (by kernel_rfl) (by kernel_rfl) (by kernel_rfl) (fun _ _ _ h => h) (Or.inl ⟨by rfl, ?_⟩) hS ?_
            rotate_left
            focus (intro w' hw'; go_simp; all_goals with_reducible rfl)
            try simp only [Act.put, List.setIfInBounds_toArray, List.set_cons_zero, List.set_cons_succ]
            refine wpAnyH_take (i := 4) (v := ?_) (by simp only [List.getElem?_toArray, List.getElem?_cons_succ, List.getElem?_cons_zero] <;> exact rfl) (by kernel_rfl) (by kernel_rfl) (by kernel_rfl) (fun _ _ _ h => h) (Or.inl ⟨by rfl, ?_⟩) hS ?_
            rotate_left
            focus (intro w' hw'; have kk := (hw'.cell (p := ⟨b, off + i, none⟩) HBW.out).trans E0.out; go_simp; all_goals with_reducible rfl)
            try simp only [Act.put, List.setIfInBounds_toArray, List.set_cons_zero, List.set_cons_succ]
            refine wpAnyH_ready (rs := [5, 9]) (by kernel_rfl) (by simp) ?_
            refine AllReadyH.cons (o := _) (by simp only [List.getElem?_toArray, List.getElem?_cons_succ, List.getElem?_cons_zero] <;> exact rfl) (fun K hK => ?_) ?_
            focus (
              go_simp
              go_at_call 10
              refine (QS.out _).mono ?_
              rintro e wr1 ⟨rfl, hb⟩
              have hS := hS.trans (hb.mono hS.size)
              clear hb
              go_wp2_with fail
              refine hK.out _ _ hS (fun _ => ?_)
              clear hK K
              try simp only [Act.put, List.setIfInBounds_toArray, List.set_cons_zero, List.set_cons_succ]
              refine wpAnyH_take (i := 6) (v := ?_) (by simp only [List.getElem?_toArray, List.getElem?_cons_succ, List.getElem?_cons_zero] <;> exact rfl) (by kernel_rfl) (by kernel_rfl) (by kernel_rfl) (fun _ _ _ h => h) (Or.inl ⟨by rfl, ?_⟩) hS ?_
              rotate_left
              focus (intro w' hw'; go_simp; all_goals with_reducible rfl)
              try simp only [Act.put, List.setIfInBounds_toArray, List.set_cons_zero, List.set_cons_succ]
              refine wpAnyH_take (i := 7) (v := ?_) (by simp only [List.getElem?_toArray, List.getElem?_cons_succ, List.getElem?_cons_zero] <;> exact rfl) (by kernel_rfl) (by kernel_rfl) (by kernel_rfl) (fun _ _ _ h => h) (Or.inl ⟨by rfl, ?_⟩) hS ?_
              rotate_left
              focus (intro w' hw'; go_simp; all_goals with_reducible rfl)
              try simp only [Act.put, List.setIfInBounds_toArray, List.set_cons_zero, List.set_cons_succ]
              refine wpAnyH_take (i := 8) (v := ?_) (by simp only [List.getElem?_toArray, List.getElem?_cons_succ, List.getElem?_cons_zero] <;> exact rfl) (by kernel_rfl) (by kernel_rfl) (by kernel_rfl) (fun _ _ _ h => h) (Or.inl ⟨by rfl, ?_⟩) hS ?_
              rotate_left
              focus (intro w' hw'; go_simp; all_goals with_reducible rfl)
              try simp only [Act.put, List.setIfInBounds_toArray, List.set_cons_zero, List.set_cons_succ]
              refine wpAnyH_ready (rs := [9]) (by kernel_rfl) (by simp) ?_
              refine AllReadyH.cons (o := _) (by simp only [List.getElem?_toArray, List.getElem?_cons_succ, List.getElem?_cons_zero] <;> exact rfl) (fun K hK => ?_) ?_
              focus (
                go_simp
                have hz2 := hS.size
                have hS := hS.alloc hS.size (.cells #[.int .i64 0, .int .i64 0, .int .i64 0, .int .i64 0, .int .i64 0, .int .i64 0, .int .i64 0] 24)
                refine hK.out _ _ hS (fun _ => ?_)
                have Ey'2 := BlkIs.new wr1 24 #[.int .i64 0, .int .i64 0, .int .i64 0, .int .i64 0, .int .i64 0, .int .i64 0, .int .i64 0]
                obtain ⟨y', hy'⟩ : ∃ g, g = wr1.heap.size := ⟨_, rfl⟩
                have My' : wr.heap.size ≤ y' := by rw [hy']; exact hz2
                rw [← hy'] at Ey'2 ⊢
                generalize wr1.alloc (.cells #[.int .i64 0, .int .i64 0, .int .i64 0, .int .i64 0, .int .i64 0, .int .i64 0, .int .i64 0] 24) = wa2 at hS Ey'2 ⊢
                clear hy' hz2
                clear hK K
                try simp only [Act.put, List.setIfInBounds_toArray, List.set_cons_zero, List.set_cons_succ]
                refine wpAnyH_ready (rs := [10]) (by kernel_rfl) (by simp) ?_
                refine AllReadyH.cons (o := _) (by simp only [List.getElem?_toArray, List.getElem?_cons_succ, List.getElem?_cons_zero] <;> exact rfl) (fun K hK => ?_) ?_
                focus (
                  refine rgs_store_blk (by rfl) 24 (.tmp 8) (.tmp 36) (by rfl) y' z.cs #[.int .i64 0, .int .i64 0, .int .i64 0, .int .i64 0, .int .i64 0, .int .i64 0, .int .i64 0] 24 (by rfl) (by rfl) Ey'2 hy_size rfl (Hy.cs_one z) ?_
                  have hS := below_setRow hS My' z.cs
                  have Ey'3 := Ey'2.row z.cs
                  refine hK.out _ _ hS (fun _ => ?_)
                  generalize wa2.setRow y' z.cs = ws3 at hS Ey'3 ⊢
                  clear hK K
                  try simp only [Act.put, List.setIfInBounds_toArray, List.set_cons_zero, List.set_cons_succ]
                  refine wpAnyH_take (i := 11) (v := ?_) (by simp only [List.getElem?_toArray, List.getElem?_cons_succ, List.getElem?_cons_zero] <;> exact rfl) (by kernel_rfl) (by kernel_rfl) (by kernel_rfl) (fun _ _ _ h => h) (Or.inl ⟨by rfl, ?_⟩) hS ?_
                  rotate_left
                  focus (intro w' hw'; go_simp; all_goals with_reducible rfl)
                  try simp only [Act.put, List.setIfInBounds_toArray, List.set_cons_zero, List.set_cons_succ]
                  refine wpAnyH_done (by kernel_rfl) ?_ _
                  refine NoPanic.normal ?_
                  go_wp2_with fail
                  go_meet
                  exact ⟨rfl, y', rfl, Ey'3, hS⟩)
                exact AllReadyH.nil)
              exact AllReadyH.nil)
            refine AllReadyH.cons (o := _) (by simp only [List.getElem?_toArray, List.getElem?_cons_succ, List.getElem?_cons_zero] <;> exact rfl) (fun K hK => ?_) ?_
            focus (
              go_simp
              have hz4 := hS.size
              have hS := hS.alloc hS.size (.cells #[.int .i64 0, .int .i64 0, .int .i64 0, .int .i64 0, .int .i64 0, .int .i64 0, .int .i64 0] 24)
              refine hK.out _ _ hS (fun _ => ?_)
              have Ey'4 := BlkIs.new wd 24 #[.int .i64 0, .int .i64 0, .int .i64 0, .int .i64 0, .int .i64 0, .int .i64 0, .int .i64 0]
              obtain ⟨y', hy'⟩ : ∃ g, g = wd.heap.size := ⟨_, rfl⟩
              have My' : wr.heap.size ≤ y' := by rw [hy']; exact hz4
              rw [← hy'] at Ey'4 ⊢
              generalize wd.alloc (.cells #[.int .i64 0, .int .i64 0, .int .i64 0, .int .i64 0, .int .i64 0, .int .i64 0, .int .i64 0] 24) = wa4 at hS Ey'4 ⊢
              clear hy' hz4
              clear hK K
              try simp only [Act.put, List.setIfInBounds_toArray, List.set_cons_zero, List.set_cons_succ]
              refine wpAnyH_ready (rs := [5]) (by kernel_rfl) (by simp) ?_
              refine AllReadyH.cons (o := _) (by simp only [List.getElem?_toArray, List.getElem?_cons_succ, List.getElem?_cons_zero] <;> exact rfl) (fun K hK => ?_) ?_
              focus (
                go_simp
                go_at_call 10
                refine (QS.out _).mono ?_
                rintro e wr5 ⟨rfl, hb⟩
                have hS := hS.trans (hb.mono hS.size)
                have Ey'5 := Ey'4.keep hb
                clear hb
                go_wp2_with fail
                refine hK.out _ _ hS (fun _ => ?_)
                clear hK K
                try simp only [Act.put, List.setIfInBounds_toArray, List.set_cons_zero, List.set_cons_succ]
                refine wpAnyH_take (i := 6) (v := ?_) (by simp only [List.getElem?_toArray, List.getElem?_cons_succ, List.getElem?_cons_zero] <;> exact rfl) (by kernel_rfl) (by kernel_rfl) (by kernel_rfl) (fun _ _ _ h => h) (Or.inl ⟨by rfl, ?_⟩) hS ?_
                rotate_left
                focus (intro w' hw'; go_simp; all_goals with_reducible rfl)
                try simp only [Act.put, List.setIfInBounds_toArray, List.set_cons_zero, List.set_cons_succ]
                refine wpAnyH_take (i := 7) (v := ?_) (by simp only [List.getElem?_toArray, List.getElem?_cons_succ, List.getElem?_cons_zero] <;> exact rfl) (by kernel_rfl) (by kernel_rfl) (by kernel_rfl) (fun _ _ _ h => h) (Or.inl ⟨by rfl, ?_⟩) hS ?_
                rotate_left
                focus (intro w' hw'; go_simp; all_goals with_reducible rfl)
                try simp only [Act.put, List.setIfInBounds_toArray, List.set_cons_zero, List.set_cons_succ]
                refine wpAnyH_take (i := 8) (v := ?_) (by simp only [List.getElem?_toArray, List.getElem?_cons_succ, List.getElem?_cons_zero] <;> exact rfl) (by kernel_rfl) (by kernel_rfl) (by kernel_rfl) (fun _ _ _ h => h) (Or.inl ⟨by rfl, ?_⟩) hS ?_
                rotate_left
                focus (intro w' hw'; go_simp; all_goals with_reducible rfl)
                try simp only [Act.put, List.setIfInBounds_toArray, List.set_cons_zero, List.set_cons_succ]
                refine wpAnyH_ready (rs := [10]) (by kernel_rfl) (by simp) ?_
                refine AllReadyH.cons (o := _) (by simp only [List.getElem?_toArray, List.getElem?_cons_succ, List.getElem?_cons_zero] <;> exact rfl) (fun K hK => ?_) ?_
                focus (
                  refine rgs_store_blk (by rfl) 24 (.tmp 8) (.tmp 36) (by rfl) y' z.cs #[.int .i64 0, .int .i64 0, .int .i64 0, .int .i64 0, .int .i64 0, .int .i64 0, .int .i64 0] 24 (by rfl) (by rfl) Ey'5 hy_size rfl (Hy.cs_one z) ?_
                  have hS := below_setRow hS My' z.cs
                  have Ey'6 := Ey'5.row z.cs
                  refine hK.out _ _ hS (fun _ => ?_)
                  generalize wr5.setRow y' z.cs = ws6 at hS Ey'6 ⊢
                  clear hK K
                  try simp only [Act.put, List.setIfInBounds_toArray, List.set_cons_zero, List.set_cons_succ]
                  refine wpAnyH_take (i := 11) (v := ?_) (by simp only [List.getElem?_toArray, List.getElem?_cons_succ, List.getElem?_cons_zero] <;> exact rfl) (by kernel_rfl) (by kernel_rfl) (by kernel_rfl) (fun _ _ _ h => h) (Or.inl ⟨by rfl, ?_⟩) hS ?_
                  rotate_left
                  focus (intro w' hw'; go_simp; all_goals with_reducible rfl)
                  try simp only [Act.put, List.setIfInBounds_toArray, List.set_cons_zero, List.set_cons_succ]
                  refine wpAnyH_done (by kernel_rfl) ?_ _
                  refine NoPanic.normal ?_
                  go_wp2_with fail
                  go_meet
                  exact ⟨rfl, y', rfl, Ey'6, hS⟩)
                exact AllReadyH.nil)
              exact AllReadyH.nil)
            exact AllReadyH.nil
          case rest =>
            obtain ⟨rfl, gy, rfl, hy, hb⟩ := hcut
            have HS1 := hide (HS.out.keep hb)
            have HY := hide hy
            have HBW2 := hide (Nat.lt_of_lt_of_le HBW.out hb.size)
            have E2 := hide ((hb.cell (p := ⟨b, off + i, none⟩) HBW.out).trans E0.out)
            clear hb hy HS HX QS
            have HX2 := hide HS1.out.x
            generalize wc = w2 at *
            go_upto_region 10 with (fail)
            refine wp_region_noPanic ?_
            refine wp_region_held_drew (S := fun w' => Below w2.heap.size w2 w') (by kernel_rfl) (Below.refl _ _).drew (fun hS => ?_)
            generalize w2.drew = wd at hS ⊢
            refine wpAnyH_take (i := 0) (by simp only [List.getElem?_toArray, List.getElem?_cons_zero] <;> exact rfl) (by kernel_rfl) (by kernel_rfl) (by kernel_rfl) (fun _ _ _ h => h) (rgs_yields_blk (by rfl) 24 (.tmp 5) (by rfl) (g + 1) (by rfl) 24 y.cs _ (fun w' hw' => HX2.out.keep hw') Try.underlying24 rfl hy_size) hS ?_
            try simp only [Act.put, List.setIfInBounds_toArray, List.set_cons_zero, List.set_cons_succ]
            refine wpAnyH_take (i := 1) (v := ?_) (by simp only [List.getElem?_toArray, List.getElem?_cons_succ, List.getElem?_cons_zero] <;> exact rfl) (by kernel_rfl) (by kernel_rfl) (by kernel_rfl) (fun _ _ _ h => h) (Or.inl ⟨by rfl, ?_⟩) hS ?_
            rotate_left
            focus (intro w' hw'; go_simp; all_goals with_reducible rfl)
            try simp only [Act.put, List.setIfInBounds_toArray, List.set_cons_zero, List.set_cons_succ]
            refine wpAnyH_take (i := 2) (v := ?_) (by simp only [List.getElem?_toArray, List.getElem?_cons_succ, List.getElem?_cons_zero] <;> exact rfl) (by kernel_rfl) (by kernel_rfl) (by kernel_rfl) (fun _ _ _ h => h) (Or.inl ⟨by rfl, ?_⟩) hS ?_
            rotate_left
            focus (intro w' hw'; go_simp; all_goals with_reducible rfl)
            try simp only [Act.put, List.setIfInBounds_toArray, List.set_cons_zero, List.set_cons_succ]
            refine wpAnyH_take (i := 3) (v := ?_) (by simp only [List.getElem?_toArray, List.getElem?_cons_succ, List.getElem?_cons_zero] <;> exact rfl) (by kernel_rfl) (by kernel_rfl) (by kernel_rfl) (fun _ _ _ h => h) (Or.inl ⟨by rfl, ?_⟩) hS ?_
            rotate_left
            focus (intro w' hw'; go_simp; all_goals with_reducible rfl)
            try simp only [Act.put, List.setIfInBounds_toArray, List.set_cons_zero, List.set_cons_succ]
            refine wpAnyH_take (i := 4) (v := ?_) (by simp only [List.getElem?_toArray, List.getElem?_cons_succ, List.getElem?_cons_zero] <;> exact rfl) (by kernel_rfl) (by kernel_rfl) (by kernel_rfl) (fun _ _ _ h => h) (Or.inl ⟨by rfl, ?_⟩) hS ?_
            rotate_left
            focus (intro w' hw'; have kk := (hw'.cell (p := ⟨b, off + i, none⟩) HBW2.out).trans E2.out; go_simp; all_goals with_reducible rfl)
            try simp only [Act.put, List.setIfInBounds_toArray, List.set_cons_zero, List.set_cons_succ]
            refine wpAnyH_ready (rs := [5]) (by kernel_rfl) (by simp) ?_
            refine AllReadyH.cons (o := _) (by simp only [List.getElem?_toArray, List.getElem?_cons_succ, List.getElem?_cons_zero] <;> exact rfl) (fun K hK => ?_) ?_
            focus (
              go_simp
              go_at_call 11
              refine (QZ.out _).mono ?_
              rintro e wc1 ⟨rfl, hb⟩
              have hS := hS.trans (hb.mono hS.size)
              clear hb
              go_wp2_with fail
              refine hK.out _ _ hS (fun _ => ?_)
              clear hK K
              try simp only [Act.put, List.setIfInBounds_toArray, List.set_cons_zero, List.set_cons_succ]
              refine wpAnyH_take (i := 6) (v := ?_) (by simp only [List.getElem?_toArray, List.getElem?_cons_succ, List.getElem?_cons_zero] <;> exact rfl) (by kernel_rfl) (by kernel_rfl) (by kernel_rfl) (fun _ _ _ h => h) (Or.inl ⟨by rfl, ?_⟩) hS ?_
              rotate_left
              focus (intro w' hw'; go_simp; all_goals with_reducible rfl)
              try simp only [Act.put, List.setIfInBounds_toArray, List.set_cons_zero, List.set_cons_succ]
              refine wpAnyH_done (by kernel_rfl) ?_ _
              refine NoPanic.normal ?_
              have HS3 := hide (HS1.out.keep hS)
              have HY3 := hide (HY.out.keep hS)
              clear hS HS1 HY HX2 E2 HBW2 E0 HBW QZ
              generalize wc1 = w3 at *
              go_upto_region 11 with (fail)
              go_wp2_with (refine wpList_load_blk rfl 24 (.tmp 8) rfl gy rfl 24 z.cs _ HY3.out Try.underlying24 rfl hy_size ?_)
              refine (QC.out _).mono ?_
              rintro e w4 ⟨rfl, hb4⟩
              have HS4 := hide (HS3.out.keep hb4)
              have HY4 := hide (HY3.out.keep hb4)
              clear hb4 HS3 HY3 QC
              have p0 := (cells7 HY4.out).1
              have x0 := (cells7 HS4.out.x).1
              have r5 := (cells7 HS4.out.rf).2.2.2.2.2.1
              rcases LK.out with ⟨h1, h2, h3⟩ | ⟨h1, h2⟩ | ⟨h1, h2, h3, h4, h5⟩
              · subst h2 h3
                have f1 : decide (z.l < y.l) = true := decide_eq_true h1
                have f2 : decide (y.l < z.l) = false := decide_eq_false (by omega)
                have f3 : (z.l == y.l) = false := by rw [beq_eq_false_iff_ne]; omega
                have f4 : (z.l != y.l) = true := by rw [bne_iff_ne]; omega
                have HIZ := hide (show IS x z (s + 1) (i + 1) from ⟨HZO.out, HZQ.out, by have := LK0.out.2; have := HI.out.calm; omega, by omega, by omega⟩)
                clear h1
                clear HI LK LK0
                go_wp2_with (first | (refine wpList_load_blk rfl 24 (.tmp 8) rfl gy rfl 24 z.cs _ HY4.out Try.underlying24 rfl hy_size ?_) | (refine wpList_store_blk rfl 24 (.tmp 5) (.tmp 104) rfl (g + 1) z.cs y.cs 24 rfl rfl HS4.out.x hy_size rfl (Hy.cs_one z) ?_))
                have HS6 := hide (HS4.out.put z)
                go_roundw
                case rel => exact ⟨i + 1, z, s + 1, by omega, by go_num, rfl, HS6.out, HIZ.out⟩
                case measure => simp [intOf]; omega
              · subst h2
                rw [h1] at p0
                have HIZ := hide (show IS x z (s + 1) (i + 1) from ⟨HZO.out, HZQ.out, by have := LK0.out.2; have := HI.out.calm; omega, by omega, by omega⟩)
                have f1 : decide (y.l < y.l) = false := decide_eq_false (by omega)
                clear h1
                by_cases hzn : zn = 0
                · subst hzn
                  clear HI LK LK0
                  go_wp2_with (first | (refine wpList_load_blk rfl 24 (.tmp 8) rfl gy rfl 24 z.cs _ HY4.out Try.underlying24 rfl hy_size ?_) | (refine wpList_store_blk rfl 24 (.tmp 5) (.tmp 104) rfl (g + 1) z.cs y.cs 24 rfl rfl HS4.out.x hy_size rfl (Hy.cs_one z) ?_))
                  have HS6 := hide (HS4.out.put z)
                  go_roundw
                  case rel => exact ⟨i + 1, z, s + 1, by omega, by go_num, rfl, HS6.out, HIZ.out⟩
                  case measure => simp [intOf]; omega
                · have f5 : (zn == 0) = false := by rw [beq_eq_false_iff_ne]; exact hzn
                  clear hzn
                  clear HI LK LK0
                  go_wp2_with (first | (refine wpList_load_blk rfl 24 (.tmp 8) rfl gy rfl 24 z.cs _ HY4.out Try.underlying24 rfl hy_size ?_) | (refine wpList_store_blk rfl 24 (.tmp 5) (.tmp 104) rfl (g + 1) z.cs y.cs 24 rfl rfl HS4.out.x hy_size rfl (Hy.cs_one z) ?_))
                  have HS6 := hide (HS4.out.put z)
                  go_roundw
                  case rel => exact ⟨i + 1, z, s + 1, by omega, by go_num, rfl, HS6.out, HIZ.out⟩
                  case measure => simp [intOf]; omega
              · subst h2 h3
                have f1 : decide (z.l < y.l) = false := decide_eq_false (by omega)
                have f2 : decide (y.l < z.l) = true := decide_eq_true h1
                have f3 : (z.l == y.l) = false := by rw [beq_eq_false_iff_ne]; omega
                have f4 : (z.l != y.l) = true := by rw [bne_iff_ne]; omega
                have f5 : decide (s + 1 < x.q) = false := decide_eq_false (by have := HI.out.q; have := HI.out.calm; omega)
                have HIZ := hide (show IS x z (0) (i + 1) from ⟨HZO.out, HZQ.out, by skip; omega, by omega, by omega⟩)
                clear h1 h4 h5
                clear HI LK LK0
                go_wp2_with (first | (refine wpList_load_blk rfl 24 (.tmp 8) rfl gy rfl 24 z.cs _ HY4.out Try.underlying24 rfl hy_size ?_) | (refine wpList_store_blk rfl 24 (.tmp 5) (.tmp 104) rfl (g + 1) z.cs y.cs 24 rfl rfl HS4.out.x hy_size rfl (Hy.cs_one z) ?_))
                have HS6 := hide (HS4.out.put z)
                go_roundw
                case rel => exact ⟨i + 1, z, 0, by omega, by go_num, rfl, HS6.out, HIZ.out⟩
                case measure => simp [intOf]; omega)
            exact AllReadyH.nil
        · have hlt' : ¬ (i : Int) < (N : Int) := by omega
          go_wp2_with fail
          refine (HAW.out _).mono ?_
          rintro e w9 ⟨rfl, hb⟩
          have HB9 := hide (HS.out.bel.trans (hb.mono (by have := HS.out.rf.lt; omega)))
          clear hb
          go_wp2
          go_ret
          exact ⟨rfl, by rw [HL.out]; exact HB9.out⟩

theorem walk (f0 f1 f2 f3 f4 f5 f6 : Int) (A : Option Addr) (N c : Nat) (z : List Int) (w : World) (_ : (Lit.int .i64 f0).wf = true) (_ : (Lit.int .i64 f1).wf = true) (_ : (Lit.int .i64 f2).wf = true) (_ : (Lit.int .i64 f3).wf = true) (_ : (Lit.int .i64 f4).wf = true) (_ : (Lit.int .i64 f5).wf = true) (_ : (Lit.int .i64 f6).wf = true) (hz : IsRow .i64 w A N c z) :
    Calls Try.prog 4 #[.agg #[.int .i64 f0, .int .i64 f1, .int .i64 f2, .int .i64 f3, .int .i64 f4, .int .i64 f5, .int .i64 f6], .slice A N c] w fun e w' => e = .returned (.bool true) ∧ Below w.heap.size w w' := walk_at ⟨f0, f1, f2, f3, f4, f5, f6⟩ A N c _ w (nl_of_row hz)
end Go.Proofs.Ytjcibpefbfengaa.hystStays
