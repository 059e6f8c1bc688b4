/-
  Layer 11: what every right program answers (awake).
-/
import Derived.Test.YtighhdgaaelcdaaBkAwake0
import Derived.BigGuardPart
import Derived.Laws.StructEq
namespace Go.Proofs.Ytighhdgaaelcdaa
set_option linter.unusedSimpArgs false
set_option linter.unusedVariables false
open Go.RowKit

def aF0 : Fr := mkF 1 1 1 [97, 98]
def aF1 : Fr := mkF 1 9 4 [99]
def aPi : Fr := ⟨6, 0, 0, ⟨#[]⟩, 0, 0, false, 0, 0, 0, 0⟩
theorem aw_parts : partsR 1 2 true [97, 98, 99] = ([aF0, aF1], 0) := by kernel_rfl
theorem aw_none : partsR 0 1 false [] = ([], 8) := by kernel_rfl
theorem aw_on1 : onB ⟨0, ⟨#[]⟩, false⟩ aF0 = ⟨⟨1, ⟨#[97, 98]⟩, true⟩, ⟨0, ⟨#[]⟩, false⟩, false, 0⟩ := by kernel_rfl
theorem aw_on2 : onB ⟨1, ⟨#[97, 98]⟩, true⟩ aPi = ⟨⟨1, ⟨#[97, 98]⟩, true⟩, ⟨0, ⟨#[]⟩, false⟩, false, 1⟩ := by kernel_rfl
theorem aw_on3 : onB ⟨1, ⟨#[97, 98]⟩, true⟩ aF1 = ⟨⟨0, ⟨#[]⟩, false⟩, ⟨1, ⟨#[97, 98, 99]⟩, true⟩, true, 0⟩ := by kernel_rfl
theorem aw_on4 : onB ⟨0, ⟨#[]⟩, false⟩ aF1 = ⟨⟨0, ⟨#[]⟩, false⟩, ⟨0, ⟨#[]⟩, false⟩, false, 1⟩ := by kernel_rfl
theorem aw_chk : Bk.chk ⟨1, ⟨#[97, 98]⟩, true⟩ = 0 := by kernel_rfl
/-- What awake's walk knows of memory. -/
structure AwS (w0 w : World) (gl p : Nat) : Prop where
  bl : Below w0.heap.size w0 w
  r0 : RowF w gl 0 aF0
  r1 : RowF w gl 12 aF1
  k3 : BlkIs w p 29 #[.int .i64 1, .string ⟨#[97, 98]⟩, .bool true]
section
variable {w0 w w' : World} {gl p x y : Nat}
theorem AwS.keep (h : AwS w0 w gl p) (hb : Below w.heap.size w w') : AwS w0 w' gl p := ⟨h.bl.trans (hb.mono h.bl.size), h.r0.keep hb, h.r1.keep hb, h.k3.keep hb⟩
theorem AwS.alloc (h : AwS w0 w gl p) (o : Obj) : AwS w0 (w.alloc o) gl p := h.keep ((Below.refl _ _).alloc (Nat.le_refl _) o)
structure AwT (w0 w : World) (gl p x y : Nat) : Prop where
  s : AwS w0 w gl p
  kx : BlkIs w x 29 #[.int .i64 0, .string ⟨#[]⟩, .bool false]
  ky : BlkIs w y 30 #[.int .i64 1, .string ⟨#[97, 98, 99]⟩, .bool true]
theorem AwT.keep (h : AwT w0 w gl p x y) (hb : Below w.heap.size w w') : AwT w0 w' gl p x y := ⟨h.s.keep hb, h.kx.keep hb, h.ky.keep hb⟩
theorem AwT.alloc (h : AwT w0 w gl p x y) (o : Obj) : AwT w0 (w.alloc o) gl p x y := h.keep ((Below.refl _ _).alloc (Nat.le_refl _) o)
end
theorem aw_cs (w : World) : Calls Try.prog 12 #[.agg #[.int .i64 1, .string ⟨#[97, 98]⟩, .bool true], .agg #[.int .i64 1, .string ⟨#[97, 98]⟩, .bool true]] w fun r w' => r = .returned (.bool true) ∧ Below w.heap.size w w' := by
  have h := bk_Same 1 ⟨#[97, 98]⟩ true 1 ⟨#[97, 98]⟩ true w
  rwa [show sameB 1 ⟨#[97, 98]⟩ true 1 ⟨#[97, 98]⟩ true = true by simp [sameB]] at h
theorem aw_cn (w : World) : Calls Try.prog 12 #[.agg #[.int .i64 1, .string ⟨#[97, 98]⟩, .bool true], .agg #[.int .i64 0, .string ⟨#[]⟩, .bool false]] w fun r w' => r = .returned (.bool false) ∧ Below w.heap.size w w' := by
  have h := bk_Same 1 ⟨#[97, 98]⟩ true 0 ⟨#[]⟩ false w
  rwa [show sameB 1 ⟨#[97, 98]⟩ true 0 ⟨#[]⟩ false = false by simp [sameB]] at h
theorem aw_ch (w : World) : Calls Try.prog 9 #[.agg #[.int .i64 1, .string ⟨#[97, 98]⟩, .bool true]] w fun r w' => r = .returned (.int .i64 0) ∧ Below w.heap.size w w' := by
  have h := bk_Check 1 ⟨#[97, 98]⟩ true w
  rwa [aw_chk] at h
theorem aw_op (w : World) : Calls Try.prog 11 #[.agg #[.int .i64 1, .string ⟨#[97, 98]⟩, .bool true]] w fun r w' => r = .returned (.bool true) ∧ Below w.heap.size w w' := bk_Open 1 ⟨#[97, 98]⟩ true w

theorem aPi_cl : aPi.cl.toArray = #[.int .u8 6, .int .u8 0, .int .i64 0, .string ⟨#[]⟩, .int .i64 0, .int .i64 0, .bool false, .int .u8 0, .int .u32 0, .int .i64 0, .int .i64 0, .slice none 0 0] := rfl
theorem aw_on2c (w : World) : Calls Try.prog 7 #[.agg #[.int .i64 1, .string ⟨#[97, 98]⟩, .bool true], .agg #[.int .u8 6, .int .u8 0, .int .i64 0, .string ⟨#[]⟩, .int .i64 0, .int .i64 0, .bool false, .int .u8 0, .int .u32 0, .int .i64 0, .int .i64 0, .slice none 0 0]] w fun r w' => r = .returned (.tuple #[.agg #[.int .i64 1, .string ⟨#[97, 98]⟩, .bool true], .agg #[.int .i64 0, .string ⟨#[]⟩, .bool false], .bool false, .int .u32 1]) ∧ Below w.heap.size w w' := by
  have h := on_is aw_on2 (by decide) (by decide) (by decide) w
  rw [aPi_cl] at h
  exact h

set_option maxRecDepth 100000 in
set_option maxHeartbeats 6400000 in
theorem aw_block (w : World) : Calls Try.prog 6 #[] w fun e w' => e = .returned (.bool true) ∧ Below w.heap.size w w' := by
  have kc := Lib.run_convert_bytes_const (P := Try.prog) w 44 5 #[.int .u8 97, .int .u8 98, .int .u8 99] 3 3 Try.underlying44 Try.underlying5
  have RN := hide (show RB (w.alloc (.cells #[.int .u8 97, .int .u8 98, .int .u8 99] 5 (3, 4))) (some ⟨w.heap.size, 0, none⟩) 3 [97, 98, 99] from rb_mark w 5 (3, 4) [97, 98, 99] 3 rfl (allb_of rfl))
  have B0 := hide ((Below.refl w.heap.size w).alloc (Nat.le_refl _) (.cells #[.int .u8 97, .int .u8 98, .int .u8 99] 5 (3, 4)))
  go_enter Try.func6, Try.ntmps6
  go_wp2_with fail
  clear kc
  obtain ⟨p0, hp0⟩ : ∃ g, g = w.heap.size := ⟨_, rfl⟩
  rw [← hp0] at RN ⊢
  generalize w.alloc (.cells #[.int .u8 97, .int .u8 98, .int .u8 99] 5 (3, 4)) = w0 at RN B0 ⊢
  clear hp0
  have HPA : Calls Try.prog 13 #[.int .i64 1, .slice (some ⟨p0, 0, none⟩) 3 3, .bool true, .int .i64 2] w0 (GivesParts 34 [aF0, aF1] 2 0 w0) := by have h := bk_Parts 1 2 (some ⟨p0, 0, none⟩) 3 3 true [97, 98, 99] (by decide) (fun h => by cases h) w0 RN.out; rw [aw_parts] at h; exact h
  refine HPA.mono ?_
  rintro e w2 ⟨v, rfl, hown, hb⟩
  obtain ⟨gl, cp, rfl, _, hgl⟩ := own_some hown (by decide)
  obtain ⟨hr0, hr1⟩ := QL.lone2 (QL.of_own hown)
  have R0 := hide hr0
  have R1 := hide hr1
  have B2 := hide (B0.out.trans (hb.mono B0.out.size))
  clear HPA RN B0 hown hgl hr0 hr1 hb
  have HON := hide (on_is aw_on1 (by decide) (by decide) (by decide))
  go_upto_region 4 with (fail)
  refine wp_region_lit ?_
  refine rgs_built_want (by rfl) 29 #[] rfl #[.int .i64 0, .string ⟨#[]⟩, .bool false] (by kernel_rfl) ?_
  simp only [Act.put, List.setIfInBounds_toArray, List.set_cons_zero, List.set_cons_succ]
  go_wp2_with (first | (refine wpList_load_mid rfl 34 (.tmp 38) rfl gl 0 rfl aF0.cl _ R0.out.2 Try.underlying34 rfl bf_size ?_))
  refine (HON.out _).mono ?_
  rintro e w3 ⟨rfl, hb⟩
  have R03 := hide (R0.out.keep hb)
  have R13 := hide (R1.out.keep hb)
  have B3 := hide (B2.out.trans (hb.mono B2.out.size))
  clear hb R0 R1 B2 HON
  go_upto_region 5 with (fail)
  have AS := hide (show AwS w ((w3.alloc (.cells #[.int .i64 1, .string ⟨#[97, 98]⟩, .bool true] 29)).alloc (.cells #[.int .i64 0, .string ⟨#[]⟩, .bool false] 30)) gl w3.heap.size from ⟨(B3.out.alloc B3.out.size _).alloc (by have := B3.out.size; rw [World.size_alloc]; omega) _, (R03.out.alloc _).alloc _, (R13.out.alloc _).alloc _, (BlkIs.new w3 _ _).alloc _⟩)
  obtain ⟨p, hp⟩ : ∃ g, g = w3.heap.size := ⟨_, rfl⟩
  rw [← hp] at AS ⊢
  generalize (w3.alloc (.cells #[.int .i64 1, .string ⟨#[97, 98]⟩, .bool true] 29)).alloc (.cells #[.int .i64 0, .string ⟨#[]⟩, .bool false] 30) = w4 at AS ⊢
  clear hp R03 R13 B3
  go_wp2_with (first | (refine wpList_load_blk rfl 29 (.tmp 3) rfl p rfl 29 #[.int .i64 1, .string ⟨#[97, 98]⟩, .bool true] _ AS.out.k3 Try.underlying29 rfl bk_size ?_))
  refine (aw_op _).mono ?_
  rintro e w5 ⟨rfl, hb⟩
  have AS5 := hide (AS.out.keep hb)
  clear hb AS
  have HON := hide (fun w => aw_on2c w)
  go_upto_region 6 with (fail)
  go_wp2_with (first | (refine wpList_load_blk rfl 29 (.tmp 3) rfl p rfl 29 #[.int .i64 1, .string ⟨#[97, 98]⟩, .bool true] _ AS5.out.k3 Try.underlying29 rfl bk_size ?_))
  refine (HON.out _).mono ?_
  rintro e w6 ⟨rfl, hb⟩
  have AS6 := hide (AS5.out.keep hb)
  clear hb AS5 HON
  go_upto_region 7 with (fail)
  have AS7 := hide ((AS6.out.alloc (.cells #[.int .i64 1, .string ⟨#[97, 98]⟩, .bool true] 29)).alloc (.cells #[.int .i64 0, .string ⟨#[]⟩, .bool false] 30))
  generalize (w6.alloc (.cells #[.int .i64 1, .string ⟨#[97, 98]⟩, .bool true] 29)).alloc (.cells #[.int .i64 0, .string ⟨#[]⟩, .bool false] 30) = w7 at AS7 ⊢
  clear AS6
  have HON := hide (on_is aw_on3 (by decide) (by decide) (by decide))
  have KST := hide AS7.out.k3
  have HRG := hide AS7.out.r1
  go_cut [12, 13, 14, 15] (fun s1 s2 s3 s4 wx => On2R w7 wx #[.int .i64 0, .string ⟨#[]⟩, .bool false] #[.int .i64 1, .string ⟨#[97, 98, 99]⟩, .bool true] true 0 s1 s2 s3 s4)
  case first =>
    refine wp_region_noPanic ?_
    refine wp_region_held_drew (S := fun w' => Below w7.heap.size w7 w') (by kernel_rfl) (Below.refl _ _).drew (fun hS => ?_)
    generalize w7.drew = wd at hS ⊢
    refine wpAnyH_take (i := 0) (by simp only [List.getElem?_toArray, List.getElem?_cons_zero] <;> exact rfl) (by kernel_rfl) (by kernel_rfl) (by kernel_rfl) (fun _ _ _ h => h) (rgs_yields_blk (by rfl) 29 (.tmp 3) (by rfl) p (by rfl) 29 #[.int .i64 1, .string ⟨#[97, 98]⟩, .bool true] _ (fun w' hw' => KST.out.keep hw') Try.underlying29 rfl bk_size) hS ?_
    try simp only [Act.put, List.setIfInBounds_toArray, List.set_cons_zero, List.set_cons_succ]
    refine wpAnyH_take (i := 1) (v := ?_) (by simp only [List.getElem?_toArray, List.getElem?_cons_succ, List.getElem?_cons_zero] <;> exact rfl) (by kernel_rfl) (by kernel_rfl) (by kernel_rfl) (fun _ _ _ h => h) (Or.inl ⟨by rfl, ?_⟩) hS ?_
    rotate_left
    focus (intro w' hw'; go_simp; all_goals with_reducible rfl)
    try simp only [Act.put, List.setIfInBounds_toArray, List.set_cons_zero, List.set_cons_succ]
    refine wpAnyH_take (i := 2) (v := ?_) (by simp only [List.getElem?_toArray, List.getElem?_cons_succ, List.getElem?_cons_zero] <;> exact rfl) (by kernel_rfl) (by kernel_rfl) (by kernel_rfl) (fun _ _ _ h => h) (Or.inl ⟨by rfl, ?_⟩) hS ?_
    rotate_left
    focus (intro w' hw'; go_simp; all_goals with_reducible rfl)
    try simp only [Act.put, List.setIfInBounds_toArray, List.set_cons_zero, List.set_cons_succ]
    refine wpAnyH_take (i := 3) (by simp only [List.getElem?_toArray, List.getElem?_cons_succ, List.getElem?_cons_zero] <;> exact rfl) (by kernel_rfl) (by kernel_rfl) (by kernel_rfl) (fun _ _ _ h => h) (yieldsIf_load_mid (by rfl) 34 (.tmp 58) (by rfl) gl 12 (by rfl) aF1.cl _ (fun w' hw' => range_keep HRG.out.2 HRG.out.1 hw') Try.underlying34 rfl bf_size) hS ?_
    try simp only [Act.put, List.setIfInBounds_toArray, List.set_cons_zero, List.set_cons_succ]
    refine wpAnyH_ready (rs := [4, 10, 11]) (by kernel_rfl) (by simp) ?_
    refine AllReadyH.cons (o := _) (by simp only [List.getElem?_toArray, List.getElem?_cons_succ, List.getElem?_cons_zero] <;> exact rfl) (fun K hK => ?_) ?_
    focus (
      go_simp
      go_at_call 7
      refine (HON.out _).mono ?_
      rintro e wr1 ⟨rfl, hb⟩
      have hS := hS.trans (hb.mono hS.size)
      clear hb
      go_wp2_with fail
      refine hK.out _ _ hS (fun _ => ?_)
      clear hK K
      try simp only [Act.put, List.setIfInBounds_toArray, List.set_cons_zero, List.set_cons_succ]
      refine wpAnyH_take (i := 5) (v := ?_) (by simp only [List.getElem?_toArray, List.getElem?_cons_succ, List.getElem?_cons_zero] <;> exact rfl) (by kernel_rfl) (by kernel_rfl) (by kernel_rfl) (fun _ _ _ h => h) (Or.inl ⟨by rfl, ?_⟩) hS ?_
      rotate_left
      focus (intro w' hw'; go_simp; all_goals with_reducible rfl)
      try simp only [Act.put, List.setIfInBounds_toArray, List.set_cons_zero, List.set_cons_succ]
      refine wpAnyH_take (i := 6) (v := ?_) (by simp only [List.getElem?_toArray, List.getElem?_cons_succ, List.getElem?_cons_zero] <;> exact rfl) (by kernel_rfl) (by kernel_rfl) (by kernel_rfl) (fun _ _ _ h => h) (Or.inl ⟨by rfl, ?_⟩) hS ?_
      rotate_left
      focus (intro w' hw'; go_simp; all_goals with_reducible rfl)
      try simp only [Act.put, List.setIfInBounds_toArray, List.set_cons_zero, List.set_cons_succ]
      refine wpAnyH_take (i := 7) (v := ?_) (by simp only [List.getElem?_toArray, List.getElem?_cons_succ, List.getElem?_cons_zero] <;> exact rfl) (by kernel_rfl) (by kernel_rfl) (by kernel_rfl) (fun _ _ _ h => h) (Or.inl ⟨by rfl, ?_⟩) hS ?_
      rotate_left
      focus (intro w' hw'; go_simp; all_goals with_reducible rfl)
      try simp only [Act.put, List.setIfInBounds_toArray, List.set_cons_zero, List.set_cons_succ]
      refine wpAnyH_take (i := 8) (v := ?_) (by simp only [List.getElem?_toArray, List.getElem?_cons_succ, List.getElem?_cons_zero] <;> exact rfl) (by kernel_rfl) (by kernel_rfl) (by kernel_rfl) (fun _ _ _ h => h) (Or.inl ⟨by rfl, ?_⟩) hS ?_
      rotate_left
      focus (intro w' hw'; go_simp; all_goals with_reducible rfl)
      try simp only [Act.put, List.setIfInBounds_toArray, List.set_cons_zero, List.set_cons_succ]
      refine wpAnyH_take (i := 9) (v := ?_) (by simp only [List.getElem?_toArray, List.getElem?_cons_succ, List.getElem?_cons_zero] <;> exact rfl) (by kernel_rfl) (by kernel_rfl) (by kernel_rfl) (fun _ _ _ h => h) (Or.inl ⟨by rfl, ?_⟩) hS ?_
      rotate_left
      focus (intro w' hw'; go_simp; all_goals with_reducible rfl)
      try simp only [Act.put, List.setIfInBounds_toArray, List.set_cons_zero, List.set_cons_succ]
      refine wpAnyH_ready (rs := [10, 11]) (by kernel_rfl) (by simp) ?_
      refine AllReadyH.cons (o := _) (by simp only [List.getElem?_toArray, List.getElem?_cons_succ, List.getElem?_cons_zero] <;> exact rfl) (fun K hK => ?_) ?_
      focus (
        go_simp
        have hz2 := hS.size
        have hS := hS.alloc hS.size (.cells #[.int .i64 0, .string ⟨#[]⟩, .bool false] 29)
        refine hK.out _ _ hS (fun _ => ?_)
        have Ex2 := BlkIs.new wr1 29 #[.int .i64 0, .string ⟨#[]⟩, .bool false]
        obtain ⟨x, hx⟩ : ∃ g, g = wr1.heap.size := ⟨_, rfl⟩
        have Mx : w7.heap.size ≤ x := by rw [hx]; exact hz2
        rw [← hx] at Ex2 ⊢
        generalize wr1.alloc (.cells #[.int .i64 0, .string ⟨#[]⟩, .bool false] 29) = wa2 at hS Ex2 ⊢
        clear hx hz2
        clear hK K
        try simp only [Act.put, List.setIfInBounds_toArray, List.set_cons_zero, List.set_cons_succ]
        refine wpAnyH_ready (rs := [11]) (by kernel_rfl) (by simp) ?_
        refine AllReadyH.cons (o := _) (by simp only [List.getElem?_toArray, List.getElem?_cons_succ, List.getElem?_cons_zero] <;> exact rfl) (fun K hK => ?_) ?_
        focus (
          go_simp
          have hz3 := hS.size
          have hS := hS.alloc hS.size (.cells #[.int .i64 0, .string ⟨#[]⟩, .bool false] 30)
          refine hK.out _ _ hS (fun _ => ?_)
          have Ex3 := Ex2.alloc (.cells #[.int .i64 0, .string ⟨#[]⟩, .bool false] 30)
          have Ey3 := BlkIs.new wa2 30 #[.int .i64 0, .string ⟨#[]⟩, .bool false]
          obtain ⟨y, hy⟩ : ∃ g, g = wa2.heap.size := ⟨_, rfl⟩
          have My : w7.heap.size ≤ y := by rw [hy]; exact hz3
          rw [← hy] at Ey3 ⊢
          have NE : x ≠ y := by have := Ex2.lt; omega
          generalize wa2.alloc (.cells #[.int .i64 0, .string ⟨#[]⟩, .bool false] 30) = wa3 at hS Ex3 Ey3 ⊢
          clear hy hz3
          clear hK K
          try simp only [Act.put, List.setIfInBounds_toArray, List.set_cons_zero, List.set_cons_succ]
          refine wpAnyH_ready (rs := [12]) (by kernel_rfl) (by simp) ?_
          refine AllReadyH.cons (o := _) (by simp only [List.getElem?_toArray, List.getElem?_cons_succ, List.getElem?_cons_zero] <;> exact rfl) (fun K hK => ?_) ?_
          focus (
            refine rgs_store_blk (by rfl) 29 (.tmp 12) (.tmp 61) (by rfl) x #[.int .i64 0, .string ⟨#[]⟩, .bool false] #[.int .i64 0, .string ⟨#[]⟩, .bool false] 29 (by rfl) (by rfl) Ex3 bk_size rfl (by simp [Value.oneCell']) ?_
            have hS := below_setRow hS Mx #[.int .i64 0, .string ⟨#[]⟩, .bool false]
            refine hK.out _ _ hS (fun _ => ?_)
            clear hK K
            try simp only [Act.put, List.setIfInBounds_toArray, List.set_cons_zero, List.set_cons_succ]
            refine wpAnyH_ready (rs := [13]) (by kernel_rfl) (by simp) ?_
            refine AllReadyH.cons (o := _) (by simp only [List.getElem?_toArray, List.getElem?_cons_succ, List.getElem?_cons_zero] <;> exact rfl) (fun K hK => ?_) ?_
            focus (
              refine rgs_store_blk (by rfl) 30 (.tmp 13) (.tmp 62) (by rfl) y #[.int .i64 1, .string ⟨#[97, 98, 99]⟩, .bool true] #[.int .i64 0, .string ⟨#[]⟩, .bool false] 30 (by rfl) (by rfl) (Ey3.row_other (Ne.symm NE) _) bw_size rfl (by simp [Value.oneCell']) ?_
              have hS := below_setRow hS My #[.int .i64 1, .string ⟨#[97, 98, 99]⟩, .bool true]
              refine hK.out _ _ hS (fun _ => ?_)
              clear hK K
              try simp only [Act.put, List.setIfInBounds_toArray, List.set_cons_zero, List.set_cons_succ]
              refine wpAnyH_take (i := 14) (v := ?_) (by simp only [List.getElem?_toArray, List.getElem?_cons_succ, List.getElem?_cons_zero] <;> exact rfl) (by kernel_rfl) (by kernel_rfl) (by kernel_rfl) (fun _ _ _ h => h) (Or.inl ⟨by rfl, ?_⟩) hS ?_
              rotate_left
              focus (intro w' hw'; go_simp; all_goals with_reducible rfl)
              try simp only [Act.put, List.setIfInBounds_toArray, List.set_cons_zero, List.set_cons_succ]
              refine wpAnyH_take (i := 15) (v := ?_) (by simp only [List.getElem?_toArray, List.getElem?_cons_succ, List.getElem?_cons_zero] <;> exact rfl) (by kernel_rfl) (by kernel_rfl) (by kernel_rfl) (fun _ _ _ h => h) (Or.inl ⟨by rfl, ?_⟩) hS ?_
              rotate_left
              focus (intro w' hw'; go_simp; all_goals with_reducible rfl)
              try simp only [Act.put, List.setIfInBounds_toArray, List.set_cons_zero, List.set_cons_succ]
              refine wpAnyH_done (by kernel_rfl) ?_ _
              refine NoPanic.normal ?_
              go_wp2
              go_meet
              exact ⟨x, y, rfl, rfl, rfl, rfl, (Ex3.row #[.int .i64 0, .string ⟨#[]⟩, .bool false]).row_other NE _, ((Ey3.row_other (Ne.symm NE) _).row #[.int .i64 1, .string ⟨#[97, 98, 99]⟩, .bool true]), hS, Mx, My⟩)
            exact AllReadyH.nil)
          exact AllReadyH.nil)
        exact AllReadyH.nil)
      refine AllReadyH.cons (o := _) (by simp only [List.getElem?_toArray, List.getElem?_cons_succ, List.getElem?_cons_zero] <;> exact rfl) (fun K hK => ?_) ?_
      focus (
        go_simp
        have hz4 := hS.size
        have hS := hS.alloc hS.size (.cells #[.int .i64 0, .string ⟨#[]⟩, .bool false] 30)
        refine hK.out _ _ hS (fun _ => ?_)
        have Ey4 := BlkIs.new wr1 30 #[.int .i64 0, .string ⟨#[]⟩, .bool false]
        obtain ⟨y, hy⟩ : ∃ g, g = wr1.heap.size := ⟨_, rfl⟩
        have My : w7.heap.size ≤ y := by rw [hy]; exact hz4
        rw [← hy] at Ey4 ⊢
        generalize wr1.alloc (.cells #[.int .i64 0, .string ⟨#[]⟩, .bool false] 30) = wa4 at hS Ey4 ⊢
        clear hy hz4
        clear hK K
        try simp only [Act.put, List.setIfInBounds_toArray, List.set_cons_zero, List.set_cons_succ]
        refine wpAnyH_ready (rs := [10]) (by kernel_rfl) (by simp) ?_
        refine AllReadyH.cons (o := _) (by simp only [List.getElem?_toArray, List.getElem?_cons_succ, List.getElem?_cons_zero] <;> exact rfl) (fun K hK => ?_) ?_
        focus (
          go_simp
          have hz5 := hS.size
          have hS := hS.alloc hS.size (.cells #[.int .i64 0, .string ⟨#[]⟩, .bool false] 29)
          refine hK.out _ _ hS (fun _ => ?_)
          have Ey5 := Ey4.alloc (.cells #[.int .i64 0, .string ⟨#[]⟩, .bool false] 29)
          have Ex5 := BlkIs.new wa4 29 #[.int .i64 0, .string ⟨#[]⟩, .bool false]
          obtain ⟨x, hx⟩ : ∃ g, g = wa4.heap.size := ⟨_, rfl⟩
          have Mx : w7.heap.size ≤ x := by rw [hx]; exact hz5
          rw [← hx] at Ex5 ⊢
          have NE : x ≠ y := by have := Ey4.lt; omega
          generalize wa4.alloc (.cells #[.int .i64 0, .string ⟨#[]⟩, .bool false] 29) = wa5 at hS Ex5 Ey5 ⊢
          clear hx hz5
          clear hK K
          try simp only [Act.put, List.setIfInBounds_toArray, List.set_cons_zero, List.set_cons_succ]
          refine wpAnyH_ready (rs := [12]) (by kernel_rfl) (by simp) ?_
          refine AllReadyH.cons (o := _) (by simp only [List.getElem?_toArray, List.getElem?_cons_succ, List.getElem?_cons_zero] <;> exact rfl) (fun K hK => ?_) ?_
          focus (
            refine rgs_store_blk (by rfl) 29 (.tmp 12) (.tmp 61) (by rfl) x #[.int .i64 0, .string ⟨#[]⟩, .bool false] #[.int .i64 0, .string ⟨#[]⟩, .bool false] 29 (by rfl) (by rfl) Ex5 bk_size rfl (by simp [Value.oneCell']) ?_
            have hS := below_setRow hS Mx #[.int .i64 0, .string ⟨#[]⟩, .bool false]
            refine hK.out _ _ hS (fun _ => ?_)
            clear hK K
            try simp only [Act.put, List.setIfInBounds_toArray, List.set_cons_zero, List.set_cons_succ]
            refine wpAnyH_ready (rs := [13]) (by kernel_rfl) (by simp) ?_
            refine AllReadyH.cons (o := _) (by simp only [List.getElem?_toArray, List.getElem?_cons_succ, List.getElem?_cons_zero] <;> exact rfl) (fun K hK => ?_) ?_
            focus (
              refine rgs_store_blk (by rfl) 30 (.tmp 13) (.tmp 62) (by rfl) y #[.int .i64 1, .string ⟨#[97, 98, 99]⟩, .bool true] #[.int .i64 0, .string ⟨#[]⟩, .bool false] 30 (by rfl) (by rfl) (Ey5.row_other (Ne.symm NE) _) bw_size rfl (by simp [Value.oneCell']) ?_
              have hS := below_setRow hS My #[.int .i64 1, .string ⟨#[97, 98, 99]⟩, .bool true]
              refine hK.out _ _ hS (fun _ => ?_)
              clear hK K
              try simp only [Act.put, List.setIfInBounds_toArray, List.set_cons_zero, List.set_cons_succ]
              refine wpAnyH_take (i := 14) (v := ?_) (by simp only [List.getElem?_toArray, List.getElem?_cons_succ, List.getElem?_cons_zero] <;> exact rfl) (by kernel_rfl) (by kernel_rfl) (by kernel_rfl) (fun _ _ _ h => h) (Or.inl ⟨by rfl, ?_⟩) hS ?_
              rotate_left
              focus (intro w' hw'; go_simp; all_goals with_reducible rfl)
              try simp only [Act.put, List.setIfInBounds_toArray, List.set_cons_zero, List.set_cons_succ]
              refine wpAnyH_take (i := 15) (v := ?_) (by simp only [List.getElem?_toArray, List.getElem?_cons_succ, List.getElem?_cons_zero] <;> exact rfl) (by kernel_rfl) (by kernel_rfl) (by kernel_rfl) (fun _ _ _ h => h) (Or.inl ⟨by rfl, ?_⟩) hS ?_
              rotate_left
              focus (intro w' hw'; go_simp; all_goals with_reducible rfl)
              try simp only [Act.put, List.setIfInBounds_toArray, List.set_cons_zero, List.set_cons_succ]
              refine wpAnyH_done (by kernel_rfl) ?_ _
              refine NoPanic.normal ?_
              go_wp2
              go_meet
              exact ⟨x, y, rfl, rfl, rfl, rfl, (Ex5.row #[.int .i64 0, .string ⟨#[]⟩, .bool false]).row_other NE _, ((Ey5.row_other (Ne.symm NE) _).row #[.int .i64 1, .string ⟨#[97, 98, 99]⟩, .bool true]), hS, Mx, My⟩)
            exact AllReadyH.nil)
          exact AllReadyH.nil)
        exact AllReadyH.nil)
      exact AllReadyH.nil)
    refine AllReadyH.cons (o := _) (by simp only [List.getElem?_toArray, List.getElem?_cons_succ, List.getElem?_cons_zero] <;> exact rfl) (fun K hK => ?_) ?_
    focus (
      go_simp
      have hz6 := hS.size
      have hS := hS.alloc hS.size (.cells #[.int .i64 0, .string ⟨#[]⟩, .bool false] 29)
      refine hK.out _ _ hS (fun _ => ?_)
      have Ex6 := BlkIs.new wd 29 #[.int .i64 0, .string ⟨#[]⟩, .bool false]
      obtain ⟨x, hx⟩ : ∃ g, g = wd.heap.size := ⟨_, rfl⟩
      have Mx : w7.heap.size ≤ x := by rw [hx]; exact hz6
      rw [← hx] at Ex6 ⊢
      generalize wd.alloc (.cells #[.int .i64 0, .string ⟨#[]⟩, .bool false] 29) = wa6 at hS Ex6 ⊢
      clear hx hz6
      clear hK K
      try simp only [Act.put, List.setIfInBounds_toArray, List.set_cons_zero, List.set_cons_succ]
      refine wpAnyH_ready (rs := [4, 11]) (by kernel_rfl) (by simp) ?_
      refine AllReadyH.cons (o := _) (by simp only [List.getElem?_toArray, List.getElem?_cons_succ, List.getElem?_cons_zero] <;> exact rfl) (fun K hK => ?_) ?_
      focus (
        go_simp
        go_at_call 7
        refine (HON.out _).mono ?_
        rintro e wr7 ⟨rfl, hb⟩
        have hS := hS.trans (hb.mono hS.size)
        have Ex7 := Ex6.keep hb
        clear hb
        go_wp2_with fail
        refine hK.out _ _ hS (fun _ => ?_)
        clear hK K
        try simp only [Act.put, List.setIfInBounds_toArray, List.set_cons_zero, List.set_cons_succ]
        refine wpAnyH_take (i := 5) (v := ?_) (by simp only [List.getElem?_toArray, List.getElem?_cons_succ, List.getElem?_cons_zero] <;> exact rfl) (by kernel_rfl) (by kernel_rfl) (by kernel_rfl) (fun _ _ _ h => h) (Or.inl ⟨by rfl, ?_⟩) hS ?_
        rotate_left
        focus (intro w' hw'; go_simp; all_goals with_reducible rfl)
        try simp only [Act.put, List.setIfInBounds_toArray, List.set_cons_zero, List.set_cons_succ]
        refine wpAnyH_take (i := 6) (v := ?_) (by simp only [List.getElem?_toArray, List.getElem?_cons_succ, List.getElem?_cons_zero] <;> exact rfl) (by kernel_rfl) (by kernel_rfl) (by kernel_rfl) (fun _ _ _ h => h) (Or.inl ⟨by rfl, ?_⟩) hS ?_
        rotate_left
        focus (intro w' hw'; go_simp; all_goals with_reducible rfl)
        try simp only [Act.put, List.setIfInBounds_toArray, List.set_cons_zero, List.set_cons_succ]
        refine wpAnyH_take (i := 7) (v := ?_) (by simp only [List.getElem?_toArray, List.getElem?_cons_succ, List.getElem?_cons_zero] <;> exact rfl) (by kernel_rfl) (by kernel_rfl) (by kernel_rfl) (fun _ _ _ h => h) (Or.inl ⟨by rfl, ?_⟩) hS ?_
        rotate_left
        focus (intro w' hw'; go_simp; all_goals with_reducible rfl)
        try simp only [Act.put, List.setIfInBounds_toArray, List.set_cons_zero, List.set_cons_succ]
        refine wpAnyH_take (i := 8) (v := ?_) (by simp only [List.getElem?_toArray, List.getElem?_cons_succ, List.getElem?_cons_zero] <;> exact rfl) (by kernel_rfl) (by kernel_rfl) (by kernel_rfl) (fun _ _ _ h => h) (Or.inl ⟨by rfl, ?_⟩) hS ?_
        rotate_left
        focus (intro w' hw'; go_simp; all_goals with_reducible rfl)
        try simp only [Act.put, List.setIfInBounds_toArray, List.set_cons_zero, List.set_cons_succ]
        refine wpAnyH_take (i := 9) (v := ?_) (by simp only [List.getElem?_toArray, List.getElem?_cons_succ, List.getElem?_cons_zero] <;> exact rfl) (by kernel_rfl) (by kernel_rfl) (by kernel_rfl) (fun _ _ _ h => h) (Or.inl ⟨by rfl, ?_⟩) hS ?_
        rotate_left
        focus (intro w' hw'; go_simp; all_goals with_reducible rfl)
        try simp only [Act.put, List.setIfInBounds_toArray, List.set_cons_zero, List.set_cons_succ]
        refine wpAnyH_ready (rs := [11]) (by kernel_rfl) (by simp) ?_
        refine AllReadyH.cons (o := _) (by simp only [List.getElem?_toArray, List.getElem?_cons_succ, List.getElem?_cons_zero] <;> exact rfl) (fun K hK => ?_) ?_
        focus (
          go_simp
          have hz8 := hS.size
          have hS := hS.alloc hS.size (.cells #[.int .i64 0, .string ⟨#[]⟩, .bool false] 30)
          refine hK.out _ _ hS (fun _ => ?_)
          have Ex8 := Ex7.alloc (.cells #[.int .i64 0, .string ⟨#[]⟩, .bool false] 30)
          have Ey8 := BlkIs.new wr7 30 #[.int .i64 0, .string ⟨#[]⟩, .bool false]
          obtain ⟨y, hy⟩ : ∃ g, g = wr7.heap.size := ⟨_, rfl⟩
          have My : w7.heap.size ≤ y := by rw [hy]; exact hz8
          rw [← hy] at Ey8 ⊢
          have NE : x ≠ y := by have := Ex7.lt; omega
          generalize wr7.alloc (.cells #[.int .i64 0, .string ⟨#[]⟩, .bool false] 30) = wa8 at hS Ex8 Ey8 ⊢
          clear hy hz8
          clear hK K
          try simp only [Act.put, List.setIfInBounds_toArray, List.set_cons_zero, List.set_cons_succ]
          refine wpAnyH_ready (rs := [12]) (by kernel_rfl) (by simp) ?_
          refine AllReadyH.cons (o := _) (by simp only [List.getElem?_toArray, List.getElem?_cons_succ, List.getElem?_cons_zero] <;> exact rfl) (fun K hK => ?_) ?_
          focus (
            refine rgs_store_blk (by rfl) 29 (.tmp 12) (.tmp 61) (by rfl) x #[.int .i64 0, .string ⟨#[]⟩, .bool false] #[.int .i64 0, .string ⟨#[]⟩, .bool false] 29 (by rfl) (by rfl) Ex8 bk_size rfl (by simp [Value.oneCell']) ?_
            have hS := below_setRow hS Mx #[.int .i64 0, .string ⟨#[]⟩, .bool false]
            refine hK.out _ _ hS (fun _ => ?_)
            clear hK K
            try simp only [Act.put, List.setIfInBounds_toArray, List.set_cons_zero, List.set_cons_succ]
            refine wpAnyH_ready (rs := [13]) (by kernel_rfl) (by simp) ?_
            refine AllReadyH.cons (o := _) (by simp only [List.getElem?_toArray, List.getElem?_cons_succ, List.getElem?_cons_zero] <;> exact rfl) (fun K hK => ?_) ?_
            focus (
              refine rgs_store_blk (by rfl) 30 (.tmp 13) (.tmp 62) (by rfl) y #[.int .i64 1, .string ⟨#[97, 98, 99]⟩, .bool true] #[.int .i64 0, .string ⟨#[]⟩, .bool false] 30 (by rfl) (by rfl) (Ey8.row_other (Ne.symm NE) _) bw_size rfl (by simp [Value.oneCell']) ?_
              have hS := below_setRow hS My #[.int .i64 1, .string ⟨#[97, 98, 99]⟩, .bool true]
              refine hK.out _ _ hS (fun _ => ?_)
              clear hK K
              try simp only [Act.put, List.setIfInBounds_toArray, List.set_cons_zero, List.set_cons_succ]
              refine wpAnyH_take (i := 14) (v := ?_) (by simp only [List.getElem?_toArray, List.getElem?_cons_succ, List.getElem?_cons_zero] <;> exact rfl) (by kernel_rfl) (by kernel_rfl) (by kernel_rfl) (fun _ _ _ h => h) (Or.inl ⟨by rfl, ?_⟩) hS ?_
              rotate_left
              focus (intro w' hw'; go_simp; all_goals with_reducible rfl)
              try simp only [Act.put, List.setIfInBounds_toArray, List.set_cons_zero, List.set_cons_succ]
              refine wpAnyH_take (i := 15) (v := ?_) (by simp only [List.getElem?_toArray, List.getElem?_cons_succ, List.getElem?_cons_zero] <;> exact rfl) (by kernel_rfl) (by kernel_rfl) (by kernel_rfl) (fun _ _ _ h => h) (Or.inl ⟨by rfl, ?_⟩) hS ?_
              rotate_left
              focus (intro w' hw'; go_simp; all_goals with_reducible rfl)
              try simp only [Act.put, List.setIfInBounds_toArray, List.set_cons_zero, List.set_cons_succ]
              refine wpAnyH_done (by kernel_rfl) ?_ _
              refine NoPanic.normal ?_
              go_wp2
              go_meet
              exact ⟨x, y, rfl, rfl, rfl, rfl, (Ex8.row #[.int .i64 0, .string ⟨#[]⟩, .bool false]).row_other NE _, ((Ey8.row_other (Ne.symm NE) _).row #[.int .i64 1, .string ⟨#[97, 98, 99]⟩, .bool true]), hS, Mx, My⟩)
            exact AllReadyH.nil)
          exact AllReadyH.nil)
        exact AllReadyH.nil)
      refine AllReadyH.cons (o := _) (by simp only [List.getElem?_toArray, List.getElem?_cons_succ, List.getElem?_cons_zero] <;> exact rfl) (fun K hK => ?_) ?_
      focus (
        go_simp
        have hz9 := hS.size
        have hS := hS.alloc hS.size (.cells #[.int .i64 0, .string ⟨#[]⟩, .bool false] 30)
        refine hK.out _ _ hS (fun _ => ?_)
        have Ex9 := Ex6.alloc (.cells #[.int .i64 0, .string ⟨#[]⟩, .bool false] 30)
        have Ey9 := BlkIs.new wa6 30 #[.int .i64 0, .string ⟨#[]⟩, .bool false]
        obtain ⟨y, hy⟩ : ∃ g, g = wa6.heap.size := ⟨_, rfl⟩
        have My : w7.heap.size ≤ y := by rw [hy]; exact hz9
        rw [← hy] at Ey9 ⊢
        have NE : x ≠ y := by have := Ex6.lt; omega
        generalize wa6.alloc (.cells #[.int .i64 0, .string ⟨#[]⟩, .bool false] 30) = wa9 at hS Ex9 Ey9 ⊢
        clear hy hz9
        clear hK K
        try simp only [Act.put, List.setIfInBounds_toArray, List.set_cons_zero, List.set_cons_succ]
        refine wpAnyH_ready (rs := [4]) (by kernel_rfl) (by simp) ?_
        refine AllReadyH.cons (o := _) (by simp only [List.getElem?_toArray, List.getElem?_cons_succ, List.getElem?_cons_zero] <;> exact rfl) (fun K hK => ?_) ?_
        focus (
          go_simp
          go_at_call 7
          refine (HON.out _).mono ?_
          rintro e wr10 ⟨rfl, hb⟩
          have hS := hS.trans (hb.mono hS.size)
          have Ex10 := Ex9.keep hb
          have Ey10 := Ey9.keep hb
          clear hb
          go_wp2_with fail
          refine hK.out _ _ hS (fun _ => ?_)
          clear hK K
          try simp only [Act.put, List.setIfInBounds_toArray, List.set_cons_zero, List.set_cons_succ]
          refine wpAnyH_take (i := 5) (v := ?_) (by simp only [List.getElem?_toArray, List.getElem?_cons_succ, List.getElem?_cons_zero] <;> exact rfl) (by kernel_rfl) (by kernel_rfl) (by kernel_rfl) (fun _ _ _ h => h) (Or.inl ⟨by rfl, ?_⟩) hS ?_
          rotate_left
          focus (intro w' hw'; go_simp; all_goals with_reducible rfl)
          try simp only [Act.put, List.setIfInBounds_toArray, List.set_cons_zero, List.set_cons_succ]
          refine wpAnyH_take (i := 6) (v := ?_) (by simp only [List.getElem?_toArray, List.getElem?_cons_succ, List.getElem?_cons_zero] <;> exact rfl) (by kernel_rfl) (by kernel_rfl) (by kernel_rfl) (fun _ _ _ h => h) (Or.inl ⟨by rfl, ?_⟩) hS ?_
          rotate_left
          focus (intro w' hw'; go_simp; all_goals with_reducible rfl)
          try simp only [Act.put, List.setIfInBounds_toArray, List.set_cons_zero, List.set_cons_succ]
          refine wpAnyH_take (i := 7) (v := ?_) (by simp only [List.getElem?_toArray, List.getElem?_cons_succ, List.getElem?_cons_zero] <;> exact rfl) (by kernel_rfl) (by kernel_rfl) (by kernel_rfl) (fun _ _ _ h => h) (Or.inl ⟨by rfl, ?_⟩) hS ?_
          rotate_left
          focus (intro w' hw'; go_simp; all_goals with_reducible rfl)
          try simp only [Act.put, List.setIfInBounds_toArray, List.set_cons_zero, List.set_cons_succ]
          refine wpAnyH_take (i := 8) (v := ?_) (by simp only [List.getElem?_toArray, List.getElem?_cons_succ, List.getElem?_cons_zero] <;> exact rfl) (by kernel_rfl) (by kernel_rfl) (by kernel_rfl) (fun _ _ _ h => h) (Or.inl ⟨by rfl, ?_⟩) hS ?_
          rotate_left
          focus (intro w' hw'; go_simp; all_goals with_reducible rfl)
          try simp only [Act.put, List.setIfInBounds_toArray, List.set_cons_zero, List.set_cons_succ]
          refine wpAnyH_take (i := 9) (v := ?_) (by simp only [List.getElem?_toArray, List.getElem?_cons_succ, List.getElem?_cons_zero] <;> exact rfl) (by kernel_rfl) (by kernel_rfl) (by kernel_rfl) (fun _ _ _ h => h) (Or.inl ⟨by rfl, ?_⟩) hS ?_
          rotate_left
          focus (intro w' hw'; go_simp; all_goals with_reducible rfl)
          try simp only [Act.put, List.setIfInBounds_toArray, List.set_cons_zero, List.set_cons_succ]
          refine wpAnyH_ready (rs := [12]) (by kernel_rfl) (by simp) ?_
          refine AllReadyH.cons (o := _) (by simp only [List.getElem?_toArray, List.getElem?_cons_succ, List.getElem?_cons_zero] <;> exact rfl) (fun K hK => ?_) ?_
          focus (
            refine rgs_store_blk (by rfl) 29 (.tmp 12) (.tmp 61) (by rfl) x #[.int .i64 0, .string ⟨#[]⟩, .bool false] #[.int .i64 0, .string ⟨#[]⟩, .bool false] 29 (by rfl) (by rfl) Ex10 bk_size rfl (by simp [Value.oneCell']) ?_
            have hS := below_setRow hS Mx #[.int .i64 0, .string ⟨#[]⟩, .bool false]
            refine hK.out _ _ hS (fun _ => ?_)
            clear hK K
            try simp only [Act.put, List.setIfInBounds_toArray, List.set_cons_zero, List.set_cons_succ]
            refine wpAnyH_ready (rs := [13]) (by kernel_rfl) (by simp) ?_
            refine AllReadyH.cons (o := _) (by simp only [List.getElem?_toArray, List.getElem?_cons_succ, List.getElem?_cons_zero] <;> exact rfl) (fun K hK => ?_) ?_
            focus (
              refine rgs_store_blk (by rfl) 30 (.tmp 13) (.tmp 62) (by rfl) y #[.int .i64 1, .string ⟨#[97, 98, 99]⟩, .bool true] #[.int .i64 0, .string ⟨#[]⟩, .bool false] 30 (by rfl) (by rfl) (Ey10.row_other (Ne.symm NE) _) bw_size rfl (by simp [Value.oneCell']) ?_
              have hS := below_setRow hS My #[.int .i64 1, .string ⟨#[97, 98, 99]⟩, .bool true]
              refine hK.out _ _ hS (fun _ => ?_)
              clear hK K
              try simp only [Act.put, List.setIfInBounds_toArray, List.set_cons_zero, List.set_cons_succ]
              refine wpAnyH_take (i := 14) (v := ?_) (by simp only [List.getElem?_toArray, List.getElem?_cons_succ, List.getElem?_cons_zero] <;> exact rfl) (by kernel_rfl) (by kernel_rfl) (by kernel_rfl) (fun _ _ _ h => h) (Or.inl ⟨by rfl, ?_⟩) hS ?_
              rotate_left
              focus (intro w' hw'; go_simp; all_goals with_reducible rfl)
              try simp only [Act.put, List.setIfInBounds_toArray, List.set_cons_zero, List.set_cons_succ]
              refine wpAnyH_take (i := 15) (v := ?_) (by simp only [List.getElem?_toArray, List.getElem?_cons_succ, List.getElem?_cons_zero] <;> exact rfl) (by kernel_rfl) (by kernel_rfl) (by kernel_rfl) (fun _ _ _ h => h) (Or.inl ⟨by rfl, ?_⟩) hS ?_
              rotate_left
              focus (intro w' hw'; go_simp; all_goals with_reducible rfl)
              try simp only [Act.put, List.setIfInBounds_toArray, List.set_cons_zero, List.set_cons_succ]
              refine wpAnyH_done (by kernel_rfl) ?_ _
              refine NoPanic.normal ?_
              go_wp2
              go_meet
              exact ⟨x, y, rfl, rfl, rfl, rfl, (Ex10.row #[.int .i64 0, .string ⟨#[]⟩, .bool false]).row_other NE _, ((Ey10.row_other (Ne.symm NE) _).row #[.int .i64 1, .string ⟨#[97, 98, 99]⟩, .bool true]), hS, Mx, My⟩)
            exact AllReadyH.nil)
          exact AllReadyH.nil)
        exact AllReadyH.nil)
      exact AllReadyH.nil)
    refine AllReadyH.cons (o := _) (by simp only [List.getElem?_toArray, List.getElem?_cons_succ, List.getElem?_cons_zero] <;> exact rfl) (fun K hK => ?_) ?_
    focus (
      go_simp
      have hz11 := hS.size
      have hS := hS.alloc hS.size (.cells #[.int .i64 0, .string ⟨#[]⟩, .bool false] 30)
      refine hK.out _ _ hS (fun _ => ?_)
      have Ey11 := BlkIs.new wd 30 #[.int .i64 0, .string ⟨#[]⟩, .bool false]
      obtain ⟨y, hy⟩ : ∃ g, g = wd.heap.size := ⟨_, rfl⟩
      have My : w7.heap.size ≤ y := by rw [hy]; exact hz11
      rw [← hy] at Ey11 ⊢
      generalize wd.alloc (.cells #[.int .i64 0, .string ⟨#[]⟩, .bool false] 30) = wa11 at hS Ey11 ⊢
      clear hy hz11
      clear hK K
      try simp only [Act.put, List.setIfInBounds_toArray, List.set_cons_zero, List.set_cons_succ]
      refine wpAnyH_ready (rs := [4, 10]) (by kernel_rfl) (by simp) ?_
      refine AllReadyH.cons (o := _) (by simp only [List.getElem?_toArray, List.getElem?_cons_succ, List.getElem?_cons_zero] <;> exact rfl) (fun K hK => ?_) ?_
      focus (
        go_simp
        go_at_call 7
        refine (HON.out _).mono ?_
        rintro e wr12 ⟨rfl, hb⟩
        have hS := hS.trans (hb.mono hS.size)
        have Ey12 := Ey11.keep hb
        clear hb
        go_wp2_with fail
        refine hK.out _ _ hS (fun _ => ?_)
        clear hK K
        try simp only [Act.put, List.setIfInBounds_toArray, List.set_cons_zero, List.set_cons_succ]
        refine wpAnyH_take (i := 5) (v := ?_) (by simp only [List.getElem?_toArray, List.getElem?_cons_succ, List.getElem?_cons_zero] <;> exact rfl) (by kernel_rfl) (by kernel_rfl) (by kernel_rfl) (fun _ _ _ h => h) (Or.inl ⟨by rfl, ?_⟩) hS ?_
        rotate_left
        focus (intro w' hw'; go_simp; all_goals with_reducible rfl)
        try simp only [Act.put, List.setIfInBounds_toArray, List.set_cons_zero, List.set_cons_succ]
        refine wpAnyH_take (i := 6) (v := ?_) (by simp only [List.getElem?_toArray, List.getElem?_cons_succ, List.getElem?_cons_zero] <;> exact rfl) (by kernel_rfl) (by kernel_rfl) (by kernel_rfl) (fun _ _ _ h => h) (Or.inl ⟨by rfl, ?_⟩) hS ?_
        rotate_left
        focus (intro w' hw'; go_simp; all_goals with_reducible rfl)
        try simp only [Act.put, List.setIfInBounds_toArray, List.set_cons_zero, List.set_cons_succ]
        refine wpAnyH_take (i := 7) (v := ?_) (by simp only [List.getElem?_toArray, List.getElem?_cons_succ, List.getElem?_cons_zero] <;> exact rfl) (by kernel_rfl) (by kernel_rfl) (by kernel_rfl) (fun _ _ _ h => h) (Or.inl ⟨by rfl, ?_⟩) hS ?_
        rotate_left
        focus (intro w' hw'; go_simp; all_goals with_reducible rfl)
        try simp only [Act.put, List.setIfInBounds_toArray, List.set_cons_zero, List.set_cons_succ]
        refine wpAnyH_take (i := 8) (v := ?_) (by simp only [List.getElem?_toArray, List.getElem?_cons_succ, List.getElem?_cons_zero] <;> exact rfl) (by kernel_rfl) (by kernel_rfl) (by kernel_rfl) (fun _ _ _ h => h) (Or.inl ⟨by rfl, ?_⟩) hS ?_
        rotate_left
        focus (intro w' hw'; go_simp; all_goals with_reducible rfl)
        try simp only [Act.put, List.setIfInBounds_toArray, List.set_cons_zero, List.set_cons_succ]
        refine wpAnyH_take (i := 9) (v := ?_) (by simp only [List.getElem?_toArray, List.getElem?_cons_succ, List.getElem?_cons_zero] <;> exact rfl) (by kernel_rfl) (by kernel_rfl) (by kernel_rfl) (fun _ _ _ h => h) (Or.inl ⟨by rfl, ?_⟩) hS ?_
        rotate_left
        focus (intro w' hw'; go_simp; all_goals with_reducible rfl)
        try simp only [Act.put, List.setIfInBounds_toArray, List.set_cons_zero, List.set_cons_succ]
        refine wpAnyH_ready (rs := [10]) (by kernel_rfl) (by simp) ?_
        refine AllReadyH.cons (o := _) (by simp only [List.getElem?_toArray, List.getElem?_cons_succ, List.getElem?_cons_zero] <;> exact rfl) (fun K hK => ?_) ?_
        focus (
          go_simp
          have hz13 := hS.size
          have hS := hS.alloc hS.size (.cells #[.int .i64 0, .string ⟨#[]⟩, .bool false] 29)
          refine hK.out _ _ hS (fun _ => ?_)
          have Ey13 := Ey12.alloc (.cells #[.int .i64 0, .string ⟨#[]⟩, .bool false] 29)
          have Ex13 := BlkIs.new wr12 29 #[.int .i64 0, .string ⟨#[]⟩, .bool false]
          obtain ⟨x, hx⟩ : ∃ g, g = wr12.heap.size := ⟨_, rfl⟩
          have Mx : w7.heap.size ≤ x := by rw [hx]; exact hz13
          rw [← hx] at Ex13 ⊢
          have NE : x ≠ y := by have := Ey12.lt; omega
          generalize wr12.alloc (.cells #[.int .i64 0, .string ⟨#[]⟩, .bool false] 29) = wa13 at hS Ex13 Ey13 ⊢
          clear hx hz13
          clear hK K
          try simp only [Act.put, List.setIfInBounds_toArray, List.set_cons_zero, List.set_cons_succ]
          refine wpAnyH_ready (rs := [12]) (by kernel_rfl) (by simp) ?_
          refine AllReadyH.cons (o := _) (by simp only [List.getElem?_toArray, List.getElem?_cons_succ, List.getElem?_cons_zero] <;> exact rfl) (fun K hK => ?_) ?_
          focus (
            refine rgs_store_blk (by rfl) 29 (.tmp 12) (.tmp 61) (by rfl) x #[.int .i64 0, .string ⟨#[]⟩, .bool false] #[.int .i64 0, .string ⟨#[]⟩, .bool false] 29 (by rfl) (by rfl) Ex13 bk_size rfl (by simp [Value.oneCell']) ?_
            have hS := below_setRow hS Mx #[.int .i64 0, .string ⟨#[]⟩, .bool false]
            refine hK.out _ _ hS (fun _ => ?_)
            clear hK K
            try simp only [Act.put, List.setIfInBounds_toArray, List.set_cons_zero, List.set_cons_succ]
            refine wpAnyH_ready (rs := [13]) (by kernel_rfl) (by simp) ?_
            refine AllReadyH.cons (o := _) (by simp only [List.getElem?_toArray, List.getElem?_cons_succ, List.getElem?_cons_zero] <;> exact rfl) (fun K hK => ?_) ?_
            focus (
              refine rgs_store_blk (by rfl) 30 (.tmp 13) (.tmp 62) (by rfl) y #[.int .i64 1, .string ⟨#[97, 98, 99]⟩, .bool true] #[.int .i64 0, .string ⟨#[]⟩, .bool false] 30 (by rfl) (by rfl) (Ey13.row_other (Ne.symm NE) _) bw_size rfl (by simp [Value.oneCell']) ?_
              have hS := below_setRow hS My #[.int .i64 1, .string ⟨#[97, 98, 99]⟩, .bool true]
              refine hK.out _ _ hS (fun _ => ?_)
              clear hK K
              try simp only [Act.put, List.setIfInBounds_toArray, List.set_cons_zero, List.set_cons_succ]
              refine wpAnyH_take (i := 14) (v := ?_) (by simp only [List.getElem?_toArray, List.getElem?_cons_succ, List.getElem?_cons_zero] <;> exact rfl) (by kernel_rfl) (by kernel_rfl) (by kernel_rfl) (fun _ _ _ h => h) (Or.inl ⟨by rfl, ?_⟩) hS ?_
              rotate_left
              focus (intro w' hw'; go_simp; all_goals with_reducible rfl)
              try simp only [Act.put, List.setIfInBounds_toArray, List.set_cons_zero, List.set_cons_succ]
              refine wpAnyH_take (i := 15) (v := ?_) (by simp only [List.getElem?_toArray, List.getElem?_cons_succ, List.getElem?_cons_zero] <;> exact rfl) (by kernel_rfl) (by kernel_rfl) (by kernel_rfl) (fun _ _ _ h => h) (Or.inl ⟨by rfl, ?_⟩) hS ?_
              rotate_left
              focus (intro w' hw'; go_simp; all_goals with_reducible rfl)
              try simp only [Act.put, List.setIfInBounds_toArray, List.set_cons_zero, List.set_cons_succ]
              refine wpAnyH_done (by kernel_rfl) ?_ _
              refine NoPanic.normal ?_
              go_wp2
              go_meet
              exact ⟨x, y, rfl, rfl, rfl, rfl, (Ex13.row #[.int .i64 0, .string ⟨#[]⟩, .bool false]).row_other NE _, ((Ey13.row_other (Ne.symm NE) _).row #[.int .i64 1, .string ⟨#[97, 98, 99]⟩, .bool true]), hS, Mx, My⟩)
            exact AllReadyH.nil)
          exact AllReadyH.nil)
        exact AllReadyH.nil)
      refine AllReadyH.cons (o := _) (by simp only [List.getElem?_toArray, List.getElem?_cons_succ, List.getElem?_cons_zero] <;> exact rfl) (fun K hK => ?_) ?_
      focus (
        go_simp
        have hz14 := hS.size
        have hS := hS.alloc hS.size (.cells #[.int .i64 0, .string ⟨#[]⟩, .bool false] 29)
        refine hK.out _ _ hS (fun _ => ?_)
        have Ey14 := Ey11.alloc (.cells #[.int .i64 0, .string ⟨#[]⟩, .bool false] 29)
        have Ex14 := BlkIs.new wa11 29 #[.int .i64 0, .string ⟨#[]⟩, .bool false]
        obtain ⟨x, hx⟩ : ∃ g, g = wa11.heap.size := ⟨_, rfl⟩
        have Mx : w7.heap.size ≤ x := by rw [hx]; exact hz14
        rw [← hx] at Ex14 ⊢
        have NE : x ≠ y := by have := Ey11.lt; omega
        generalize wa11.alloc (.cells #[.int .i64 0, .string ⟨#[]⟩, .bool false] 29) = wa14 at hS Ex14 Ey14 ⊢
        clear hx hz14
        clear hK K
        try simp only [Act.put, List.setIfInBounds_toArray, List.set_cons_zero, List.set_cons_succ]
        refine wpAnyH_ready (rs := [4]) (by kernel_rfl) (by simp) ?_
        refine AllReadyH.cons (o := _) (by simp only [List.getElem?_toArray, List.getElem?_cons_succ, List.getElem?_cons_zero] <;> exact rfl) (fun K hK => ?_) ?_
        focus (
          go_simp
          go_at_call 7
          refine (HON.out _).mono ?_
          rintro e wr15 ⟨rfl, hb⟩
          have hS := hS.trans (hb.mono hS.size)
          have Ex15 := Ex14.keep hb
          have Ey15 := Ey14.keep hb
          clear hb
          go_wp2_with fail
          refine hK.out _ _ hS (fun _ => ?_)
          clear hK K
          try simp only [Act.put, List.setIfInBounds_toArray, List.set_cons_zero, List.set_cons_succ]
          refine wpAnyH_take (i := 5) (v := ?_) (by simp only [List.getElem?_toArray, List.getElem?_cons_succ, List.getElem?_cons_zero] <;> exact rfl) (by kernel_rfl) (by kernel_rfl) (by kernel_rfl) (fun _ _ _ h => h) (Or.inl ⟨by rfl, ?_⟩) hS ?_
          rotate_left
          focus (intro w' hw'; go_simp; all_goals with_reducible rfl)
          try simp only [Act.put, List.setIfInBounds_toArray, List.set_cons_zero, List.set_cons_succ]
          refine wpAnyH_take (i := 6) (v := ?_) (by simp only [List.getElem?_toArray, List.getElem?_cons_succ, List.getElem?_cons_zero] <;> exact rfl) (by kernel_rfl) (by kernel_rfl) (by kernel_rfl) (fun _ _ _ h => h) (Or.inl ⟨by rfl, ?_⟩) hS ?_
          rotate_left
          focus (intro w' hw'; go_simp; all_goals with_reducible rfl)
          try simp only [Act.put, List.setIfInBounds_toArray, List.set_cons_zero, List.set_cons_succ]
          refine wpAnyH_take (i := 7) (v := ?_) (by simp only [List.getElem?_toArray, List.getElem?_cons_succ, List.getElem?_cons_zero] <;> exact rfl) (by kernel_rfl) (by kernel_rfl) (by kernel_rfl) (fun _ _ _ h => h) (Or.inl ⟨by rfl, ?_⟩) hS ?_
          rotate_left
          focus (intro w' hw'; go_simp; all_goals with_reducible rfl)
          try simp only [Act.put, List.setIfInBounds_toArray, List.set_cons_zero, List.set_cons_succ]
          refine wpAnyH_take (i := 8) (v := ?_) (by simp only [List.getElem?_toArray, List.getElem?_cons_succ, List.getElem?_cons_zero] <;> exact rfl) (by kernel_rfl) (by kernel_rfl) (by kernel_rfl) (fun _ _ _ h => h) (Or.inl ⟨by rfl, ?_⟩) hS ?_
          rotate_left
          focus (intro w' hw'; go_simp; all_goals with_reducible rfl)
          try simp only [Act.put, List.setIfInBounds_toArray, List.set_cons_zero, List.set_cons_succ]
          refine wpAnyH_take (i := 9) (v := ?_) (by simp only [List.getElem?_toArray, List.getElem?_cons_succ, List.getElem?_cons_zero] <;> exact rfl) (by kernel_rfl) (by kernel_rfl) (by kernel_rfl) (fun _ _ _ h => h) (Or.inl ⟨by rfl, ?_⟩) hS ?_
          rotate_left
          focus (intro w' hw'; go_simp; all_goals with_reducible rfl)
          try simp only [Act.put, List.setIfInBounds_toArray, List.set_cons_zero, List.set_cons_succ]
          refine wpAnyH_ready (rs := [12]) (by kernel_rfl) (by simp) ?_
          refine AllReadyH.cons (o := _) (by simp only [List.getElem?_toArray, List.getElem?_cons_succ, List.getElem?_cons_zero] <;> exact rfl) (fun K hK => ?_) ?_
          focus (
            refine rgs_store_blk (by rfl) 29 (.tmp 12) (.tmp 61) (by rfl) x #[.int .i64 0, .string ⟨#[]⟩, .bool false] #[.int .i64 0, .string ⟨#[]⟩, .bool false] 29 (by rfl) (by rfl) Ex15 bk_size rfl (by simp [Value.oneCell']) ?_
            have hS := below_setRow hS Mx #[.int .i64 0, .string ⟨#[]⟩, .bool false]
            refine hK.out _ _ hS (fun _ => ?_)
            clear hK K
            try simp only [Act.put, List.setIfInBounds_toArray, List.set_cons_zero, List.set_cons_succ]
            refine wpAnyH_ready (rs := [13]) (by kernel_rfl) (by simp) ?_
            refine AllReadyH.cons (o := _) (by simp only [List.getElem?_toArray, List.getElem?_cons_succ, List.getElem?_cons_zero] <;> exact rfl) (fun K hK => ?_) ?_
            focus (
              refine rgs_store_blk (by rfl) 30 (.tmp 13) (.tmp 62) (by rfl) y #[.int .i64 1, .string ⟨#[97, 98, 99]⟩, .bool true] #[.int .i64 0, .string ⟨#[]⟩, .bool false] 30 (by rfl) (by rfl) (Ey15.row_other (Ne.symm NE) _) bw_size rfl (by simp [Value.oneCell']) ?_
              have hS := below_setRow hS My #[.int .i64 1, .string ⟨#[97, 98, 99]⟩, .bool true]
              refine hK.out _ _ hS (fun _ => ?_)
              clear hK K
              try simp only [Act.put, List.setIfInBounds_toArray, List.set_cons_zero, List.set_cons_succ]
              refine wpAnyH_take (i := 14) (v := ?_) (by simp only [List.getElem?_toArray, List.getElem?_cons_succ, List.getElem?_cons_zero] <;> exact rfl) (by kernel_rfl) (by kernel_rfl) (by kernel_rfl) (fun _ _ _ h => h) (Or.inl ⟨by rfl, ?_⟩) hS ?_
              rotate_left
              focus (intro w' hw'; go_simp; all_goals with_reducible rfl)
              try simp only [Act.put, List.setIfInBounds_toArray, List.set_cons_zero, List.set_cons_succ]
              refine wpAnyH_take (i := 15) (v := ?_) (by simp only [List.getElem?_toArray, List.getElem?_cons_succ, List.getElem?_cons_zero] <;> exact rfl) (by kernel_rfl) (by kernel_rfl) (by kernel_rfl) (fun _ _ _ h => h) (Or.inl ⟨by rfl, ?_⟩) hS ?_
              rotate_left
              focus (intro w' hw'; go_simp; all_goals with_reducible rfl)
              try simp only [Act.put, List.setIfInBounds_toArray, List.set_cons_zero, List.set_cons_succ]
              refine wpAnyH_done (by kernel_rfl) ?_ _
              refine NoPanic.normal ?_
              go_wp2
              go_meet
              exact ⟨x, y, rfl, rfl, rfl, rfl, (Ex15.row #[.int .i64 0, .string ⟨#[]⟩, .bool false]).row_other NE _, ((Ey15.row_other (Ne.symm NE) _).row #[.int .i64 1, .string ⟨#[97, 98, 99]⟩, .bool true]), hS, Mx, My⟩)
            exact AllReadyH.nil)
          exact AllReadyH.nil)
        exact AllReadyH.nil)
      exact AllReadyH.nil)
    exact AllReadyH.nil
  obtain ⟨w8, hw8⟩ : ∃ x, x = wc := ⟨_, rfl⟩
  subst hw8
  obtain ⟨x, y, rfl, rfl, rfl, rfl, hkx, hky, hb, _, _⟩ := hcut
  have AT := hide (show AwT w w8 gl p x y from ⟨AS7.out.keep hb, hkx, hky⟩)
  clear hkx hky hb AS7 KST HRG HON
  have HON := hide (on_is aw_on4 (by decide) (by decide) (by decide))
  go_upto_region 8 with (fail)
  refine wp_region_lit ?_
  refine rgs_built_want (by rfl) 29 #[] rfl #[.int .i64 0, .string ⟨#[]⟩, .bool false] (by kernel_rfl) ?_
  simp only [Act.put, List.setIfInBounds_toArray, List.set_cons_zero, List.set_cons_succ]
  go_wp2_with (first | (refine wpList_load_mid rfl 34 (.tmp 68) rfl gl 12 rfl aF1.cl _ AT.out.s.r1.2 Try.underlying34 rfl bf_size ?_))
  refine (HON.out _).mono ?_
  rintro e w9 ⟨rfl, hb⟩
  have AT9 := hide (AT.out.keep hb)
  clear hb AT HON
  go_upto_region 9 with (fail)
  have AT10 := hide ((AT9.out.alloc (.cells #[.int .i64 0, .string ⟨#[]⟩, .bool false] 29)).alloc (.cells #[.int .i64 0, .string ⟨#[]⟩, .bool false] 30))
  generalize (w9.alloc (.cells #[.int .i64 0, .string ⟨#[]⟩, .bool false] 29)).alloc (.cells #[.int .i64 0, .string ⟨#[]⟩, .bool false] 30) = w10 at AT10 ⊢
  clear AT9
  have HPA : Calls Try.prog 13 #[.int .i64 0, .slice none 0 0, .bool false, .int .i64 1] w10 (GivesParts 34 [] 0 8 w10) := by have h := bk_Parts 0 1 none 0 0 false [] (Nat.le_refl _) (fun _ => rfl) w10 (RB.nothing _ _); rw [aw_none] at h; exact h
  go_wp2_with fail
  refine HPA.mono ?_
  rintro e w11 ⟨v, rfl, hown, hb⟩
  have AT11 := hide (AT10.out.keep hb)
  clear HPA hown hb AT10
  obtain ⟨x0, x1, x2⟩ := bk_cells AT11.out.kx
  obtain ⟨y0, y1, y2⟩ := bk_cells AT11.out.ky
  obtain ⟨p0_, p1_, p2_⟩ := bk_cells AT11.out.s.k3
  have l1 := AT11.out.s.r0.cell 1 (.int .u8 1) rfl
  have l12 := AT11.out.s.r1.cell 0 (.int .u8 9) rfl
  have l13 := AT11.out.s.r1.cell 1 (.int .u8 4) rfl
  simp only [Nat.zero_add, Nat.reduceAdd] at l1 l12 l13
  go_wp2_with fail
  refine (aw_ch _).mono ?_
  rintro e w12 ⟨rfl, hb⟩
  have AT12 := hide (AT11.out.keep hb)
  clear hb AT11
  clear x0 x1 x2 y0 y1 y2 p0_ p1_ p2_ l1 l12 l13
  obtain ⟨x0, x1, x2⟩ := bk_cells AT12.out.kx
  obtain ⟨y0, y1, y2⟩ := bk_cells AT12.out.ky
  obtain ⟨p0_, p1_, p2_⟩ := bk_cells AT12.out.s.k3
  have l1 := AT12.out.s.r0.cell 1 (.int .u8 1) rfl
  have l12 := AT12.out.s.r1.cell 0 (.int .u8 9) rfl
  have l13 := AT12.out.s.r1.cell 1 (.int .u8 4) rfl
  simp only [Nat.zero_add, Nat.reduceAdd] at l1 l12 l13
  go_wp2_with fail
  refine (aw_cs _).mono ?_
  rintro e w13 ⟨rfl, hb⟩
  have AT13 := hide (AT12.out.keep hb)
  clear hb AT12
  clear x0 x1 x2 y0 y1 y2 p0_ p1_ p2_ l1 l12 l13
  obtain ⟨x0, x1, x2⟩ := bk_cells AT13.out.kx
  obtain ⟨y0, y1, y2⟩ := bk_cells AT13.out.ky
  obtain ⟨p0_, p1_, p2_⟩ := bk_cells AT13.out.s.k3
  have l1 := AT13.out.s.r0.cell 1 (.int .u8 1) rfl
  have l12 := AT13.out.s.r1.cell 0 (.int .u8 9) rfl
  have l13 := AT13.out.s.r1.cell 1 (.int .u8 4) rfl
  simp only [Nat.zero_add, Nat.reduceAdd] at l1 l12 l13
  go_wp2_with fail
  refine (aw_cn _).mono ?_
  rintro e w14 ⟨rfl, hb⟩
  have AT14 := hide (AT13.out.keep hb)
  clear hb AT13
  clear x0 x1 x2 y0 y1 y2 p0_ p1_ p2_ l1 l12 l13
  obtain ⟨x0, x1, x2⟩ := bk_cells AT14.out.kx
  obtain ⟨y0, y1, y2⟩ := bk_cells AT14.out.ky
  obtain ⟨p0_, p1_, p2_⟩ := bk_cells AT14.out.s.k3
  have l1 := AT14.out.s.r0.cell 1 (.int .u8 1) rfl
  have l12 := AT14.out.s.r1.cell 0 (.int .u8 9) rfl
  have l13 := AT14.out.s.r1.cell 1 (.int .u8 4) rfl
  simp only [Nat.zero_add, Nat.reduceAdd] at l1 l12 l13
  go_wp2_with fail
  go_ret
  exact ⟨rfl, AT14.out.s.bl⟩
end Go.Proofs.Ytighhdgaaelcdaa
