/-
  BlockOns: its walk: for every state and frame the Go text returns true, and leaves what was there as it was.
-/
import Derived.Test.YtighhdgaaelcdaaBkAwake
import Derived.Test.YtighhdgaaelcdaaRkOn
import Derived.Test.YtighhdgaaelcdaaFrOpen
import Derived.BigGuardPart
namespace Go.Proofs.Ytighhdgaaelcdaa
set_option linter.unusedSimpArgs false
set_option linter.unusedVariables false
open Go.RowKit
theorem onB_c (b : Bk) (F : Fr) : 0 ≤ (onB b F).c ∧ (onB b F).c ≤ 11 := by
  unfold onB
  repeat' split
  all_goals exact ⟨by simp, by simp⟩
theorem blk_three {w : World} {a b c : Array Value} {t u v : TypeId} : BlkIs (((w.alloc (.cells a t)).alloc (.cells b u)).alloc (.cells c v)) (w.heap.size + 1 + 1) v c := by
  have := BlkIs.new ((w.alloc (.cells a t)).alloc (.cells b u)) v c
  simpa using this
theorem sameB_if (g : Int) (B : ByteArray) (d : Bool) (g' : Int) (B' : ByteArray) (d' : Bool) (w : World) :
    (if g = g' then (if B.toList = B'.toList then (if d = d' then (Result.ok (Next.value (.bool true)) w : Result Next) else Result.ok (Next.value (.bool false)) w) else Result.ok (Next.value (.bool false)) w) else Result.ok (Next.value (.bool false)) w) = Result.ok (Next.value (.bool (sameB g B d g' B' d'))) w := by
  have h := ba_list B B'
  unfold sameB
  by_cases h1 : g = g'
  · by_cases h2 : B = B'
    · by_cases h3 : d = d' <;> simp [h1, h2, h3]
    · have h4 : ¬ B.toList = B'.toList := fun e => h2 (h.1 e)
      simp [h1, h2, h4]
  · simp [h1]
end Go.Proofs.Ytighhdgaaelcdaa
namespace Go.Proofs.Ytighhdgaaelcdaa.blockOns
set_option linter.unusedSimpArgs false
set_option linter.unusedVariables false
open Go.RowKit Go.Proofs.Ytighhdgaaelcdaa

set_option maxRecDepth 100000 in
set_option maxHeartbeats 6400000 in
theorem walk (s : Int) (d : ByteArray) (e : Bool) (s' : Int) (d' : ByteArray) (e' : Bool) (F : Fr) (A : Option Addr) (n c : Nat) (l : List Pr) (w : World) (_w0 : (Lit.int .i64 s).wf = true) (_w1 : d.size ≤ maxLen) (_w2 : (Lit.int .i64 s').wf = true) (_w3 : d'.size ≤ maxLen) (za : PL w A n c l) (_zb : AllP l) (ok : FrOk F) :
    Calls Try.prog 3 #[.agg #[.int .i64 s, .string d, .bool e], .agg #[.int .i64 s', .string d', .bool e'], .agg (F.cs A n c)] w fun e w' => e = .returned (.bool true) ∧ Below w.heap.size w w' := by
  obtain ⟨_, _, _, q3, _, _, _, _, _, _, _, q11⟩ := fr_qs F A n c
  have hcz : (F.cs A n c).size = 12 := rfl
  have hdl := ok.data
  have hfl := ok.fl
  have hfl2 := bounds_u8 hfl
  have hmx := za.max
  have hle := za.le
  have HAW := hide (fun w => aw_block w)
  unfold maxLen at _w1 _w3 hdl hmx
  have H1 := hide (fun (w : World) (h : ¬ 5000 < F.data.size) => bk_On s d e F A n c hfl2.1 hfl2.2 (by omega) w)
  have H2 := hide (fun (w : World) (h : ¬ 5000 < F.data.size) => rk_On s d e F A n c hfl2.1 hfl2.2 (by omega) w)
  have hcb := onB_c ⟨s, d, e⟩ F
  generalize onB ⟨s, d, e⟩ F = R at *
  obtain ⟨⟨rs, rd, re⟩, ⟨vs, vd, ve⟩, ri, rc⟩ := R
  simp only at hcb
  have HFC := hide (IntWalk.i64_in rc (by omega))
  have c0 := hcb.1
  have c11 := hcb.2
  obtain ⟨ds, hds⟩ : ∃ k, k = F.data.size := ⟨_, rfl⟩
  rw [← hds] at H1 H2 hdl
  have HDS := hide hds
  clear _w0 _w2 za _zb ok hfl hfl2 hcb hds
  generalize F.cs A n c = cs at *
  by_cases hB : 5000 < d.size
  · have hB1 : (5000 : Int) < (d.size : Int) := by omega
    clear hB
    have hq3 := q3
    have HD := HDS.out
    skip
    clear H1 H2 HFC c0 c11 hmx hle _w1 _w3 hdl hcz
    go_enter Try.func3, Try.ntmps3
    go_wp2_with fail
    refine (HAW.out _).mono ?_
    rintro e w1 ⟨rfl, hb1⟩
    have B1 := hide ((below_three (w := w) (o := .cells #[.int .i64 s, .string d, .bool e] 23) (o' := .cells #[.int .i64 s', .string d', .bool e'] 23) (o'' := .cells cs 27)).trans (hb1.mono (by simp; omega)))
    clear hb1
    go_wp2_with fail
    go_ret
    exact ⟨rfl, B1.out⟩
  have hB1 : ¬ (5000 : Int) < (d.size : Int) := by omega
  by_cases hF : 5000 < ds
  · have hB2 : (5000 : Int) < (F.data.size : Int) := by rw [← HDS.out]; omega
    clear hB hF
    have hq3 := q3
    have HD := HDS.out
    skip
    clear H1 H2 HFC c0 c11 hmx hle _w1 _w3 hdl hcz
    go_enter Try.func3, Try.ntmps3
    go_wp2_with fail
    refine (HAW.out _).mono ?_
    rintro e w1 ⟨rfl, hb1⟩
    have B1 := hide ((below_three (w := w) (o := .cells #[.int .i64 s, .string d, .bool e] 23) (o' := .cells #[.int .i64 s', .string d', .bool e'] 23) (o'' := .cells cs 27)).trans (hb1.mono (by simp; omega)))
    clear hb1
    go_wp2_with fail
    go_ret
    exact ⟨rfl, B1.out⟩
  have hB2 : ¬ (5000 : Int) < (F.data.size : Int) := by rw [← HDS.out]; omega
  by_cases hO : 5000 < d'.size
  · have hB3 : (5000 : Int) < (d'.size : Int) := by omega
    clear hB hF hO
    have hq3 := q3
    have HD := HDS.out
    skip
    clear H1 H2 HFC c0 c11 hmx hle _w1 _w3 hdl hcz
    go_enter Try.func3, Try.ntmps3
    go_wp2_with fail
    refine (HAW.out _).mono ?_
    rintro e w1 ⟨rfl, hb1⟩
    have B1 := hide ((below_three (w := w) (o := .cells #[.int .i64 s, .string d, .bool e] 23) (o' := .cells #[.int .i64 s', .string d', .bool e'] 23) (o'' := .cells cs 27)).trans (hb1.mono (by simp; omega)))
    clear hb1
    go_wp2_with fail
    go_ret
    exact ⟨rfl, B1.out⟩
  have hB3 : ¬ (5000 : Int) < (d'.size : Int) := by omega
  by_cases hN : 40 < n
  · have hB4 : (40 : Int) < (n : Int) := by omega
    clear hB hF hO hN
    have hq3 := q3
    have HD := HDS.out
    skip
    clear H1 H2 HFC c0 c11 hmx hle _w1 _w3 hdl hcz
    go_enter Try.func3, Try.ntmps3
    go_wp2_with fail
    refine (HAW.out _).mono ?_
    rintro e w1 ⟨rfl, hb1⟩
    have B1 := hide ((below_three (w := w) (o := .cells #[.int .i64 s, .string d, .bool e] 23) (o' := .cells #[.int .i64 s', .string d', .bool e'] 23) (o'' := .cells cs 27)).trans (hb1.mono (by simp; omega)))
    clear hb1
    go_wp2_with fail
    go_ret
    exact ⟨rfl, B1.out⟩
  have hB4 : ¬ (40 : Int) < (n : Int) := by omega
  have HON := hide (show ∀ w, Calls Try.prog 7 #[.agg #[.int .i64 s, .string d, .bool e], .agg cs] w fun r w' => r = .returned (.tuple #[.agg #[.int .i64 rs, .string rd, .bool re], .agg #[.int .i64 vs, .string vd, .bool ve], .bool ri, .int .u32 rc]) ∧ Below w.heap.size w w' from fun w => H1.out w hF)
  have HRN := hide (show ∀ w, Calls Try.prog 8 #[.agg #[.int .i64 s, .string d, .bool e], .agg cs] w fun r w' => r = .returned (.tuple #[.agg #[.int .i64 rs, .string rd, .bool re], .agg #[.int .i64 vs, .string vd, .bool ve], .bool ri, .int .i64 rc]) ∧ Below w.heap.size w w' from fun w => H2.out w hF)
  have HK1 := hide (fun w => bk_Check s d e w)
  have HK2 := hide (fun w => rf_Check11 s d e w)
  generalize Bk.chk ⟨s, d, e⟩ = ck at HK1 HK2
  have HOP := hide (fun w => bk_Open s d e w)
  have HS := hide (fun w => bk_Same s d e s' d' e' w)
  obtain ⟨sm, hsm⟩ : ∃ k, k = sameB s d e s' d' e' := ⟨_, rfl⟩
  rw [← hsm] at HS
  have HSM := hide hsm
  obtain ⟨op, hop⟩ : ∃ k, k = !decide (s = 0) := ⟨_, rfl⟩
  rw [← hop] at HOP
  have HOV := hide (show (s != 0) = op by rw [hop, bneI])
  have HCZ := hide hcz
  clear hB hF hO hN H1 H2 hmx hle _w1 _w3 hdl hcz hsm hop
  go_enter Try.func3, Try.ntmps3
  go_upto_region 3 with (fail)
  clear hB1 hB2 hB3 hB4 q3 q11
  obtain ⟨p, hp⟩ : ∃ g, g = w.heap.size := ⟨_, rfl⟩
  have Kst := hide (((BlkIs.new w 23 #[.int .i64 s, .string d, .bool e]).alloc (.cells #[.int .i64 s', .string d', .bool e'] 23)).alloc (.cells cs 27))
  have Ko := hide ((blk_two (w := w) (t := 23) (cs := #[.int .i64 s, .string d, .bool e]) (t' := 23) (cs' := #[.int .i64 s', .string d', .bool e'])).alloc (.cells cs 27))
  have Kf := hide (blk_three (w := w) (t := 23) (a := #[.int .i64 s, .string d, .bool e]) (u := 23) (b := #[.int .i64 s', .string d', .bool e']) (v := 27) (c := cs))
  have Ba := hide (below_three (w := w) (o := .cells #[.int .i64 s, .string d, .bool e] 23) (o' := .cells #[.int .i64 s', .string d', .bool e'] 23) (o'' := .cells cs 27))
  rw [← hp] at Kst Ko Kf ⊢
  generalize ((w.alloc (.cells #[.int .i64 s, .string d, .bool e] 23)).alloc (.cells #[.int .i64 s', .string d', .bool e'] 23)).alloc (.cells cs 27) = wa at Kst Ko Kf Ba ⊢
  clear hp
  go_wp2_with (first | (refine wpList_load_blk rfl 23 (.tmp 3) rfl p rfl 23 #[.int .i64 s, .string d, .bool e] _ Kst.out Try.underlying23 rfl rs_size ?_) | (refine wpList_load_blk rfl 27 (.tmp 5) rfl (p + 1 + 1) rfl 27 cs _ Kf.out Try.underlying27 rfl (by rw [HCZ.out]; exact rff_size) ?_))
  refine (HON.out _).mono ?_
  rintro e w1 ⟨rfl, hb1⟩
  have Kst1 := hide (Kst.out.keep hb1)
  have Ko1 := hide (Ko.out.keep hb1)
  have Kf1 := hide (Kf.out.keep hb1)
  have B1 := hide (Ba.out.trans (hb1.mono Ba.out.size))
  clear hb1 Kst Ko Kf Ba
  go_upto_region 4 with (fail)
  have KA2 := hide ((BlkIs.new w1 29 #[.int .i64 rs, .string rd, .bool re]).alloc (.cells #[.int .i64 vs, .string vd, .bool ve] 30))
  have KB2 := hide (blk_two (w := w1) (t := 29) (cs := #[.int .i64 rs, .string rd, .bool re]) (t' := 30) (cs' := #[.int .i64 vs, .string vd, .bool ve]))
  have Kst2 := hide ((Kst1.out.alloc (.cells #[.int .i64 rs, .string rd, .bool re] 29)).alloc (.cells #[.int .i64 vs, .string vd, .bool ve] 30))
  have Ko2 := hide ((Ko1.out.alloc (.cells #[.int .i64 rs, .string rd, .bool re] 29)).alloc (.cells #[.int .i64 vs, .string vd, .bool ve] 30))
  have Kf2 := hide ((Kf1.out.alloc (.cells #[.int .i64 rs, .string rd, .bool re] 29)).alloc (.cells #[.int .i64 vs, .string vd, .bool ve] 30))
  have B2 := hide ((B1.out.alloc B1.out.size (.cells #[.int .i64 rs, .string rd, .bool re] 29)).alloc (by rw [World.size_alloc]; have := B1.out.size; omega) (.cells #[.int .i64 vs, .string vd, .bool ve] 30))
  obtain ⟨q2, hq2⟩ : ∃ g, g = w1.heap.size := ⟨_, rfl⟩
  rw [← hq2] at KA2 KB2 ⊢
  generalize (w1.alloc (.cells #[.int .i64 rs, .string rd, .bool re] 29)).alloc (.cells #[.int .i64 vs, .string vd, .bool ve] 30) = w2 at Kst2 Ko2 Kf2 B2 KA2 KB2 ⊢
  clear hq2 Kst1 Ko1 Kf1 B1
  go_wp2_with (first | (refine wpList_load_blk rfl 23 (.tmp 3) rfl p rfl 23 #[.int .i64 s, .string d, .bool e] _ Kst2.out Try.underlying23 rfl rs_size ?_) | (refine wpList_load_blk rfl 27 (.tmp 5) rfl (p + 1 + 1) rfl 27 cs _ Kf2.out Try.underlying27 rfl (by rw [HCZ.out]; exact rff_size) ?_))
  refine (HRN.out _).mono ?_
  rintro e w3 ⟨rfl, hb3⟩
  have Kst3 := hide (Kst2.out.keep hb3)
  have Ko3 := hide (Ko2.out.keep hb3)
  have Kf3 := hide (Kf2.out.keep hb3)
  have Kx3 := hide (KA2.out.keep hb3)
  have Ky3 := hide (KB2.out.keep hb3)
  have B3 := hide (B2.out.trans (hb3.mono B2.out.size))
  clear hb3 Kst2 Ko2 Kf2 KA2 KB2 B2
  go_upto_region 5 with (fail)
  have KA4 := hide ((BlkIs.new w3 23 #[.int .i64 rs, .string rd, .bool re]).alloc (.cells #[.int .i64 vs, .string vd, .bool ve] 23))
  have KB4 := hide (blk_two (w := w3) (t := 23) (cs := #[.int .i64 rs, .string rd, .bool re]) (t' := 23) (cs' := #[.int .i64 vs, .string vd, .bool ve]))
  have Kst4 := hide ((Kst3.out.alloc (.cells #[.int .i64 rs, .string rd, .bool re] 23)).alloc (.cells #[.int .i64 vs, .string vd, .bool ve] 23))
  have Ko4 := hide ((Ko3.out.alloc (.cells #[.int .i64 rs, .string rd, .bool re] 23)).alloc (.cells #[.int .i64 vs, .string vd, .bool ve] 23))
  have Kf4 := hide ((Kf3.out.alloc (.cells #[.int .i64 rs, .string rd, .bool re] 23)).alloc (.cells #[.int .i64 vs, .string vd, .bool ve] 23))
  have Kx4 := hide ((Kx3.out.alloc (.cells #[.int .i64 rs, .string rd, .bool re] 23)).alloc (.cells #[.int .i64 vs, .string vd, .bool ve] 23))
  have Ky4 := hide ((Ky3.out.alloc (.cells #[.int .i64 rs, .string rd, .bool re] 23)).alloc (.cells #[.int .i64 vs, .string vd, .bool ve] 23))
  have B4 := hide ((B3.out.alloc B3.out.size (.cells #[.int .i64 rs, .string rd, .bool re] 23)).alloc (by rw [World.size_alloc]; have := B3.out.size; omega) (.cells #[.int .i64 vs, .string vd, .bool ve] 23))
  obtain ⟨q4, hq4⟩ : ∃ g, g = w3.heap.size := ⟨_, rfl⟩
  rw [← hq4] at KA4 KB4 ⊢
  generalize (w3.alloc (.cells #[.int .i64 rs, .string rd, .bool re] 23)).alloc (.cells #[.int .i64 vs, .string vd, .bool ve] 23) = w4 at Kst4 Ko4 Kf4 Kx4 Ky4 B4 KA4 KB4 ⊢
  clear hq4 Kst3 Ko3 Kf3 Kx3 Ky3 B3
  refine wp_region_noPanic ?_
  refine wp_region_held_drew (S := fun w' => Below w4.heap.size w4 w') (by kernel_rfl) (Below.refl _ _).drew (fun hS => ?_)
  refine wpAnyH_take (i := 0) (by simp only [List.getElem?_toArray, List.getElem?_cons_zero] <;> exact rfl) (by kernel_rfl) (by kernel_rfl) (by kernel_rfl) (fun _ _ _ h => h) (rgs_yields_blk (by rfl) 29 (.tmp 7) (by rfl) q2 (by rfl) 29 #[.int .i64 rs, .string rd, .bool re] _ (fun w' hw' => Kx4.out.keep hw') Try.underlying29 rfl bk_size) hS ?_
  try simp only [Act.put, List.setIfInBounds_toArray, List.set_cons_zero, List.set_cons_succ]
  refine wpAnyH_take (i := 1) (by simp only [List.getElem?_toArray, List.getElem?_cons_succ, List.getElem?_cons_zero] <;> exact rfl) (by kernel_rfl) (by kernel_rfl) (by kernel_rfl) (fun _ _ _ h => h) (rgs_yields_blk (by rfl) 23 (.tmp 11) (by rfl) q4 (by rfl) 23 #[.int .i64 rs, .string rd, .bool re] _ (fun w' hw' => KA4.out.keep hw') Try.underlying23 rfl rs_size) hS ?_
  try simp only [Act.put, List.setIfInBounds_toArray, List.set_cons_zero, List.set_cons_succ]
  refine wpAnyH_take (i := 2) (v := .bool true) (by simp only [List.getElem?_toArray, List.getElem?_cons_succ, List.getElem?_cons_zero] <;> exact rfl) (by kernel_rfl) (by kernel_rfl) (by kernel_rfl) (fun _ _ _ h => h) (Or.inl ⟨by rfl, ?_⟩) hS ?_
  focus (intro w' hw'; go_simp)
  try simp only [Act.put, List.setIfInBounds_toArray, List.set_cons_zero, List.set_cons_succ]
  refine wpAnyH_take (i := 3) (v := ?_) (by simp only [List.getElem?_toArray, List.getElem?_cons_succ, List.getElem?_cons_zero] <;> exact rfl) (by kernel_rfl) (by kernel_rfl) (by kernel_rfl) (fun _ _ _ h => h) (Or.inl ⟨by rfl, ?_⟩) hS ?_
  rotate_left
  focus (intro w' hw'; go_simp; all_goals with_reducible rfl)
  try simp only [Act.put, List.setIfInBounds_toArray, List.set_cons_zero, List.set_cons_succ]
  refine wpAnyH_take (i := 4) (by simp only [List.getElem?_toArray, List.getElem?_cons_succ, List.getElem?_cons_zero] <;> exact rfl) (by kernel_rfl) (by kernel_rfl) (by kernel_rfl) (fun _ _ _ h => h) (rgs_yields_blk (by rfl) 30 (.tmp 8) (by rfl) (q2 + 1) (by rfl) 30 #[.int .i64 vs, .string vd, .bool ve] _ (fun w' hw' => Ky4.out.keep hw') Try.underlying30 rfl bw_size) hS ?_
  try simp only [Act.put, List.setIfInBounds_toArray, List.set_cons_zero, List.set_cons_succ]
  refine wpAnyH_take (i := 5) (by simp only [List.getElem?_toArray, List.getElem?_cons_succ, List.getElem?_cons_zero] <;> exact rfl) (by kernel_rfl) (by kernel_rfl) (by kernel_rfl) (fun _ _ _ h => h) (rgs_yields_blk (by rfl) 23 (.tmp 12) (by rfl) (q4 + 1) (by rfl) 23 #[.int .i64 vs, .string vd, .bool ve] _ (fun w' hw' => KB4.out.keep hw') Try.underlying23 rfl rs_size) hS ?_
  try simp only [Act.put, List.setIfInBounds_toArray, List.set_cons_zero, List.set_cons_succ]
  refine wpAnyH_take (i := 6) (v := .bool true) (by simp only [List.getElem?_toArray, List.getElem?_cons_succ, List.getElem?_cons_zero] <;> exact rfl) (by kernel_rfl) (by kernel_rfl) (by kernel_rfl) (fun _ _ _ h => h) (Or.inl ⟨by rfl, ?_⟩) hS ?_
  focus (intro w' hw'; go_simp)
  try simp only [Act.put, List.setIfInBounds_toArray, List.set_cons_zero, List.set_cons_succ]
  refine wpAnyH_take (i := 7) (v := ?_) (by simp only [List.getElem?_toArray, List.getElem?_cons_succ, List.getElem?_cons_zero] <;> exact rfl) (by kernel_rfl) (by kernel_rfl) (by kernel_rfl) (fun _ _ _ h => h) (Or.inl ⟨by rfl, ?_⟩) hS ?_
  rotate_left
  focus (intro w' hw'; go_simp; all_goals with_reducible rfl)
  try simp only [Act.put, List.setIfInBounds_toArray, List.set_cons_zero, List.set_cons_succ]
  refine wpAnyH_take (i := 8) (v := ?_) (by simp only [List.getElem?_toArray, List.getElem?_cons_succ, List.getElem?_cons_zero] <;> exact rfl) (by kernel_rfl) (by kernel_rfl) (by kernel_rfl) (fun _ _ _ h => h) (Or.inl ⟨by rfl, ?_⟩) hS ?_
  rotate_left
  focus (intro w' hw'; go_simp; all_goals with_reducible rfl)
  try simp only [Act.put, List.setIfInBounds_toArray, List.set_cons_zero, List.set_cons_succ]
  refine wpAnyH_take (i := 9) (v := ?_) (by simp only [List.getElem?_toArray, List.getElem?_cons_succ, List.getElem?_cons_zero] <;> exact rfl) (by kernel_rfl) (by kernel_rfl) (by kernel_rfl) (fun _ _ _ h => h) (Or.inl ⟨by rfl, ?_⟩) hS ?_
  rotate_left
  focus (intro w' hw'; go_simp; all_goals with_reducible rfl)
  try simp only [Act.put, List.setIfInBounds_toArray, List.set_cons_zero, List.set_cons_succ]
  refine wpAnyH_take (i := 10) (v := ?_) (by simp only [List.getElem?_toArray, List.getElem?_cons_succ, List.getElem?_cons_zero] <;> exact rfl) (by kernel_rfl) (by kernel_rfl) (by kernel_rfl) (fun _ _ _ h => h) (Or.inl ⟨by rfl, ?_⟩) hS ?_
  rotate_left
  focus (intro w' hw'; go_simp; all_goals with_reducible rfl)
  try simp only [Act.put, List.setIfInBounds_toArray, List.set_cons_zero, List.set_cons_succ]
  refine wpAnyH_take (i := 11) (v := ?_) (by simp only [List.getElem?_toArray, List.getElem?_cons_succ, List.getElem?_cons_zero] <;> exact rfl) (by kernel_rfl) (by kernel_rfl) (by kernel_rfl) (fun _ _ _ h => h) (Or.inl ⟨by rfl, ?_⟩) hS ?_
  rotate_left
  focus (intro w' hw'; go_simp; all_goals with_reducible rfl)
  try simp only [Act.put, List.setIfInBounds_toArray, List.set_cons_zero, List.set_cons_succ]
  refine wpAnyH_take (i := 12) (v := ?_) (by simp only [List.getElem?_toArray, List.getElem?_cons_succ, List.getElem?_cons_zero] <;> exact rfl) (by kernel_rfl) (by kernel_rfl) (by kernel_rfl) (fun _ _ _ h => h) (Or.inl ⟨by rfl, ?_⟩) hS ?_
  rotate_left
  focus (intro w' hw'; go_simp; all_goals with_reducible rfl)
  try simp only [Act.put, List.setIfInBounds_toArray, List.set_cons_zero, List.set_cons_succ]
  refine wpAnyH_take (i := 13) (v := ?_) (by simp only [List.getElem?_toArray, List.getElem?_cons_succ, List.getElem?_cons_zero] <;> exact rfl) (by kernel_rfl) (by kernel_rfl) (by kernel_rfl) (fun _ _ _ h => h) (Or.inl ⟨by rfl, ?_⟩) hS ?_
  rotate_left
  focus (intro w' hw'; go_simp; all_goals with_reducible rfl)
  try simp only [Act.put, List.setIfInBounds_toArray, List.set_cons_zero, List.set_cons_succ]
  refine wpAnyH_take (i := 14) (v := ?_) (by simp only [List.getElem?_toArray, List.getElem?_cons_succ, List.getElem?_cons_zero] <;> exact rfl) (by kernel_rfl) (by kernel_rfl) (by kernel_rfl) (fun _ _ _ h => h) (Or.inl ⟨by rfl, ?_⟩) hS ?_
  rotate_left
  focus (intro w' hw'; go_simp; all_goals with_reducible rfl)
  try simp only [Act.put, List.setIfInBounds_toArray, List.set_cons_zero, List.set_cons_succ]
  refine wpAnyH_take (i := 15) (v := ?_) (by simp only [List.getElem?_toArray, List.getElem?_cons_succ, List.getElem?_cons_zero] <;> exact rfl) (by kernel_rfl) (by kernel_rfl) (by kernel_rfl) (fun _ _ _ h => h) (Or.inl ⟨by rfl, ?_⟩) hS ?_
  rotate_left
  focus (intro w' hw'; have kk := HFC.out; go_simp; all_goals with_reducible rfl)
  try simp only [Act.put, List.setIfInBounds_toArray, List.set_cons_zero, List.set_cons_succ]
  refine wpAnyH_take (i := 16) (v := ?_) (by simp only [List.getElem?_toArray, List.getElem?_cons_succ, List.getElem?_cons_zero] <;> exact rfl) (by kernel_rfl) (by kernel_rfl) (by kernel_rfl) (fun _ _ _ h => h) (Or.inl ⟨by rfl, ?_⟩) hS ?_
  rotate_left
  focus (intro w' hw'; go_simp; all_goals with_reducible rfl)
  try simp only [Act.put, List.setIfInBounds_toArray, List.set_cons_zero, List.set_cons_succ]
  refine wpAnyH_take (i := 17) (v := ?_) (by simp only [List.getElem?_toArray, List.getElem?_cons_succ, List.getElem?_cons_zero] <;> exact rfl) (by kernel_rfl) (by kernel_rfl) (by kernel_rfl) (fun _ _ _ h => h) (Or.inl ⟨by rfl, ?_⟩) hS ?_
  rotate_left
  focus (intro w' hw'; go_simp; all_goals with_reducible rfl)
  try simp only [Act.put, List.setIfInBounds_toArray, List.set_cons_zero, List.set_cons_succ]
  refine wpAnyH_take (i := 18) (v := ?_) (by simp only [List.getElem?_toArray, List.getElem?_cons_succ, List.getElem?_cons_zero] <;> exact rfl) (by kernel_rfl) (by kernel_rfl) (by kernel_rfl) (fun _ _ _ h => h) (Or.inl ⟨by rfl, ?_⟩) hS ?_
  rotate_left
  focus (intro w' hw'; go_simp; all_goals with_reducible rfl)
  try simp only [Act.put, List.setIfInBounds_toArray, List.set_cons_zero, List.set_cons_succ]
  refine wpAnyH_take (i := 19) (v := ?_) (by simp only [List.getElem?_toArray, List.getElem?_cons_succ, List.getElem?_cons_zero] <;> exact rfl) (by kernel_rfl) (by kernel_rfl) (by kernel_rfl) (fun _ _ _ h => h) (Or.inl ⟨by rfl, ?_⟩) hS ?_
  rotate_left
  focus (intro w' hw'; go_simp; all_goals with_reducible rfl)
  try simp only [Act.put, List.setIfInBounds_toArray, List.set_cons_zero, List.set_cons_succ]
  refine wpAnyH_take (i := 20) (by simp only [List.getElem?_toArray, List.getElem?_cons_succ, List.getElem?_cons_zero] <;> exact rfl) (by kernel_rfl) (by kernel_rfl) (by kernel_rfl) (fun _ _ _ h => h) (rgs_yields_blk (by rfl) 23 (.tmp 3) (by rfl) p (by rfl) 23 #[.int .i64 s, .string d, .bool e] _ (fun w' hw' => Kst4.out.keep hw') Try.underlying23 rfl rs_size) hS ?_
  try simp only [Act.put, List.setIfInBounds_toArray, List.set_cons_zero, List.set_cons_succ]
  refine wpAnyH_take (i := 22) (by simp only [List.getElem?_toArray, List.getElem?_cons_succ, List.getElem?_cons_zero] <;> exact rfl) (by kernel_rfl) (by kernel_rfl) (by kernel_rfl) (fun _ _ _ h => h) (rgs_yields_blk (by rfl) 23 (.tmp 3) (by rfl) p (by rfl) 23 #[.int .i64 s, .string d, .bool e] _ (fun w' hw' => Kst4.out.keep hw') Try.underlying23 rfl rs_size) hS ?_
  try simp only [Act.put, List.setIfInBounds_toArray, List.set_cons_zero, List.set_cons_succ]
  refine wpAnyH_ready (rs := [21]) (by kernel_rfl) (by simp) ?_
  refine AllReadyH.cons (o := _) (by simp only [List.getElem?_toArray, List.getElem?_cons_succ, List.getElem?_cons_zero] <;> exact rfl) (fun K hK => ?_) ?_
  focus (
    go_simp
    go_at_call 9
    refine (HK1.out _).mono ?_
    rintro e wc1 ⟨rfl, hb⟩
    have hS := hS.trans (hb.mono hS.size)
    clear hb
    go_wp2_with fail
    refine hK.out _ _ hS (fun _ => ?_)
    clear hK K
    try simp only [Act.put, List.setIfInBounds_toArray, List.set_cons_zero, List.set_cons_succ])
  rotate_left
  focus (exact AllReadyH.nil)
  refine wpAnyH_ready (rs := [23]) (by kernel_rfl) (by simp) ?_
  refine AllReadyH.cons (o := _) (by simp only [List.getElem?_toArray, List.getElem?_cons_succ, List.getElem?_cons_zero] <;> exact rfl) (fun K hK => ?_) ?_
  focus (
    go_simp
    go_at_call 10
    refine (HK2.out _).mono ?_
    rintro e wc2 ⟨rfl, hb⟩
    have hS := hS.trans (hb.mono hS.size)
    clear hb
    go_wp2_with fail
    refine hK.out _ _ hS (fun _ => ?_)
    clear hK K
    try simp only [Act.put, List.setIfInBounds_toArray, List.set_cons_zero, List.set_cons_succ])
  rotate_left
  focus (exact AllReadyH.nil)
  refine wpAnyH_take (i := 24) (v := ?_) (by simp only [List.getElem?_toArray, List.getElem?_cons_succ, List.getElem?_cons_zero] <;> exact rfl) (by kernel_rfl) (by kernel_rfl) (by kernel_rfl) (fun _ _ _ h => h) (Or.inl ⟨by rfl, ?_⟩) hS ?_
  rotate_left
  focus (intro w' hw'; go_simp; all_goals with_reducible rfl)
  try simp only [Act.put, List.setIfInBounds_toArray, List.set_cons_zero, List.set_cons_succ]
  refine wpAnyH_take (i := 25) (v := ?_) (by simp only [List.getElem?_toArray, List.getElem?_cons_succ, List.getElem?_cons_zero] <;> exact rfl) (by kernel_rfl) (by kernel_rfl) (by kernel_rfl) (fun _ _ _ h => h) (Or.inl ⟨by rfl, ?_⟩) hS ?_
  rotate_left
  focus (intro w' hw'; go_simp; all_goals with_reducible rfl)
  try simp only [Act.put, List.setIfInBounds_toArray, List.set_cons_zero, List.set_cons_succ]
  refine wpAnyH_take (i := 26) (v := ?_) (by simp only [List.getElem?_toArray, List.getElem?_cons_succ, List.getElem?_cons_zero] <;> exact rfl) (by kernel_rfl) (by kernel_rfl) (by kernel_rfl) (fun _ _ _ h => h) (Or.inl ⟨by rfl, ?_⟩) hS ?_
  rotate_left
  focus (intro w' hw'; go_simp; all_goals with_reducible rfl)
  try simp only [Act.put, List.setIfInBounds_toArray, List.set_cons_zero, List.set_cons_succ]
  refine wpAnyH_take (i := 27) (by simp only [List.getElem?_toArray, List.getElem?_cons_succ, List.getElem?_cons_zero] <;> exact rfl) (by kernel_rfl) (by kernel_rfl) (by kernel_rfl) (fun _ _ _ h => h) (rgs_yields_blk (by rfl) 23 (.tmp 3) (by rfl) p (by rfl) 23 #[.int .i64 s, .string d, .bool e] _ (fun w' hw' => Kst4.out.keep hw') Try.underlying23 rfl rs_size) hS ?_
  try simp only [Act.put, List.setIfInBounds_toArray, List.set_cons_zero, List.set_cons_succ]
  refine wpAnyH_take (i := 29) (v := ?_) (by simp only [List.getElem?_toArray, List.getElem?_cons_succ, List.getElem?_cons_zero] <;> exact rfl) (by kernel_rfl) (by kernel_rfl) (by kernel_rfl) (fun _ _ _ h => h) (Or.inl ⟨by rfl, ?_⟩) hS ?_
  rotate_left
  focus (intro w' hw'; go_simp; all_goals with_reducible rfl)
  try simp only [Act.put, List.setIfInBounds_toArray, List.set_cons_zero, List.set_cons_succ]
  refine wpAnyH_take (i := 30) (v := ?_) (by simp only [List.getElem?_toArray, List.getElem?_cons_succ, List.getElem?_cons_zero] <;> exact rfl) (by kernel_rfl) (by kernel_rfl) (by kernel_rfl) (fun _ _ _ h => h) (Or.inl ⟨by rfl, ?_⟩) hS ?_
  rotate_left
  focus (intro w' hw'; have kk := (Kst4.out.keep hw').cell 0; simp only [List.getElem?_toArray, List.getElem?_cons_zero, List.getElem?_cons_succ] at kk; go_simp; all_goals with_reducible rfl)
  try simp only [Act.put, List.setIfInBounds_toArray, List.set_cons_zero, List.set_cons_succ]
  refine wpAnyH_take (i := 31) (v := ?_) (by simp only [List.getElem?_toArray, List.getElem?_cons_succ, List.getElem?_cons_zero] <;> exact rfl) (by kernel_rfl) (by kernel_rfl) (by kernel_rfl) (fun _ _ _ h => h) (Or.inl ⟨by rfl, ?_⟩) hS ?_
  rotate_left
  focus (intro w' hw'; have kk := HOV.out; go_simp; all_goals with_reducible rfl)
  try simp only [Act.put, List.setIfInBounds_toArray, List.set_cons_zero, List.set_cons_succ]
  refine wpAnyH_ready (rs := [28]) (by kernel_rfl) (by simp) ?_
  refine AllReadyH.cons (o := _) (by simp only [List.getElem?_toArray, List.getElem?_cons_succ, List.getElem?_cons_zero] <;> exact rfl) (fun K hK => ?_) ?_
  focus (
    go_simp
    go_at_call 11
    refine (HOP.out _).mono ?_
    rintro e wc3 ⟨rfl, hb⟩
    have hS := hS.trans (hb.mono hS.size)
    clear hb
    go_wp2_with fail
    refine hK.out _ _ hS (fun _ => ?_)
    clear hK K
    try simp only [Act.put, List.setIfInBounds_toArray, List.set_cons_zero, List.set_cons_succ])
  rotate_left
  focus (exact AllReadyH.nil)
  refine wpAnyH_take (i := 32) (v := ?_) (by simp only [List.getElem?_toArray, List.getElem?_cons_succ, List.getElem?_cons_zero] <;> exact rfl) (by kernel_rfl) (by kernel_rfl) (by kernel_rfl) (fun _ _ _ h => h) (Or.inl ⟨by rfl, ?_⟩) hS ?_
  rotate_left
  focus (intro w' hw'; go_simp; all_goals with_reducible rfl)
  try simp only [Act.put, List.setIfInBounds_toArray, List.set_cons_zero, List.set_cons_succ]
  refine wpAnyH_take (i := 33) (v := ?_) (by simp only [List.getElem?_toArray, List.getElem?_cons_succ, List.getElem?_cons_zero] <;> exact rfl) (by kernel_rfl) (by kernel_rfl) (by kernel_rfl) (fun _ _ _ h => h) (Or.inl ⟨by rfl, ?_⟩) hS ?_
  rotate_left
  focus (intro w' hw'; go_simp; all_goals with_reducible rfl)
  try simp only [Act.put, List.setIfInBounds_toArray, List.set_cons_zero, List.set_cons_succ]
  refine wpAnyH_take (i := 34) (v := ?_) (by simp only [List.getElem?_toArray, List.getElem?_cons_succ, List.getElem?_cons_zero] <;> exact rfl) (by kernel_rfl) (by kernel_rfl) (by kernel_rfl) (fun _ _ _ h => h) (Or.inl ⟨by rfl, ?_⟩) hS ?_
  rotate_left
  focus (intro w' hw'; go_simp; all_goals with_reducible rfl)
  try simp only [Act.put, List.setIfInBounds_toArray, List.set_cons_zero, List.set_cons_succ]
  refine wpAnyH_take (i := 35) (by simp only [List.getElem?_toArray, List.getElem?_cons_succ, List.getElem?_cons_zero] <;> exact rfl) (by kernel_rfl) (by kernel_rfl) (by kernel_rfl) (fun _ _ _ h => h) (rgs_yields_blk (by rfl) 23 (.tmp 3) (by rfl) p (by rfl) 23 #[.int .i64 s, .string d, .bool e] _ (fun w' hw' => Kst4.out.keep hw') Try.underlying23 rfl rs_size) hS ?_
  try simp only [Act.put, List.setIfInBounds_toArray, List.set_cons_zero, List.set_cons_succ]
  refine wpAnyH_take (i := 36) (by simp only [List.getElem?_toArray, List.getElem?_cons_succ, List.getElem?_cons_zero] <;> exact rfl) (by kernel_rfl) (by kernel_rfl) (by kernel_rfl) (fun _ _ _ h => h) (rgs_yields_blk (by rfl) 23 (.tmp 4) (by rfl) (p + 1) (by rfl) 23 #[.int .i64 s', .string d', .bool e'] _ (fun w' hw' => Ko4.out.keep hw') Try.underlying23 rfl rs_size) hS ?_
  try simp only [Act.put, List.setIfInBounds_toArray, List.set_cons_zero, List.set_cons_succ]
  refine wpAnyH_take (i := 38) (by simp only [List.getElem?_toArray, List.getElem?_cons_succ, List.getElem?_cons_zero] <;> exact rfl) (by kernel_rfl) (by kernel_rfl) (by kernel_rfl) (fun _ _ _ h => h) (rgs_yields_blk (by rfl) 23 (.tmp 3) (by rfl) p (by rfl) 23 #[.int .i64 s, .string d, .bool e] _ (fun w' hw' => Kst4.out.keep hw') Try.underlying23 rfl rs_size) hS ?_
  try simp only [Act.put, List.setIfInBounds_toArray, List.set_cons_zero, List.set_cons_succ]
  refine wpAnyH_take (i := 39) (by simp only [List.getElem?_toArray, List.getElem?_cons_succ, List.getElem?_cons_zero] <;> exact rfl) (by kernel_rfl) (by kernel_rfl) (by kernel_rfl) (fun _ _ _ h => h) (rgs_yields_blk (by rfl) 23 (.tmp 4) (by rfl) (p + 1) (by rfl) 23 #[.int .i64 s', .string d', .bool e'] _ (fun w' hw' => Ko4.out.keep hw') Try.underlying23 rfl rs_size) hS ?_
  try simp only [Act.put, List.setIfInBounds_toArray, List.set_cons_zero, List.set_cons_succ]
  refine wpAnyH_take (i := 40) (v := .bool sm) (by simp only [List.getElem?_toArray, List.getElem?_cons_succ, List.getElem?_cons_zero] <;> exact rfl) (by kernel_rfl) (by kernel_rfl) (by kernel_rfl) (fun _ _ _ h => h) (Or.inl ⟨by rfl, ?_⟩) hS ?_
  focus (intro w' hw'; go_simp; rw [HSM.out]; exact sameB_if _ _ _ _ _ _ _)
  try simp only [Act.put, List.setIfInBounds_toArray, List.set_cons_zero, List.set_cons_succ]
  refine wpAnyH_ready (rs := [37]) (by kernel_rfl) (by simp) ?_
  refine AllReadyH.cons (o := _) (by simp only [List.getElem?_toArray, List.getElem?_cons_succ, List.getElem?_cons_zero] <;> exact rfl) (fun K hK => ?_) ?_
  focus (
    go_simp
    go_at_call 12
    refine (HS.out _).mono ?_
    rintro e wc4 ⟨rfl, hb⟩
    have hS := hS.trans (hb.mono hS.size)
    clear hb
    go_wp2_with fail
    refine hK.out _ _ hS (fun _ => ?_)
    clear hK K
    try simp only [Act.put, List.setIfInBounds_toArray, List.set_cons_zero, List.set_cons_succ])
  rotate_left
  focus (exact AllReadyH.nil)
  refine wpAnyH_take (i := 41) (v := ?_) (by simp only [List.getElem?_toArray, List.getElem?_cons_succ, List.getElem?_cons_zero] <;> exact rfl) (by kernel_rfl) (by kernel_rfl) (by kernel_rfl) (fun _ _ _ h => h) (Or.inl ⟨by rfl, ?_⟩) hS ?_
  rotate_left
  focus (intro w' hw'; go_simp; all_goals with_reducible rfl)
  try simp only [Act.put, List.setIfInBounds_toArray, List.set_cons_zero, List.set_cons_succ]
  refine wpAnyH_take (i := 42) (v := ?_) (by simp only [List.getElem?_toArray, List.getElem?_cons_succ, List.getElem?_cons_zero] <;> exact rfl) (by kernel_rfl) (by kernel_rfl) (by kernel_rfl) (fun _ _ _ h => h) (Or.inl ⟨by rfl, ?_⟩) hS ?_
  rotate_left
  focus (intro w' hw'; go_simp; all_goals with_reducible rfl)
  try simp only [Act.put, List.setIfInBounds_toArray, List.set_cons_zero, List.set_cons_succ]
  refine wpAnyH_take (i := 43) (v := ?_) (by simp only [List.getElem?_toArray, List.getElem?_cons_succ, List.getElem?_cons_zero] <;> exact rfl) (by kernel_rfl) (by kernel_rfl) (by kernel_rfl) (fun _ _ _ h => h) (Or.inl ⟨by rfl, ?_⟩) hS ?_
  rotate_left
  focus (intro w' hw'; go_simp; all_goals with_reducible rfl)
  try simp only [Act.put, List.setIfInBounds_toArray, List.set_cons_zero, List.set_cons_succ]
  refine wpAnyH_ready (rs := [44]) (by kernel_rfl) (by simp) ?_
  refine AllReadyH.cons (o := _) (by simp only [List.getElem?_toArray, List.getElem?_cons_succ, List.getElem?_cons_zero] <;> exact rfl) (fun K hK => ?_) ?_
  focus (
    go_simp
    go_at_call 6
    refine (HAW.out _).mono ?_
    rintro e wc5 ⟨rfl, hb⟩
    have hS := hS.trans (hb.mono hS.size)
    clear hb
    go_wp2_with fail
    refine hK.out _ _ hS (fun _ => ?_)
    clear hK K
    try simp only [Act.put, List.setIfInBounds_toArray, List.set_cons_zero, List.set_cons_succ])
  rotate_left
  focus (exact AllReadyH.nil)
  refine wpAnyH_take (i := 45) (v := ?_) (by simp only [List.getElem?_toArray, List.getElem?_cons_succ, List.getElem?_cons_zero] <;> exact rfl) (by kernel_rfl) (by kernel_rfl) (by kernel_rfl) (fun _ _ _ h => h) (Or.inl ⟨by rfl, ?_⟩) hS ?_
  rotate_left
  focus (intro w' hw'; go_simp; all_goals with_reducible rfl)
  try simp only [Act.put, List.setIfInBounds_toArray, List.set_cons_zero, List.set_cons_succ]
  refine wpAnyH_take (i := 46) (v := ?_) (by simp only [List.getElem?_toArray, List.getElem?_cons_succ, List.getElem?_cons_zero] <;> exact rfl) (by kernel_rfl) (by kernel_rfl) (by kernel_rfl) (fun _ _ _ h => h) (Or.inl ⟨by rfl, ?_⟩) hS ?_
  rotate_left
  focus (intro w' hw'; go_simp; all_goals with_reducible rfl)
  try simp only [Act.put, List.setIfInBounds_toArray, List.set_cons_zero, List.set_cons_succ]
  refine wpAnyH_done (by kernel_rfl) ?_ _
  refine NoPanic.normal ?_
  go_wp2_with fail
  go_ret
  exact ⟨rfl, B4.out.trans (hS.mono B4.out.size)⟩
end Go.Proofs.Ytighhdgaaelcdaa.blockOns
