/-
  Layer 22: Run: the program's, over its iterator.
-/
import Derived.Test.YtjcibpefbfengaaHyLooks
namespace Go.Proofs.Ytjcibpefbfengaa
set_option linter.unusedSimpArgs false
set_option linter.unusedVariables false
open Go.RowKit Go.Shelf
attribute [local go_sem] Oper.semAt_some

/-- What stands between two rounds: the variable, the result's block, the count. -/
structure RunI (g : Nat) (x : Hy) (w : World) (pre : List (Hy × Bool)) (W : World) : Prop where
  st : BlkIs W g 24 (lastH x pre).cs
  res : BlkIs W (g + 1) 24 #[.int .i64 0, .int .i64 0, .int .i64 0, .int .i64 0, .int .i64 0, .int .i64 0, .int .i64 0]
  num : BlkIs W (g + 1 + 1) 3 #[.int .i64 (numH pre)]
  bel : Below w.heap.size w W
theorem RunI.loose {g B : Nat} {x : Hy} {w : World} (hB : g + 3 ≤ B) (hw : w.heap.size ≤ g) : Loose B (RunI g x w) := fun pre W W' h hk =>
  ⟨hk.blk h.st (by omega), hk.blk h.res (by omega), hk.blk h.num (by omega), h.bel.trans (hk.below h.bel.size fun k hk => by omega)⟩

set_option maxRecDepth 100000 in
set_option maxHeartbeats 6400000 in
theorem hy_Run (x : Hy) (A : Option Addr) (m c : Nat) (l : List Int) (w : World) (hl : NL .i64 w A m c l) (hm : (m : Int) ≤ 1000000) : Calls Try.prog 12 #[.agg x.cs, .slice A m c] w fun e w' => e = .returned (.tuple #[.agg (endH x l).cs, .int .i64 (cntH x l)]) ∧ Below w.heap.size w w' := by
  refine (callsIn_wide (n := 5)).1 ?_
  have HLK := hide (fun w => hy_looks x A m c w)
  obtain ⟨g, hg⟩ : ∃ g, g = w.heap.size := ⟨_, rfl⟩
  have HL := hide hg.symm
  obtain ⟨w0, hw0⟩ : ∃ w0, w0 = ((w.alloc (.cells x.cs 24)).alloc (.cells #[.int .i64 0, .int .i64 0, .int .i64 0, .int .i64 0, .int .i64 0, .int .i64 0, .int .i64 0] 24)).alloc (.cells #[.int .i64 0] 3) := ⟨_, rfl⟩
  have HX := hide (show BlkIs w0 g 24 x.cs by rw [hg, hw0]; exact ((BlkIs.new w 24 x.cs).alloc _).alloc _)
  have HN := hide (show BlkIs w0 (g + 1) 24 #[.int .i64 0, .int .i64 0, .int .i64 0, .int .i64 0, .int .i64 0, .int .i64 0, .int .i64 0] by rw [hg, hw0]; exact (new2 w _ _ _).alloc _)
  have HC := hide (show BlkIs w0 (g + 1 + 1) 3 #[.int .i64 0] by rw [hg, hw0]; exact new3 w _ _ _ _)
  have HB := hide (show Below w.heap.size w w0 by rw [hw0]; exact bel3 w _ _ _)
  have HSZ := hide (show w0.heap.size = g + 3 by rw [hw0, hg]; simp)
  have HW := hide hw0.symm
  clear hg hw0
  refine callsIn_of_wp_marks Try.func12 rfl trivial ?_ rfl
  simp only [Try.ntmps12, List.size_toArray, List.length_cons, List.length_nil, Nat.reduceAdd, Nat.reduceSub, Array.replicate_succ, Array.replicate_zero, List.push_toArray, List.append_toArray, List.nil_append, List.cons_append]
  gi_wp2_with (first | (rw [HW.out, HL.out]; refine wpListIn_load_blk rfl 24 (.tmp 2) rfl g rfl 24 x.cs _ HX.out Try.underlying24 rfl hy_size ?_))
  refine ⟨trivial, (callsIn_wide.2 (HLK.out w0)).mono ?_⟩
  rintro e w1 ⟨rfl, hw1⟩
  have HX1 := hide (show BlkIs w1 g _ _ by rw [hw1]; exact (HX.out.alloc _).alloc _)
  have HN1 := hide (show BlkIs w1 (g + 1) _ _ by rw [hw1]; exact (HN.out.alloc _).alloc _)
  have HC1 := hide (show BlkIs w1 (g + 1 + 1) _ _ by rw [hw1]; exact (HC.out.alloc _).alloc _)
  have HB1 := hide (show Below w.heap.size w w1 by rw [hw1]; exact (HB.out.alloc HB.out.size _).alloc (by rw [World.size_alloc]; have := HB.out.size; omega) _)
  have HSZ1 := hide (show w1.heap.size = g + 5 by rw [hw1]; simp; exact HSZ.out)
  have HS1 := hide (show BlkIs w1 w0.heap.size 24 x.cs by rw [hw1]; exact (BlkIs.new w0 _ _).alloc _)
  have HL1 := hide (show BlkIs w1 (w0.heap.size + 1) 33 #[.slice A m c] by rw [hw1]; exact new2 w0 _ _ _)
  clear hw1 HX HN HC HB HLK HW
  gi_wp2_with fail
  refine range_tells (α := Hy × Bool) (gf := 18) (lb := #[.pointer (some ⟨w0.heap.size, 0, none⟩), .pointer (some ⟨w0.heap.size + 1, 0, none⟩)]) rfl (enters_of Try.func18 (by kernel_rfl) rfl)
    (encs := fun y => #[.agg y.1.cs, .bool y.2]) (fun _ => rfl) (E := fun k => k = g ∨ k = g + 1 + 1) (fun k hk => by have := HSZ1.out; omega) (S := fun ys => ys = lksH x l) (N := m)
    (looks_tells 5 w w1 w0.heap.size (w0.heap.size + 1) A m c l x (fun k => k = g ∨ k = g + 1 + 1) hl hm HB1.out (fun k hk => by have := HSZ1.out; have := HL.out; omega) HS1.out HL1.out)
    (RunI g x w) (RunI.loose (by have := HSZ1.out; omega) (by have := HL.out; omega)) ⟨HX1.out, HN1.out, HC1.out, HB1.out⟩
    (fun y a' W => ∃ Bx, w1.heap.size + 2 ≤ Bx ∧ BlkIs W Bx 24 y.1.cs ∧ a' = { tmps := #[Value.agg x.cs, Value.slice A m c, Value.pointer (some ⟨g, 0, none⟩), undef, Value.pointer (some ⟨g + 1, 0, none⟩), Value.int IntKind.i64 0, Value.pointer (some ⟨g + 1 + 1, 0, none⟩), Value.pointer (some ⟨Bx, 0, none⟩), .bool y.2, Value.agg x.cs, Value.slice A m c, .func (.func 18) #[] #[.pointer (some ⟨w0.heap.size, 0, none⟩), .pointer (some ⟨w0.heap.size + 1, 0, none⟩)], .agg y.1.cs, .bool y.2, undef, undef, undef, undef, undef, undef], defers := [] })
    ?mark ?assign ?body ?done
  case mark =>
    rintro y a' W r o hr ⟨Bx, h1, h2, h3⟩
    exact ⟨Bx, h1, (World.putObj_heap_other (by omega)).trans h2, h3⟩
  case assign =>
    rintro pre y W K hi hsz hK
    gi_wp2_with (refine wpListIn_store_new rfl 24 (.tmp 7) (.tmp 12) rfl y.1.cs _ 24 rfl rfl hy_size rfl (Hy.cs_one y.1) ?_)
    exact hK _ _ ((KB.refl _ W).alloc _) (RunI.loose (B := W.heap.size) (by have := HSZ1.out; omega) (by have := HL.out; omega) _ _ _ hi ((KB.refl _ W).alloc _)) ⟨W.heap.size, hsz, BlkIs.new W _ _, rfl⟩
  case body =>
    rintro pre y a' W hi ⟨Bx, hBx, hx, rfl⟩ hlen
    obtain ⟨z, ch⟩ := y
    have hn0 := numH_in pre
    have hnw : IntKind.i64.wrap (numH pre + 1) = numH pre + 1 := IntWalk.i64_in _ (by omega)
    have HI := hide hi
    have HX5 := hide hx
    have HS5 := hide (hi.st.row z.cs)
    have HR5 := hide (hi.res.row_other (g' := g) (by omega) z.cs)
    have HN5 := hide (hi.num.row_other (g' := g) (by omega) z.cs)
    have HB5 := hide (below_setRow hi.bel (g := g) (by have := HL.out; omega) z.cs)
    have c0 := (HN5.out.cell 0).trans (show _ = some (Value.int .i64 (numH pre)) from rfl)
    have f0 := HN5.out.frozen 0
    clear hi hx
    dsimp only
    cases ch with
    | false =>
      gi_wp2_with (first
        | (refine wpListIn_load_blk rfl 24 (.tmp 7) rfl Bx rfl 24 z.cs _ HX5.out Try.underlying24 rfl hy_size ?_)
        | (refine wpListIn_store_blk rfl 24 (.tmp 2) (.tmp 14) rfl g z.cs _ 24 rfl rfl HI.out.st hy_size rfl (Hy.cs_one z) ?_))
      exact ⟨(KB.refl _ W).setRow (fun _ => .inl rfl) _, by rw [lastH_snoc]; exact HS5.out, HR5.out, by rw [numH_snoc]; exact HN5.out, HB5.out⟩
    | true =>
      gi_wp2_with (first
        | (refine wpListIn_load_blk rfl 24 (.tmp 7) rfl Bx rfl 24 z.cs _ HX5.out Try.underlying24 rfl hy_size ?_)
        | (refine wpListIn_store_blk rfl 24 (.tmp 2) (.tmp 14) rfl g z.cs _ 24 rfl rfl HI.out.st hy_size rfl (Hy.cs_one z) ?_))
      exact ⟨((KB.refl _ W).setRow (fun _ => .inl rfl) _).setCell (p := ⟨g + 1 + 1, 0, none⟩) (fun _ => .inr rfl) _, by rw [lastH_snoc]; exact HS5.out.far (by simp; omega) _, HR5.out.far (by simp) _, by rw [numH_snoc]; exact HN5.out.put 0 _, HB5.out.setCell (by have := HL.out; simp; omega) _⟩
  case done =>
    rintro ys W rfl hi hD
    gi_wp2
    refine wpIn_wide.2 ?_
    obtain ⟨HE1, HE2⟩ := And.intro (hide (last_looks x l)) (hide (num_looks x l))
    have hst := hi.st
    have hnum := hi.num
    have hres := hi.res
    have HBI := hide hi.bel
    obtain ⟨y, hy⟩ : ∃ y, y = endH x l := ⟨_, rfl⟩
    obtain ⟨q, hq⟩ : ∃ q, q = cntH x l := ⟨_, rfl⟩
    rw [HE1.out, ← hy] at hst
    rw [HE2.out, ← hq] at hnum
    have HY := hide hy
    have HQ := hide hq
    clear hi HX1 HN1 HC1 HB1 HS1 HL1 hy hq HE1 HE2
    obtain ⟨zs, hzs⟩ : ∃ zs, zs = #[Value.int .i64 0, .int .i64 0, .int .i64 0, .int .i64 0, .int .i64 0, .int .i64 0, .int .i64 0] := ⟨_, rfl⟩
    have hz7 : zs.size = 7 := by rw [hzs]; rfl
    rw [← hzs] at hres
    clear hzs
    have HST := hide hst
    have HNU := hide ((hnum.cell 0).trans (show _ = some (Value.int .i64 q) from rfl))
    have hnl := hnum.lt
    have HD := hide hD
    clear hst hnum hD
    have hne : ¬ g = g + 1 := by omega
    refine wp_region_noPanic ?_
    refine wp_region_held_drew (S := fun w' => KB (· = g + 1) W w') (by kernel_rfl) (KB.refl _ _).drew (fun hS => ?_)
    have EX := hres.drew
    generalize hwd : W.drew = wd at hS EX ⊢
    clear hwd hres
    refine wpAnyH_take (i := 0) (by simp only [List.getElem?_toArray, List.getElem?_cons_succ, List.getElem?_cons_zero] <;> exact rfl) (by kernel_rfl) (by kernel_rfl) (by kernel_rfl) (fun _ _ _ h => h) (rgs_yields_blk (by rfl) 24 (.tmp 2) (by rfl) g (by rfl) 24 y.cs _ (fun w' hw' => hw'.blk HST.out hne) Try.underlying24 rfl hy_size) hS ?_
    try simp only [Act.put, List.setIfInBounds_toArray, List.set_cons_zero, List.set_cons_succ]
    refine wpAnyH_take (i := 1) (v := ?_) (by simp only [List.getElem?_toArray, List.getElem?_cons_succ, List.getElem?_cons_zero] <;> exact rfl) (by kernel_rfl) (by kernel_rfl) (by kernel_rfl) (fun _ _ _ h => h) (Or.inl ⟨by rfl, ?_⟩) hS ?_
    rotate_left
    focus (intro w' hw'; have kk := (hw'.cell (p := ⟨g + 1 + 1, 0, none⟩) hnl (by simp)).trans HNU.out; go_simp; all_goals with_reducible rfl)
    try simp only [Act.put, List.setIfInBounds_toArray, List.set_cons_zero, List.set_cons_succ]
    refine wpAnyH_ready (rs := [2]) (by kernel_rfl) (by simp) ?_
    refine AllReadyH.cons (o := _) (by simp only [List.getElem?_toArray, List.getElem?_cons_succ, List.getElem?_cons_zero] <;> exact rfl) (fun K hK => ?_) AllReadyH.nil
    refine rgs_store_blk (by rfl) 24 (.tmp 4) (.tmp 18) (by rfl) (g + 1) y.cs zs 24 (by rfl) (by rfl) EX hy_size hz7 (Hy.cs_one y) ?_
    have hS := hS.setRow (fun _ => rfl) y.cs
    have EX := EX.row y.cs
    refine hK.out _ _ hS (fun _ => ?_)
    generalize wd.setRow (g + 1) y.cs = ws at hS EX ⊢
    clear hK K
    try simp only [Act.put, List.setIfInBounds_toArray, List.set_cons_zero, List.set_cons_succ]
    refine wpAnyH_take (i := 3) (v := ?_) (by simp only [List.getElem?_toArray, List.getElem?_cons_succ, List.getElem?_cons_zero] <;> exact rfl) (by kernel_rfl) (by kernel_rfl) (by kernel_rfl) (fun _ _ _ h => h) (Or.inl ⟨by rfl, ?_⟩) hS ?_
    rotate_left
    focus (intro w' hw'; go_simp; all_goals with_reducible rfl)
    try simp only [Act.put, List.setIfInBounds_toArray, List.set_cons_zero, List.set_cons_succ]
    refine wpAnyH_done (by kernel_rfl) ?_ _
    refine NoPanic.normal ?_
    have hDs : ws.heap[w1.heap.size]? = some (.deferred (some [])) := (hS.block _ ((Array.getElem?_eq_some_iff.1 HD.out).1) (by have := HSZ1.out; omega)).trans HD.out
    have hBs : Below w.heap.size w ws := kb_belowy HBI.out (by have := HL.out; omega) HBI.out.size hS
    have hlt : w.heap.size ≤ w1.heap.size := by have := HSZ1.out; have := HL.out; omega
    gi_wp2
    rw [← HY.out, ← HQ.out]
    refine ⟨by simp, .inl ⟨_, _, rfl, run_takeDeferred hDs, ?_⟩⟩
    exact ⟨_, results_cell_tmp_blk rfl _ _ (g + 1) 24 y.cs _ rfl ((World.putObj_heap_other (by have := HSZ1.out; omega)).trans EX) Try.underlying24 rfl hy_size _ rfl, rfl, hBs.trans (belowK_b (w := w) (Nat.le_refl _) ws _ _ _ hlt hDs rfl rfl)⟩
end Go.Proofs.Ytjcibpefbfengaa
