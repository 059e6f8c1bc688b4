/-
  Layer 21: At: the program's.
-/
import Derived.Test.YtgibhdbhagcpoaaBuHas
import Derived.Deep.Cut
import Derived.Deep.CutRange
import Derived.Deep.DeepCutAuto
namespace Go.Proofs.Ytgibhdbhagcpoaa
set_option linter.unusedSimpArgs false
set_option linter.unusedVariables false
open Go.RowKit

/-- What stands all through At's drawn region. -/
structure AtS (W : World) (g : Nat) (r n : Int) (w : World) : Prop where
  c1 : w.cell? ⟨g, 1, none⟩ = some (.int .i64 r)
  c4 : w.cell? ⟨g, 4, none⟩ = some (.int .i64 n)
  lt : g < w.heap.size
section
variable {W w w' : World} {g : Nat} {r n : Int}
theorem AtS.drew (h : AtS W g r n w) : AtS W g r n w.drew := ⟨h.c1, h.c4, h.lt⟩
theorem AtS.keep (h : AtS W g r n w) (hb : Below w.heap.size w w') : AtS W g r n w' :=
  ⟨(hb.cell (p := ⟨g, 1, none⟩) h.lt).trans h.c1, (hb.cell (p := ⟨g, 4, none⟩) h.lt).trans h.c4, Nat.lt_of_lt_of_le h.lt hb.size⟩
theorem AtS.put (h : AtS W g r n w) (v : Value) : AtS W g r n (w.setCell ⟨g, 3, none⟩ v) :=
  ⟨by rw [World.cell?_setCell_other _ _ _ _ (by intro e; injection e with _ e; omega)]; exact h.c1, by rw [World.cell?_setCell_other _ _ _ _ (by intro e; injection e with _ e; omega)]; exact h.c4, by simpa [World.setCell] using h.lt⟩
end

set_option maxRecDepth 100000 in
set_option maxHeartbeats 3200000 in
theorem bu_At_no (b : Bu) (t : Int) (h : ¬ Goes b t) (w : World) : Calls Try.prog 17 #[.agg b.cs, .int .i64 t] w fun e w' => e = .returned (.agg b.cs) ∧ Below w.heap.size w w' := by
  have HC := hide (fun w => bu_Check b w)
  have HB0 := hide (bel2 w (.cells b.cs 26) (.cells #[.int .i64 0, .int .i64 0, .int .i64 0, .int .i64 0, .int .i64 0] 26))
  have HK := hide ((BlkIs.new w 26 b.cs).alloc (.cells #[.int .i64 0, .int .i64 0, .int .i64 0, .int .i64 0, .int .i64 0] 26))
  have HZ := hide (new2 w (.cells b.cs 26) 26 #[.int .i64 0, .int .i64 0, .int .i64 0, .int .i64 0, .int .i64 0])
  have hcase : okB b = false ∨ okB b = true ∧ (t ≤ b.n ∨ ¬ t ≤ b.n ∧ 1099511627776 < t) := by
    cases hok : okB b with
    | false => exact .inl rfl
    | true => exact .inr ⟨rfl, by have ho := okB_iff.1 hok; by_cases h1 : t ≤ b.n; · exact .inl h1
                                  · exact .inr ⟨h1, by apply Int.not_le.1; intro h2; exact h ⟨ho, by omega, h2⟩⟩⟩
  clear h
  rcases hcase with hok | ⟨hok, hcase⟩
  · rw [chkB_no hok] at HC
    clear hok
    go_enter Try.func17, Try.ntmps17
    go_wp2_with (refine wpList_load_blk rfl 26 (.tmp 2) rfl w.heap.size rfl 26 b.cs _ HK.out Try.underlying26 rfl bu_size ?_)
    refine (HC.out _).mono ?_
    rintro e w1 ⟨rfl, hb1⟩
    have HB1 := hide (HB0.out.trans (hb1.mono HB0.out.size))
    have HK1 := hide (HK.out.keep hb1)
    have HZ1 := hide (HZ.out.keep hb1)
    clear hb1 HK HZ HB0
    go_wp2_with (first
      | (refine wpList_load_blk rfl 26 (.tmp 2) rfl w.heap.size rfl 26 b.cs _ HK1.out Try.underlying26 rfl bu_size ?_)
      | (refine wpList_store_blk rfl 26 (.tmp 4) (.tmp 18) rfl (w.heap.size + 1) b.cs _ 26 rfl rfl HZ1.out bu_size rfl (Bu.cs_one b) ?_))
    exact bodyPost_ret (results_cell_blk rfl _ _ (w.heap.size + 1) 26 b.cs _ rfl (HZ1.out.row _) Try.underlying26 rfl bu_size) rfl ⟨rfl, below_setRow HB1.out (by omega) _⟩
  · rw [chkB_yes hok] at HC
    clear hok
    rcases hcase with h1 | ⟨h1, h2⟩
    all_goals
      go_enter Try.func17, Try.ntmps17
      go_wp2_with (refine wpList_load_blk rfl 26 (.tmp 2) rfl w.heap.size rfl 26 b.cs _ HK.out Try.underlying26 rfl bu_size ?_)
      refine (HC.out _).mono ?_
      rintro e w1 ⟨rfl, hb1⟩
      have HB1 := hide (HB0.out.trans (hb1.mono HB0.out.size))
      have HK1 := hide (HK.out.keep hb1)
      have HZ1 := hide (HZ.out.keep hb1)
      obtain ⟨d0, d1, d2, d3, d4⟩ := cells5 HK1.out
      clear hb1 HK HZ HB0
      go_wp2_with (first
        | (refine wpList_load_blk rfl 26 (.tmp 2) rfl w.heap.size rfl 26 b.cs _ HK1.out Try.underlying26 rfl bu_size ?_)
        | (refine wpList_store_blk rfl 26 (.tmp 4) (.tmp 18) rfl (w.heap.size + 1) b.cs _ 26 rfl rfl HZ1.out bu_size rfl (Bu.cs_one b) ?_))
      exact bodyPost_ret (results_cell_blk rfl _ _ (w.heap.size + 1) 26 b.cs _ rfl (HZ1.out.row _) Try.underlying26 rfl bu_size) rfl ⟨rfl, below_setRow HB1.out (by omega) _⟩

set_option maxRecDepth 100000 in
set_option maxHeartbeats 3200000 in
theorem bu_At_yes (u r p l n t : Int) (h : Goes ⟨u, r, p, l, n⟩ t) (w : World) : Calls Try.prog 17 #[.agg (Bu.mk u r p l n).cs, .int .i64 t] w fun e w' => e = .returned (.agg (Bu.mk u r p (min (l + r * (t - n)) (u * p)) t).cs) ∧ Below w.heap.size w w' := by
  have HC := hide (fun w => bu_Check ⟨u, r, p, l, n⟩ w)
  rw [chkB_yes (okB_iff.2 h.1)] at HC
  obtain ⟨ho, h1, h2⟩ := h
  obtain ⟨a1, a2, a3, a4, a5, a6, a7, a8, a9, a10⟩ := ho
  simp only at a1 a2 a3 a4 a5 a6 a7 a8 a9 a10 h1
  obtain ⟨m0, m1⟩ := mul_in a1 a2 a5 a6
  have HF := hide (fun w => bu_full ⟨u, r, p, l, n⟩ w m0 m1)
  obtain ⟨r0, r1⟩ := rate_in (d := t - n) a3 a4 (by omega) (by omega)
  have W1 := hide (show IntKind.i64.wrap (t - n) = t - n from IntWalk.i64_in _ (by omega))
  have W2 := hide (show IntKind.i64.wrap (r * (t - n)) = r * (t - n) from IntWalk.i64_in _ (by omega))
  have W3 := hide (show IntKind.i64.wrap (l + r * (t - n)) = l + r * (t - n) from IntWalk.i64_in _ (by omega))
  have h1' : decide (t ≤ n) = false := by rw [decide_eq_false_iff_not]; omega
  have h2' : decide (1099511627776 < t) = false := by rw [decide_eq_false_iff_not]; omega
  clear a1 a2 a3 a4 a5 a6 a7 a8 a9 a10 m0 m1 r0 r1 h1 h2
  simp only [Bu.cs] at HC HF ⊢
  obtain ⟨g, hg⟩ : ∃ g, g = w.heap.size := ⟨_, rfl⟩
  have HL := hide hg.symm
  have HB := hide (bel2 w (.cells #[.int .i64 u, .int .i64 r, .int .i64 p, .int .i64 l, .int .i64 n] 26) (.cells #[.int .i64 0, .int .i64 0, .int .i64 0, .int .i64 0, .int .i64 0] 26))
  have HX := hide (show BlkIs _ g _ _ by rw [hg]; exact (BlkIs.new w 26 #[.int .i64 u, .int .i64 r, .int .i64 p, .int .i64 l, .int .i64 n]).alloc (.cells #[.int .i64 0, .int .i64 0, .int .i64 0, .int .i64 0, .int .i64 0] 26))
  have HZ := hide (show BlkIs _ (g + 1) _ _ by rw [hg]; exact new2 w (.cells #[.int .i64 u, .int .i64 r, .int .i64 p, .int .i64 l, .int .i64 n] 26) 26 #[.int .i64 0, .int .i64 0, .int .i64 0, .int .i64 0, .int .i64 0])
  clear hg
  go_enter Try.func17, Try.ntmps17
  go_wp2_with fail
  rw [HL.out]
  refine (HC.out _).mono ?_
  rintro e W ⟨rfl, hb⟩
  have HX1 := hide (HX.out.keep hb)
  have HZ1 := hide (HZ.out.keep hb)
  have HB1 := hide (HB.out.trans (hb.mono HB.out.size))
  clear hb HX HZ HB HC
  obtain ⟨d0, d1, d2, d3, d4⟩ := cells5 (b := ⟨u, r, p, l, n⟩) HX1.out
  simp only at d0 d1 d2 d3 d4
  have HS := hide (show AtS W g r n W from ⟨d1, d4, HX1.out.lt⟩)
  have HX := hide HX1.out
  have HZ := hide HZ1.out
  have HB := hide HB1.out
  clear HX1 HZ1 HB1
  go_upto_region 3 with (fail)
  clear d0 d1 d2 d3 d4
  have w1 := W1.out
  have w2 := W2.out
  have w3 := W3.out
  go_cut [2] from 19 to 33 (fun s wx => s = .pointer (some ⟨g, 0, none⟩) ∧ BlkIs wx g 26 #[.int .i64 u, .int .i64 r, .int .i64 p, .int .i64 (min (l + r * (t - n)) (u * p)), .int .i64 n] ∧ BlkIs wx (g + 1) 26 #[.int .i64 0, .int .i64 0, .int .i64 0, .int .i64 0, .int .i64 0] ∧ Below w.heap.size w wx)
  case first =>
    refine wp_region_noPanic ?_
    refine wp_region_held_drew (S := fun w' => AtS W g r n w') (by kernel_rfl) HS.out.drew (fun hS => ?_)
    have X := HX.out.drew
    have ZZ := HZ.out.drew
    have BB := HB.out.drew
    generalize W.drew = wd at hS X ZZ BB ⊢
    refine wpAnyH_take (i := 0) (v := ?_) (by simp only [List.getElem?_toArray, List.getElem?_cons_succ, List.getElem?_cons_zero] <;> exact rfl) (by kernel_rfl) (by kernel_rfl) (by kernel_rfl) (fun _ _ _ h => h) (Or.inl ⟨by rfl, ?_⟩) hS ?_
    rotate_left
    focus (intro w' hw'; go_simp; all_goals with_reducible rfl)
    try simp only [Act.put, List.setIfInBounds_toArray, List.set_cons_zero, List.set_cons_succ]
    refine wpAnyH_take (i := 2) (v := ?_) (by simp only [List.getElem?_toArray, List.getElem?_cons_succ, List.getElem?_cons_zero] <;> exact rfl) (by kernel_rfl) (by kernel_rfl) (by kernel_rfl) (fun _ _ _ h => h) (Or.inl ⟨by rfl, ?_⟩) hS ?_
    rotate_left
    focus (intro w' hw'; go_simp; all_goals with_reducible rfl)
    try simp only [Act.put, List.setIfInBounds_toArray, List.set_cons_zero, List.set_cons_succ]
    refine wpAnyH_take (i := 3) (v := ?_) (by simp only [List.getElem?_toArray, List.getElem?_cons_succ, List.getElem?_cons_zero] <;> exact rfl) (by kernel_rfl) (by kernel_rfl) (by kernel_rfl) (fun _ _ _ h => h) (Or.inl ⟨by rfl, ?_⟩) hS ?_
    rotate_left
    focus (intro w' hw'; have kk := hw'.c1; go_simp; all_goals with_reducible rfl)
    try simp only [Act.put, List.setIfInBounds_toArray, List.set_cons_zero, List.set_cons_succ]
    refine wpAnyH_take (i := 4) (v := ?_) (by simp only [List.getElem?_toArray, List.getElem?_cons_succ, List.getElem?_cons_zero] <;> exact rfl) (by kernel_rfl) (by kernel_rfl) (by kernel_rfl) (fun _ _ _ h => h) (Or.inl ⟨by rfl, ?_⟩) hS ?_
    rotate_left
    focus (intro w' hw'; go_simp; all_goals with_reducible rfl)
    try simp only [Act.put, List.setIfInBounds_toArray, List.set_cons_zero, List.set_cons_succ]
    refine wpAnyH_take (i := 5) (v := ?_) (by simp only [List.getElem?_toArray, List.getElem?_cons_succ, List.getElem?_cons_zero] <;> exact rfl) (by kernel_rfl) (by kernel_rfl) (by kernel_rfl) (fun _ _ _ h => h) (Or.inl ⟨by rfl, ?_⟩) hS ?_
    rotate_left
    focus (intro w' hw'; go_simp; all_goals with_reducible rfl)
    try simp only [Act.put, List.setIfInBounds_toArray, List.set_cons_zero, List.set_cons_succ]
    refine wpAnyH_take (i := 6) (v := ?_) (by simp only [List.getElem?_toArray, List.getElem?_cons_succ, List.getElem?_cons_zero] <;> exact rfl) (by kernel_rfl) (by kernel_rfl) (by kernel_rfl) (fun _ _ _ h => h) (Or.inl ⟨by rfl, ?_⟩) hS ?_
    rotate_left
    focus (intro w' hw'; have kk := hw'.c4; go_simp; all_goals with_reducible rfl)
    try simp only [Act.put, List.setIfInBounds_toArray, List.set_cons_zero, List.set_cons_succ]
    refine wpAnyH_take (i := 7) (v := ?_) (by simp only [List.getElem?_toArray, List.getElem?_cons_succ, List.getElem?_cons_zero] <;> exact rfl) (by kernel_rfl) (by kernel_rfl) (by kernel_rfl) (fun _ _ _ h => h) (Or.inl ⟨by rfl, ?_⟩) hS ?_
    rotate_left
    focus (intro w' hw'; go_simp; all_goals with_reducible rfl)
    try simp only [Act.put, List.setIfInBounds_toArray, List.set_cons_zero, List.set_cons_succ]
    refine wpAnyH_take (i := 8) (v := ?_) (by simp only [List.getElem?_toArray, List.getElem?_cons_succ, List.getElem?_cons_zero] <;> exact rfl) (by kernel_rfl) (by kernel_rfl) (by kernel_rfl) (fun _ _ _ h => h) (Or.inl ⟨by rfl, ?_⟩) hS ?_
    rotate_left
    focus (intro w' hw'; go_simp; all_goals with_reducible rfl)
    try simp only [Act.put, List.setIfInBounds_toArray, List.set_cons_zero, List.set_cons_succ]
    refine wpAnyH_ready (rs := [1, 10]) (by kernel_rfl) (by simp) ?_
    refine AllReadyH.cons (o := _) (by simp only [List.getElem?_toArray, List.getElem?_cons_succ, List.getElem?_cons_zero] <;> exact rfl) (fun K hK => ?_) ?_
    focus (
      have d3 := (X.cell 3).trans (show _ = some (Value.int .i64 l) from rfl)
      go_simp
      refine hK.out _ _ hS (fun _ => ?_)
      clear hK K d3
      try simp only [Act.put, List.setIfInBounds_toArray, List.set_cons_zero, List.set_cons_succ]
      refine wpAnyH_take (i := 9) (v := ?_) (by simp only [List.getElem?_toArray, List.getElem?_cons_succ, List.getElem?_cons_zero] <;> exact rfl) (by kernel_rfl) (by kernel_rfl) (by kernel_rfl) (fun _ _ _ h => h) (Or.inl ⟨by rfl, ?_⟩) hS ?_
      rotate_left
      focus (intro w' hw'; go_simp; all_goals with_reducible rfl)
      try simp only [Act.put, List.setIfInBounds_toArray, List.set_cons_zero, List.set_cons_succ]
      refine wpAnyH_ready (rs := [10]) (by kernel_rfl) (by simp) ?_
      refine AllReadyH.cons (o := _) (by simp only [List.getElem?_toArray, List.getElem?_cons_succ, List.getElem?_cons_zero] <;> exact rfl) (fun K hK => ?_) ?_
      focus (
        refine rgs_ld_blk (by rfl) 26 (.tmp 2) (by rfl) g (by rfl) 26 #[.int .i64 u, .int .i64 r, .int .i64 p, .int .i64 l, .int .i64 n] _ X Try.underlying26 rfl bu_size ?_
        refine hK.out _ _ hS (fun _ => ?_)
        clear hK K
        try simp only [Act.put, List.setIfInBounds_toArray, List.set_cons_zero, List.set_cons_succ]
        refine wpAnyH_ready (rs := [11]) (by kernel_rfl) (by simp) ?_
        refine AllReadyH.cons (o := _) (by simp only [List.getElem?_toArray, List.getElem?_cons_succ, List.getElem?_cons_zero] <;> exact rfl) (fun K hK => ?_) ?_
        focus (
          go_simp
          go_at_call 25
          refine (HF.out _).mono ?_
          rintro e wc ⟨rfl, hb⟩
          have hS := hS.keep hb
          have X := X.keep hb
          have ZZ := ZZ.keep hb
          have BB := BB.trans (hb.mono BB.size)
          clear hb
          go_wp2_with fail
          refine hK.out _ _ hS (fun _ => ?_)
          clear hK K
          try simp only [Act.put, List.setIfInBounds_toArray, List.set_cons_zero, List.set_cons_succ]
          refine wpAnyH_take (i := 12) (v := ?_) (by simp only [List.getElem?_toArray, List.getElem?_cons_succ, List.getElem?_cons_zero] <;> exact rfl) (by kernel_rfl) (by kernel_rfl) (by kernel_rfl) (fun _ _ _ h => h) (Or.inl ⟨by rfl, ?_⟩) hS ?_
          rotate_left
          focus (intro w' hw'; go_simp; all_goals with_reducible rfl)
          try simp only [Act.put, List.setIfInBounds_toArray, List.set_cons_zero, List.set_cons_succ]
          refine wpAnyH_take (i := 13) (v := ?_) (by simp only [List.getElem?_toArray, List.getElem?_cons_succ, List.getElem?_cons_zero] <;> exact rfl) (by kernel_rfl) (by kernel_rfl) (by kernel_rfl) (fun _ _ _ h => h) (Or.inl ⟨by rfl, ?_⟩) hS ?_
          rotate_left
          focus (intro w' hw'; go_simp; all_goals with_reducible rfl)
          try simp only [Act.put, List.setIfInBounds_toArray, List.set_cons_zero, List.set_cons_succ]
          refine wpAnyH_ready (rs := [14]) (by kernel_rfl) (by simp) ?_
          refine AllReadyH.cons (o := _) (by simp only [List.getElem?_toArray, List.getElem?_cons_succ, List.getElem?_cons_zero] <;> exact rfl) (fun K hK => ?_) ?_
          focus (
            have d3 := (X.cell 3).trans (show _ = some (Value.int .i64 l) from rfl)
            have f3 := X.frozen 3
            go_simp
            have hS := hS.put (.int .i64 (min (l + r * (t - n)) (u * p)))
            have X := X.put 3 (.int .i64 (min (l + r * (t - n)) (u * p)))
            have ZZ := ZZ.far (p := ⟨g, 3, none⟩) (by simp) (.int .i64 (min (l + r * (t - n)) (u * p)))
            have BB := BB.setCell (p := ⟨g, 3, none⟩) (by rw [HL.out]; exact Nat.le_refl _) (.int .i64 (min (l + r * (t - n)) (u * p)))
            refine hK.out _ _ hS (fun _ => ?_)
            clear hK K d3 f3 hS
            try simp only [Act.put, List.setIfInBounds_toArray, List.set_cons_zero, List.set_cons_succ]
            refine wpAnyH_done (by kernel_rfl) ?_ _
            refine NoPanic.normal ?_
            simp only [List.setIfInBounds_toArray, List.set_cons_zero, List.set_cons_succ] at X
            have HX := hide X
            have HZ := hide ZZ
            have HB := hide BB
            clear X ZZ BB
            go_wp2_with fail
            go_meet
            exact ⟨rfl, HX.out, HZ.out, HB.out⟩)
          exact AllReadyH.nil)
        exact AllReadyH.nil)
      exact AllReadyH.nil)
    refine AllReadyH.cons (o := _) (by simp only [List.getElem?_toArray, List.getElem?_cons_succ, List.getElem?_cons_zero] <;> exact rfl) (fun K hK => ?_) ?_
    focus (
      refine rgs_ld_blk (by rfl) 26 (.tmp 2) (by rfl) g (by rfl) 26 #[.int .i64 u, .int .i64 r, .int .i64 p, .int .i64 l, .int .i64 n] _ X Try.underlying26 rfl bu_size ?_
      refine hK.out _ _ hS (fun _ => ?_)
      clear hK K
      try simp only [Act.put, List.setIfInBounds_toArray, List.set_cons_zero, List.set_cons_succ]
      refine wpAnyH_ready (rs := [1, 11]) (by kernel_rfl) (by simp) ?_
      refine AllReadyH.cons (o := _) (by simp only [List.getElem?_toArray, List.getElem?_cons_succ, List.getElem?_cons_zero] <;> exact rfl) (fun K hK => ?_) ?_
      focus (
        have d3 := (X.cell 3).trans (show _ = some (Value.int .i64 l) from rfl)
        go_simp
        refine hK.out _ _ hS (fun _ => ?_)
        clear hK K d3
        try simp only [Act.put, List.setIfInBounds_toArray, List.set_cons_zero, List.set_cons_succ]
        refine wpAnyH_take (i := 9) (v := ?_) (by simp only [List.getElem?_toArray, List.getElem?_cons_succ, List.getElem?_cons_zero] <;> exact rfl) (by kernel_rfl) (by kernel_rfl) (by kernel_rfl) (fun _ _ _ h => h) (Or.inl ⟨by rfl, ?_⟩) hS ?_
        rotate_left
        focus (intro w' hw'; go_simp; all_goals with_reducible rfl)
        try simp only [Act.put, List.setIfInBounds_toArray, List.set_cons_zero, List.set_cons_succ]
        refine wpAnyH_ready (rs := [11]) (by kernel_rfl) (by simp) ?_
        refine AllReadyH.cons (o := _) (by simp only [List.getElem?_toArray, List.getElem?_cons_succ, List.getElem?_cons_zero] <;> exact rfl) (fun K hK => ?_) ?_
        focus (
          go_simp
          go_at_call 25
          refine (HF.out _).mono ?_
          rintro e wc ⟨rfl, hb⟩
          have hS := hS.keep hb
          have X := X.keep hb
          have ZZ := ZZ.keep hb
          have BB := BB.trans (hb.mono BB.size)
          clear hb
          go_wp2_with fail
          refine hK.out _ _ hS (fun _ => ?_)
          clear hK K
          try simp only [Act.put, List.setIfInBounds_toArray, List.set_cons_zero, List.set_cons_succ]
          refine wpAnyH_take (i := 12) (v := ?_) (by simp only [List.getElem?_toArray, List.getElem?_cons_succ, List.getElem?_cons_zero] <;> exact rfl) (by kernel_rfl) (by kernel_rfl) (by kernel_rfl) (fun _ _ _ h => h) (Or.inl ⟨by rfl, ?_⟩) hS ?_
          rotate_left
          focus (intro w' hw'; go_simp; all_goals with_reducible rfl)
          try simp only [Act.put, List.setIfInBounds_toArray, List.set_cons_zero, List.set_cons_succ]
          refine wpAnyH_take (i := 13) (v := ?_) (by simp only [List.getElem?_toArray, List.getElem?_cons_succ, List.getElem?_cons_zero] <;> exact rfl) (by kernel_rfl) (by kernel_rfl) (by kernel_rfl) (fun _ _ _ h => h) (Or.inl ⟨by rfl, ?_⟩) hS ?_
          rotate_left
          focus (intro w' hw'; go_simp; all_goals with_reducible rfl)
          try simp only [Act.put, List.setIfInBounds_toArray, List.set_cons_zero, List.set_cons_succ]
          refine wpAnyH_ready (rs := [14]) (by kernel_rfl) (by simp) ?_
          refine AllReadyH.cons (o := _) (by simp only [List.getElem?_toArray, List.getElem?_cons_succ, List.getElem?_cons_zero] <;> exact rfl) (fun K hK => ?_) ?_
          focus (
            have d3 := (X.cell 3).trans (show _ = some (Value.int .i64 l) from rfl)
            have f3 := X.frozen 3
            go_simp
            have hS := hS.put (.int .i64 (min (l + r * (t - n)) (u * p)))
            have X := X.put 3 (.int .i64 (min (l + r * (t - n)) (u * p)))
            have ZZ := ZZ.far (p := ⟨g, 3, none⟩) (by simp) (.int .i64 (min (l + r * (t - n)) (u * p)))
            have BB := BB.setCell (p := ⟨g, 3, none⟩) (by rw [HL.out]; exact Nat.le_refl _) (.int .i64 (min (l + r * (t - n)) (u * p)))
            refine hK.out _ _ hS (fun _ => ?_)
            clear hK K d3 f3 hS
            try simp only [Act.put, List.setIfInBounds_toArray, List.set_cons_zero, List.set_cons_succ]
            refine wpAnyH_done (by kernel_rfl) ?_ _
            refine NoPanic.normal ?_
            simp only [List.setIfInBounds_toArray, List.set_cons_zero, List.set_cons_succ] at X
            have HX := hide X
            have HZ := hide ZZ
            have HB := hide BB
            clear X ZZ BB
            go_wp2_with fail
            go_meet
            exact ⟨rfl, HX.out, HZ.out, HB.out⟩)
          exact AllReadyH.nil)
        exact AllReadyH.nil)
      refine AllReadyH.cons (o := _) (by simp only [List.getElem?_toArray, List.getElem?_cons_succ, List.getElem?_cons_zero] <;> exact rfl) (fun K hK => ?_) ?_
      focus (
        go_simp
        go_at_call 25
        refine (HF.out _).mono ?_
        rintro e wc ⟨rfl, hb⟩
        have hS := hS.keep hb
        have X := X.keep hb
        have ZZ := ZZ.keep hb
        have BB := BB.trans (hb.mono BB.size)
        clear hb
        go_wp2_with fail
        refine hK.out _ _ hS (fun _ => ?_)
        clear hK K
        try simp only [Act.put, List.setIfInBounds_toArray, List.set_cons_zero, List.set_cons_succ]
        refine wpAnyH_ready (rs := [1]) (by kernel_rfl) (by simp) ?_
        refine AllReadyH.cons (o := _) (by simp only [List.getElem?_toArray, List.getElem?_cons_succ, List.getElem?_cons_zero] <;> exact rfl) (fun K hK => ?_) ?_
        focus (
          have d3 := (X.cell 3).trans (show _ = some (Value.int .i64 l) from rfl)
          go_simp
          refine hK.out _ _ hS (fun _ => ?_)
          clear hK K d3
          try simp only [Act.put, List.setIfInBounds_toArray, List.set_cons_zero, List.set_cons_succ]
          refine wpAnyH_take (i := 9) (v := ?_) (by simp only [List.getElem?_toArray, List.getElem?_cons_succ, List.getElem?_cons_zero] <;> exact rfl) (by kernel_rfl) (by kernel_rfl) (by kernel_rfl) (fun _ _ _ h => h) (Or.inl ⟨by rfl, ?_⟩) hS ?_
          rotate_left
          focus (intro w' hw'; go_simp; all_goals with_reducible rfl)
          try simp only [Act.put, List.setIfInBounds_toArray, List.set_cons_zero, List.set_cons_succ]
          refine wpAnyH_take (i := 12) (v := ?_) (by simp only [List.getElem?_toArray, List.getElem?_cons_succ, List.getElem?_cons_zero] <;> exact rfl) (by kernel_rfl) (by kernel_rfl) (by kernel_rfl) (fun _ _ _ h => h) (Or.inl ⟨by rfl, ?_⟩) hS ?_
          rotate_left
          focus (intro w' hw'; go_simp; all_goals with_reducible rfl)
          try simp only [Act.put, List.setIfInBounds_toArray, List.set_cons_zero, List.set_cons_succ]
          refine wpAnyH_take (i := 13) (v := ?_) (by simp only [List.getElem?_toArray, List.getElem?_cons_succ, List.getElem?_cons_zero] <;> exact rfl) (by kernel_rfl) (by kernel_rfl) (by kernel_rfl) (fun _ _ _ h => h) (Or.inl ⟨by rfl, ?_⟩) hS ?_
          rotate_left
          focus (intro w' hw'; go_simp; all_goals with_reducible rfl)
          try simp only [Act.put, List.setIfInBounds_toArray, List.set_cons_zero, List.set_cons_succ]
          refine wpAnyH_ready (rs := [14]) (by kernel_rfl) (by simp) ?_
          refine AllReadyH.cons (o := _) (by simp only [List.getElem?_toArray, List.getElem?_cons_succ, List.getElem?_cons_zero] <;> exact rfl) (fun K hK => ?_) ?_
          focus (
            have d3 := (X.cell 3).trans (show _ = some (Value.int .i64 l) from rfl)
            have f3 := X.frozen 3
            go_simp
            have hS := hS.put (.int .i64 (min (l + r * (t - n)) (u * p)))
            have X := X.put 3 (.int .i64 (min (l + r * (t - n)) (u * p)))
            have ZZ := ZZ.far (p := ⟨g, 3, none⟩) (by simp) (.int .i64 (min (l + r * (t - n)) (u * p)))
            have BB := BB.setCell (p := ⟨g, 3, none⟩) (by rw [HL.out]; exact Nat.le_refl _) (.int .i64 (min (l + r * (t - n)) (u * p)))
            refine hK.out _ _ hS (fun _ => ?_)
            clear hK K d3 f3 hS
            try simp only [Act.put, List.setIfInBounds_toArray, List.set_cons_zero, List.set_cons_succ]
            refine wpAnyH_done (by kernel_rfl) ?_ _
            refine NoPanic.normal ?_
            simp only [List.setIfInBounds_toArray, List.set_cons_zero, List.set_cons_succ] at X
            have HX := hide X
            have HZ := hide ZZ
            have HB := hide BB
            clear X ZZ BB
            go_wp2_with fail
            go_meet
            exact ⟨rfl, HX.out, HZ.out, HB.out⟩)
          exact AllReadyH.nil)
        exact AllReadyH.nil)
      exact AllReadyH.nil)
    exact AllReadyH.nil
  case rest =>
    obtain ⟨rfl, hx, hz, hb⟩ := hcut
    obtain ⟨L, hL⟩ : ∃ L, min (l + r * (t - n)) (u * p) = L := ⟨_, rfl⟩
    rw [hL] at hx
    have HLL := hide hL
    clear hL
    have X4 := hide (hx.put 4 (.int .i64 t))
    have Z4 := hide (hz.far (p := ⟨g, 4, none⟩) (by simp) (.int .i64 t))
    have B4 := hide (hb.setCell (p := ⟨g, 4, none⟩) (by rw [HL.out]; exact Nat.le_refl _) (.int .i64 t))
    simp only [List.setIfInBounds_toArray, List.set_cons_zero, List.set_cons_succ] at X4
    have d4 := (hx.cell 4).trans (show _ = some (Value.int .i64 n) from rfl)
    have f4 := hx.frozen 4
    clear hx hz hb HX HZ HB HS HF W1 W2 W3 h1' h2' w1 w2 w3
    go_upto_region 5 with (fail)
    generalize wc.setCell ⟨g, 4, none⟩ (.int .i64 t) = w5 at *
    clear d4 f4
    go_wp2_with (first
      | (refine wpList_load_blk rfl 26 (.tmp 2) rfl g rfl 26 #[.int .i64 u, .int .i64 r, .int .i64 p, .int .i64 L, .int .i64 t] _ X4.out Try.underlying26 rfl bu_size ?_)
      | (refine wpList_store_blk rfl 26 (.tmp 4) (.tmp 35) rfl (g + 1) #[.int .i64 u, .int .i64 r, .int .i64 p, .int .i64 L, .int .i64 t] _ 26 rfl rfl Z4.out bu_size rfl (by simp [Value.oneCell']) ?_))
    exact bodyPost_ret (results_cell_blk rfl _ _ (g + 1) 26 #[.int .i64 u, .int .i64 r, .int .i64 p, .int .i64 L, .int .i64 t] _ rfl (Z4.out.row _) Try.underlying26 rfl bu_size) rfl ⟨by rw [HLL.out], below_setRow B4.out (by have := HL.out; omega) _⟩

theorem bu_At (b : Bu) (t : Int) (w : World) : Calls Try.prog 17 #[.agg b.cs, .int .i64 t] w fun e w' => e = .returned (.agg (atB b t).cs) ∧ Below w.heap.size w w' := by
  by_cases h : Goes b t
  · rw [atB_yes h]
    exact bu_At_yes b.u b.r b.p b.l b.n t h w
  · rw [atB_no h]
    exact bu_At_no b t h w
end Go.Proofs.Ytgibhdbhagcpoaa
