/-
  Layer 11: grown (a state with a frame's piece behind what there is).
-/
import Derived.Test.YtighhdgaaelcdaaBkOn0
namespace Go.Proofs.Ytighhdgaaelcdaa
set_option linter.unusedSimpArgs false
set_option linter.unusedVariables false
open Go.RowKit

/-- What grown's walk knows of memory. -/
structure GrS (B : Nat) (w0 w : World) (g : Nat) (cs : Array Value) : Prop where
  st : ∃ x y z, BlkIs w g 29 #[x, y, z]
  fr : BlkIs w (g + 1) 34 cs
  r4 : BlkIs w (g + 2) 29 #[.int .i64 0, .string ⟨#[]⟩, .bool false]
  bl : Below B w0 w
  le : B ≤ g
section
variable {B : Nat} {w0 w w' : World} {g : Nat} {cs : Array Value}
theorem GrS.keep (h : GrS B w0 w g cs) (hb : Below w.heap.size w w') (hB : w0.heap.size = B) : GrS B w0 w' g cs :=
  ⟨by obtain ⟨x, y, z, k⟩ := h.st; exact ⟨x, y, z, k.keep hb⟩, h.fr.keep hb, h.r4.keep hb, h.bl.trans (hb.mono (by have := h.bl.size; omega)), h.le⟩
theorem GrS.drew (h : GrS B w0 w g cs) : GrS B w0 w.drew g cs := ⟨by obtain ⟨x, y, z, k⟩ := h.st; exact ⟨x, y, z, k.drew⟩, h.fr.drew, h.r4.drew, h.bl.drew, h.le⟩
theorem GrS.start (w : World) (s : Int) (d : ByteArray) (e : Bool) (cs : Array Value) :
    GrS w.heap.size w (((w.alloc (.cells #[.int .i64 s, .string d, .bool e] 29)).alloc (.cells cs 34)).alloc (.cells #[.int .i64 0, .string ⟨#[]⟩, .bool false] 29)) w.heap.size cs ∧
    BlkIs (((w.alloc (.cells #[.int .i64 s, .string d, .bool e] 29)).alloc (.cells cs 34)).alloc (.cells #[.int .i64 0, .string ⟨#[]⟩, .bool false] 29)) w.heap.size 29 #[.int .i64 s, .string d, .bool e] := by
  have hs : BlkIs (((w.alloc (.cells #[.int .i64 s, .string d, .bool e] 29)).alloc (.cells cs 34)).alloc (.cells #[.int .i64 0, .string ⟨#[]⟩, .bool false] 29)) w.heap.size 29 #[.int .i64 s, .string d, .bool e] := (((BlkIs.new w _ _).alloc _).alloc _)
  refine ⟨⟨⟨_, _, _, hs⟩, (blk_two).alloc _, ?_, (below_three), Nat.le_refl _⟩, hs⟩
  have := (BlkIs.new ((w.alloc (.cells #[.int .i64 s, .string d, .bool e] 29)).alloc (.cells cs 34)) 29 #[.int .i64 0, .string ⟨#[]⟩, .bool false])
  simpa using this
theorem GrS.row (h : GrS B w0 w g cs) (x y z : Value) : GrS B w0 (w.setRow g #[x, y, z]) g cs ∧ BlkIs (w.setRow g #[x, y, z]) g 29 #[x, y, z] := by
  have hl := h.le
  obtain ⟨a, b, c, k⟩ := h.st
  exact ⟨⟨⟨_, _, _, k.row _⟩, h.fr.row_other (by omega) _, h.r4.row_other (by omega) _, below_setRow h.bl hl _, hl⟩, k.row _⟩
theorem GrS.put (h : GrS B w0 w g cs) {x y z : Value} (k : BlkIs w g 29 #[x, y, z]) (u : Value) : GrS B w0 (w.setCell ⟨g, 1, none⟩ u) g cs ∧ BlkIs (w.setCell ⟨g, 1, none⟩ u) g 29 #[x, u, z] := by
  have hl := h.le
  exact ⟨⟨⟨_, _, _, k.put 1 u⟩, h.fr.far (by simp) _, h.r4.far (by simp) _, h.bl.setCell hl _, hl⟩, k.put 1 u⟩
end
theorem bk_built02 (s : Int) (e : Bool) : Try.prog.built 29 [(0, .int .i64 s), (2, .bool e)] = some #[.int .i64 s, .string ⟨#[]⟩, .bool e] := by kernel_rfl

set_option maxRecDepth 100000 in
set_option maxHeartbeats 1600000 in
/-- The rest of grown: the piece behind what there is. -/
theorem bk_grown (s : Int) (d : ByteArray) (e : Bool) (F : Fr) (A : Option Addr) (n c : Nat) (hk : s = 0 ∧ d = ⟨#[]⟩ ∧ F.ty = 1 ∨ ¬ s = 0 ∧ F.ty = 9 ∧ F.st = s) (f0 : 0 ≤ F.fl) (f1 : F.fl ≤ 255) (hd : (d.size : Int) ≤ 5000) (hf : (F.data.size : Int) ≤ 5000) (w : World) :
    Calls Try.prog 20 #[.agg #[.int .i64 s, .string d, .bool e], .agg (F.cs A n c)] w fun r w' => r = .returned (.agg #[.int .i64 (Bk.grow ⟨s, d, e⟩ F).s, .string (Bk.grow ⟨s, d, e⟩ F).d, .bool (Bk.grow ⟨s, d, e⟩ F).e]) ∧ Below w.heap.size w w' := by
  have HO := hide (fun w => bk_Open s d e w)
  have HH := hide (fun w => bk_has F A n c 1 w)
  rw [has_one f0 f1] at HH
  have hsum : ¬ 9223372036854775807 < d.size + F.data.size := by omega
  have HCL := hide (fr_clone (d ++ F.data) (by rw [ByteArray.size_append]; omega))
  have HR : (Bk.grow ⟨s, d, e⟩ F) = ⟨F.st, d ++ F.data, if F.ty = 1 then hasB F.fl 1 else e⟩ := rfl
  rw [HR]
  clear HR f0 f1 hd hf
  obtain ⟨_, _, q2, q3, _⟩ := fr_qs F A n c
  obtain ⟨S0, K0⟩ := GrS.start w s d e (F.cs A n c)
  have HS0 := hide S0
  have HK0 := hide K0
  clear S0 K0
  have hcz : (F.cs A n c).size = 12 := rfl
  have HQ := hide (And.intro q2 (And.intro q3 hcz))
  clear q2 q3 hcz
  rcases hk with ⟨rfl, rfl, h1⟩ | ⟨hs, h9, rfl⟩
  · rw [if_pos h1]
    generalize hasB F.fl 1 = fb at HH ⊢
    generalize F.st = fs at HQ ⊢
    generalize F.data = fd at HQ HCL hsum ⊢
    clear h1
    generalize F.cs A n c = cs at *
    go_enter Try.func20, Try.ntmps20
    go_wp2_with fail
    refine (HO.out _).mono ?_
    rintro r w1 ⟨rfl, hb1⟩
    have S1 := hide (HS0.out.keep hb1 rfl)
    clear hb1 HS0 HK0
    obtain ⟨g, hg⟩ : ∃ g, g = w.heap.size := ⟨_, rfl⟩
    rw [← hg] at S1 ⊢
    have HG := hide hg
    clear hg HO
    obtain ⟨q2, q3, hcz⟩ := HQ.out
    go_upto_region 2 with (fail)
    refine wp_region_noPanic ?_
    refine wp_region_held_drew (S := fun w' => GrS g w w' g cs) (by kernel_rfl) S1.out.drew (fun hS => ?_)
    refine wpAnyH_take (i := 0) (v := ?_) (by simp only [List.getElem?_toArray, List.getElem?_cons_zero] <;> exact rfl) (by kernel_rfl) (by kernel_rfl) (by kernel_rfl) (fun _ _ _ h => h) (Or.inl ⟨by rfl, ?_⟩) hS ?_
    rotate_left
    focus (intro w' hw'; go_simp; all_goals with_reducible rfl)
    try simp only [Act.put, List.setIfInBounds_toArray, List.set_cons_zero, List.set_cons_succ]
    refine wpAnyH_take (i := 1) (v := ?_) (by simp only [List.getElem?_toArray, List.getElem?_cons_succ, List.getElem?_cons_zero] <;> exact rfl) (by kernel_rfl) (by kernel_rfl) (by kernel_rfl) (fun _ _ _ h => h) (Or.inl ⟨by rfl, ?_⟩) hS ?_
    rotate_left
    focus (intro w' hw'; have kk := (hw'.fr.cell 2).trans q2; go_simp; all_goals with_reducible rfl)
    try simp only [Act.put, List.setIfInBounds_toArray, List.set_cons_zero, List.set_cons_succ]
    refine wpAnyH_take (i := 2) (by simp only [List.getElem?_toArray, List.getElem?_cons_succ, List.getElem?_cons_zero] <;> exact rfl) (by kernel_rfl) (by kernel_rfl) (by kernel_rfl) (fun _ _ _ h => h) (rgs_yields_blk (by rfl) 34 (.tmp 3) (by rfl) (g + 1) (by rfl) 34 cs _ (fun w' hw' => hw'.fr) Try.underlying34 rfl (by rw [hcz]; exact bf_size)) hS ?_
    try simp only [Act.put, List.setIfInBounds_toArray, List.set_cons_zero, List.set_cons_succ]
    refine wpAnyH_ready (rs := [3]) (by kernel_rfl) (by simp) ?_
    refine AllReadyH.cons (o := _) (by simp only [List.getElem?_toArray, List.getElem?_cons_succ, List.getElem?_cons_zero] <;> exact rfl) (fun K hK => ?_) ?_
    focus (
      go_simp
      go_at_call 21
      refine (HH.out _).mono ?_
      rintro e wc ⟨rfl, hb⟩
      have hS := hS.keep hb HG.out.symm
      clear hb
      go_wp2_with fail
      refine hK.out _ _ hS (fun _ => ?_)
      clear hK K
      try simp only [Act.put, List.setIfInBounds_toArray, List.set_cons_zero, List.set_cons_succ]
      refine wpAnyH_take (i := 4) (v := ?_) (by simp only [List.getElem?_toArray, List.getElem?_cons_succ, List.getElem?_cons_zero] <;> exact rfl) (by kernel_rfl) (by kernel_rfl) (by kernel_rfl) (fun _ _ _ h => h) (Or.inl ⟨by rfl, ?_⟩) hS ?_
      rotate_left
      focus (intro w' hw'; have kk := bk_built02 fs fb; go_simp; all_goals with_reducible rfl)
      try simp only [Act.put, List.setIfInBounds_toArray, List.set_cons_zero, List.set_cons_succ]
      refine wpAnyH_ready (rs := [5]) (by kernel_rfl) (by simp) ?_
      refine AllReadyH.cons (o := _) (by simp only [List.getElem?_toArray, List.getElem?_cons_succ, List.getElem?_cons_zero] <;> exact rfl) (fun K hK => ?_) ?_
      focus (
        obtain ⟨x0, x1, x2, kst⟩ := hS.st
        refine rgs_store_blk (by rfl) 29 (.tmp 2) (.tmp 12) (by rfl) g #[.int .i64 fs, .string ⟨#[]⟩, .bool fb] #[x0, x1, x2] 29 (by rfl) (by rfl) kst bk_size rfl (by simp [Value.oneCell']) ?_
        obtain ⟨hS2, hk2⟩ := hS.row (.int .i64 fs) (.string ⟨#[]⟩) (.bool fb)
        refine hK.out _ _ hS2 (fun _ => ?_)
        clear hK K hS kst
        generalize wc.setRow g #[.int .i64 fs, .string ⟨#[]⟩, .bool fb] = w2 at hS2 hk2 ⊢
        try simp only [Act.put, List.setIfInBounds_toArray, List.set_cons_zero, List.set_cons_succ]
        refine wpAnyH_done (by kernel_rfl) ?_ _
        refine NoPanic.normal ?_
        have S2 := hide hS2
        have K2 := hide hk2
        clear hS2 hk2 S1
        obtain ⟨c0, c1, c2⟩ := bk_cells K2.out
        have d3 := (S2.out.fr.cell 3).trans q3
        go_wp2_with fail
        refine (HCL.out _).mono ?_
        rintro r w3 ⟨rfl, hb3⟩
        have S3 := hide (S2.out.keep hb3 HG.out.symm)
        have K3 := hide (K2.out.keep hb3)
        clear hb3 S2 K2 c0 c1 c2 d3
        obtain ⟨c0, c1, c2⟩ := bk_cells K3.out
        have z1 := K3.out.frozen 1
        go_wp2_with (first
          | (obtain ⟨S4, K4⟩ := S3.out.put K3.out (.string (⟨#[]⟩ ++ fd)); refine wpList_load_blk rfl 29 (.tmp 2) rfl g rfl 29 #[.int .i64 fs, .string (⟨#[]⟩ ++ fd), .bool fb] _ K4 Try.underlying29 rfl bk_size ?_)
          | (refine wpList_store_blk rfl 29 (.tmp 4) (.tmp 20) rfl (g + 2) #[.int .i64 fs, .string (⟨#[]⟩ ++ fd), .bool fb] #[.int .i64 0, .string ⟨#[]⟩, .bool false] 29 rfl rfl S4.r4 bk_size rfl (by simp [Value.oneCell']) ?_))
        obtain ⟨S4, K4⟩ := S3.out.put K3.out (.string (⟨#[]⟩ ++ fd))
        refine bodyPost_ret (results_cell_blk rfl _ _ (g + 2) 29 #[.int .i64 fs, .string (⟨#[]⟩ ++ fd), .bool fb] _ rfl (S4.r4.row _) Try.underlying29 rfl bk_size) rfl ⟨rfl, ?_⟩
        rw [← HG.out]
        exact below_setRow S4.bl (by omega) _)
      exact AllReadyH.nil)
    exact AllReadyH.nil
  · rw [if_neg (by omega)]
    have hs' : (!decide (F.st = 0)) = true := by simp [hs]
    rw [hs'] at HO
    generalize F.st = fs at *
    generalize F.data = fd at HQ HCL hsum ⊢
    clear h9 HH hs' hs
    generalize F.cs A n c = cs at *
    go_enter Try.func20, Try.ntmps20
    go_wp2_with fail
    refine (HO.out _).mono ?_
    rintro r w1 ⟨rfl, hb1⟩
    have S2 := hide (HS0.out.keep hb1 rfl)
    have K2 := hide (HK0.out.keep hb1)
    clear hb1 HS0 HK0
    obtain ⟨g, hg⟩ : ∃ g, g = w.heap.size := ⟨_, rfl⟩
    rw [← hg] at S2 K2 ⊢
    have HG := hide hg
    clear hg HO
    obtain ⟨q2, q3, hcz⟩ := HQ.out
    clear q2
    obtain ⟨c0, c1, c2⟩ := bk_cells K2.out
    have d3 := (S2.out.fr.cell 3).trans q3
    go_wp2_with fail
    refine (HCL.out _).mono ?_
    rintro r w3 ⟨rfl, hb3⟩
    have S3 := hide (S2.out.keep hb3 HG.out.symm)
    have K3 := hide (K2.out.keep hb3)
    clear hb3 S2 K2 c0 c1 c2 d3
    obtain ⟨c0, c1, c2⟩ := bk_cells K3.out
    have z1 := K3.out.frozen 1
    go_wp2_with (first
      | (obtain ⟨S4, K4⟩ := S3.out.put K3.out (.string (d ++ fd)); refine wpList_load_blk rfl 29 (.tmp 2) rfl g rfl 29 #[.int .i64 fs, .string (d ++ fd), .bool e] _ K4 Try.underlying29 rfl bk_size ?_)
      | (refine wpList_store_blk rfl 29 (.tmp 4) (.tmp 20) rfl (g + 2) #[.int .i64 fs, .string (d ++ fd), .bool e] #[.int .i64 0, .string ⟨#[]⟩, .bool false] 29 rfl rfl S4.r4 bk_size rfl (by simp [Value.oneCell']) ?_))
    obtain ⟨S4, K4⟩ := S3.out.put K3.out (.string (d ++ fd))
    refine bodyPost_ret (results_cell_blk rfl _ _ (g + 2) 29 #[.int .i64 fs, .string (d ++ fd), .bool e] _ rfl (S4.r4.row _) Try.underlying29 rfl bk_size) rfl ⟨rfl, ?_⟩
    rw [← HG.out]
    exact below_setRow S4.bl (by omega) _
end Go.Proofs.Ytighhdgaaelcdaa
