/-
  Layer 11: On (the document's), part E.
-/
import Derived.Test.YtighhdgaaelcdaaRkOn0
import Derived.BigGuardPart
namespace Go.Proofs.Ytighhdgaaelcdaa
set_option linter.unusedSimpArgs false
set_option linter.unusedVariables false
open Go.RowKit

set_option maxRecDepth 100000 in
set_option maxHeartbeats 1600000 in
theorem rk_whole_new (z : Int) (d fd : ByteArray) (e : Bool) (cs : Array Value) (hcz : cs.size = 12) (q0 : cs[0]? = some (.int .u8 1)) (q2 : cs[2]? = some (.int .i64 z)) (q3 : cs[3]? = some (.string fd)) (a : Nat) (ha : a < 256) (q1 : cs[1]? = some (.int .u8 (a : Int))) (hc : Bk.chk ⟨0, d, e⟩ = 0) (hd : (d.size : Int) ≤ 5000) (hf : (fd.size : Int) ≤ 5000) (k1 : 1 ≤ z) (k2 : z ≤ 2147483647) (hl : ¬ 4096 < d.size + fd.size) (h4 : hasB (a : Int) ((4 : Nat) : Int) = true) (w : World) :
    Calls Try.prog 8 #[.agg #[.int .i64 0, .string d, .bool e], .agg cs] w (GivesOn .i64 ⟨Bk.zero, ⟨z, d ++ fd, hasB (a : Int) 1⟩, true, 0⟩ w) := by
  have HC := hide (fun w => rf_Check11 0 d e w)
  rw [hc] at HC
  have HH1 := hide (fun w => rf_Has a 1 ha (by decide) w)
  have HH4 := hide (fun w => rf_Has a 4 ha (by decide) w)
  rw [h4] at HH4
  obtain ⟨nb, hnb⟩ : ∃ k, k = hasB (a : Int) 1 := ⟨_, rfl⟩
  rw [show ((1 : Nat) : Int) = 1 from rfl, ← hnb] at HH1
  rw [← hnb]
  clear hnb
  have Hl2 := hide (show ¬ z < 1 by omega)
  have Hl3 := hide (show ¬ 2147483647 < z by omega)
  have hsum : ¬ 9223372036854775807 < d.size + fd.size := by omega
  have HSZ := hide (show (d ++ fd).size = d.size + fd.size from ByteArray.size_append)
  have HL := hide hl
  have HSUM := hide hsum
  clear hsum hc hd hf k1 k2 hl h4
  obtain ⟨g, hg⟩ : ∃ g, g = w.heap.size := ⟨_, rfl⟩
  have HS0 := hide (OnN.start w 0 d e cs)
  rw [← hg] at HS0
  have HG := hide hg
  go_enter Try.func8, Try.ntmps8
  go_upto_region 2 with (refine wpList_store_new rfl 23 (.tmp 8) (.tmp 11) rfl #[.int .i64 0, .string ⟨#[]⟩, .bool false] #[.int .i64 0, .string ⟨#[]⟩, .bool false] 23 rfl rfl bk_size9 rfl (by simp [Value.oneCell']) ?_)
  rw [← hg]
  rw [show g + 1 + 1 + 1 + 1 = g + 4 from rfl, show g + 1 + 1 + 1 = g + 3 from rfl, show g + 1 + 1 = g + 2 from rfl]
  clear hg
  have S0 := hide HS0.out
  clear HS0
  generalize ((((w.alloc (.cells #[.int .i64 0, .string d, .bool e] 23)).alloc (.cells cs 27)).alloc (.cells #[.int .i64 0, .string ⟨#[]⟩, .bool false] 23)).alloc (.cells #[.int .i64 0, .string ⟨#[]⟩, .bool false] 23)).alloc (.cells #[.int .i64 0, .string ⟨#[]⟩, .bool false] 23) = w0 at S0 ⊢
  have l2 := Hl2.out
  have l3 := Hl3.out
  have d0 := (S0.out.on.fr.cell 0).trans q0
  have d2 := (S0.out.on.fr.cell 2).trans q2
  go_upto_region 3 with (fail)
  clear d0 d2
  go_wp2_with (first | (refine wpList_load_blk rfl 23 (.tmp 2) rfl g rfl 23 #[.int .i64 0, .string d, .bool e] _ S0.out.on.st Try.underlying23 rfl bk_size9 ?_))
  refine (HC.out _).mono ?_
  rintro r w1 ⟨rfl, hb⟩
  have S1 := hide (S0.out.keep hb HG.out.symm)
  clear hb S0
  have d0 := (S1.out.on.fr.cell 0).trans q0
  have d2 := (S1.out.on.fr.cell 2).trans q2
  have d3 := (S1.out.on.fr.cell 3).trans q3
  obtain ⟨c0, c1, c2⟩ := bk_cells S1.out.on.st
  obtain ⟨n0, n1, n2⟩ := bk_cells S1.out.nn
  have l2 := Hl2.out
  have l3 := Hl3.out
  have hsum := HSUM.out
  go_upto_region 5 with (fail)
  go_upto_region 7 with (fail)
  go_upto_region 11 with (fail)
  clear d0 n0 n1 n2 l2 l3
  refine wp_region_lit ?_
  refine wpList_rd (.pointer (some ⟨g + 1, 2, none⟩)) ?_ ?_ ?_
  focus (rfl)
  focus (go_simp; done)
  simp only [Act.put, List.setIfInBounds_toArray, List.set_cons_zero, List.set_cons_succ]
  refine wpList_rd (.int .i64 z) ?_ ?_ ?_
  focus (rfl)
  focus (go_simp; done)
  simp only [Act.put, List.setIfInBounds_toArray, List.set_cons_zero, List.set_cons_succ]
  refine wpList_rd (.pointer (some ⟨g, 1, none⟩)) ?_ ?_ ?_
  focus (rfl)
  focus (go_simp; done)
  simp only [Act.put, List.setIfInBounds_toArray, List.set_cons_zero, List.set_cons_succ]
  refine wpList_rd (.string d) ?_ ?_ ?_
  focus (rfl)
  focus (go_simp; done)
  simp only [Act.put, List.setIfInBounds_toArray, List.set_cons_zero, List.set_cons_succ]
  refine wpList_rd (.pointer (some ⟨g + 1, 3, none⟩)) ?_ ?_ ?_
  focus (rfl)
  focus (go_simp; done)
  simp only [Act.put, List.setIfInBounds_toArray, List.set_cons_zero, List.set_cons_succ]
  refine wpList_rd (.string fd) ?_ ?_ ?_
  focus (rfl)
  focus (go_simp; done)
  simp only [Act.put, List.setIfInBounds_toArray, List.set_cons_zero, List.set_cons_succ]
  refine wpList_rd (.string (d ++ fd)) ?_ ?_ ?_
  focus (rfl)
  focus (go_simp; done)
  simp only [Act.put, List.setIfInBounds_toArray, List.set_cons_zero, List.set_cons_succ]
  refine wpList_rd (.pointer (some ⟨g, 2, none⟩)) ?_ ?_ ?_
  focus (rfl)
  focus (go_simp; done)
  simp only [Act.put, List.setIfInBounds_toArray, List.set_cons_zero, List.set_cons_succ]
  refine wpList_rd (.bool e) ?_ ?_ ?_
  focus (rfl)
  focus (go_simp; done)
  simp only [Act.put, List.setIfInBounds_toArray, List.set_cons_zero, List.set_cons_succ]
  refine wpList_built rfl 23 _ rfl #[.int .i64 z, .string (d ++ fd), .bool e] (by kernel_rfl) ?_
  simp only [Act.put, List.setIfInBounds_toArray, List.set_cons_zero, List.set_cons_succ]
  go_upto_region 12 with (refine wpList_store_new rfl 23 (.tmp 10) (.tmp 82) rfl #[.int .i64 z, .string (d ++ fd), .bool e] #[.int .i64 0, .string ⟨#[]⟩, .bool false] 23 rfl rfl bk_size9 rfl (by simp [Value.oneCell']) ?_)
  clear c0 c1 c2 d2 d3 hsum
  have K2 := hide (BlkIs.new w1 23 #[.int .i64 z, .string (d ++ fd), .bool e])
  have S2 := hide (S1.out.alloc HG.out.symm (.cells #[.int .i64 z, .string (d ++ fd), .bool e] 23))
  obtain ⟨v, hv⟩ : ∃ v, v = w1.heap.size := ⟨_, rfl⟩
  rw [← hv] at K2 ⊢
  have HV := hide (show g + 4 < v by have := S1.out.nn.lt; omega)
  clear hv S1
  generalize w1.alloc (.cells #[.int .i64 z, .string (d ++ fd), .bool e] 23) = w2 at K2 S2 ⊢
  obtain ⟨Y, hY⟩ : ∃ Y, Y = d ++ fd := ⟨_, rfl⟩
  rw [← hY] at K2 HSZ
  try rw [← hY]
  have hl2 : ¬ (4096 : Int) < (Y.size : Int) := by have := HL.out; have := HSZ.out; omega
  have HL2 := hide hl2
  have HY := hide hY
  clear hl2 hY HL HSZ HSUM
  have d0 := (S2.out.on.fr.cell 0).trans q0
  have d1 := (S2.out.on.fr.cell 1).trans q1
  go_wp2_with fail
  refine (HH1.out _).mono ?_
  rintro r w3 ⟨rfl, rfl⟩
  clear HH1 d0
  have x2 := K2.out.cell 2
  have zx := K2.out.frozen 2
  simp only [List.getElem?_toArray, List.getElem?_cons_zero, List.getElem?_cons_succ] at x2
  go_upto_region 14 with (fail)
  have K3 := hide (show BlkIs (w2.setCell ⟨v, 2, none⟩ (.bool nb)) v 23 #[.int .i64 z, .string Y, .bool nb] from K2.out.put 2 (.bool nb))
  have S3 := hide (S2.out.far (p := ⟨v, 2, none⟩) HV.out (.bool nb))
  clear x2 zx d1 K2 S2
  generalize w2.setCell ⟨v, 2, none⟩ (.bool nb) = w3 at K3 S3 ⊢
  have d1 := (S3.out.on.fr.cell 1).trans q1
  obtain ⟨x0, x1, x2⟩ := bk_cells K3.out
  have hl2 := HL2.out
  go_wp2_with fail
  refine (HH4.out _).mono ?_
  rintro r w4 ⟨rfl, rfl⟩
  clear HH4
  obtain ⟨n0, n1, n2⟩ := bk_cells S3.out.nn
  have ne1 : ¬ v = g + 2 := by have := HV.out; omega
  have ne2 : ¬ v = g + 3 := by have := HV.out; omega
  go_upto_region 17 with (fail)
  obtain ⟨⟨a0, a1, a2⟩, y0, y1, y2⟩ := S3.out.r4s
  obtain ⟨⟨b0, b1, b2⟩, z0, z1, z2⟩ := S3.out.r5s
  go_region
  all_goals
    clear a0 a1 a2 b0 b1 b2 y0 y1 y2 z0 z1 z2
    go_wp2_with fail
    obtain ⟨D1, D2, D3⟩ := S3.out.on.put6 (.int .i64 0) (.string ⟨#[]⟩) (.bool false) (.int .i64 z) (.string Y) (.bool nb)
    refine bodyPost_ret (results_cell2_tmp2_blk rfl _ _ (g + 2) (g + 3) 23 23 _ _ _ _ rfl rfl D1 D2 Try.underlying23 rfl bk_size9 Try.underlying23 rfl bk_size9 _ _ rfl rfl) rfl ⟨by rw [← HY.out]; rfl, ?_⟩
    rw [← HG.out]
    exact D3

set_option maxRecDepth 100000 in
set_option maxHeartbeats 1600000 in
theorem rk_whole_on (s : Int) (d fd : ByteArray) (e : Bool) (cs : Array Value) (hcz : cs.size = 12) (q0 : cs[0]? = some (.int .u8 9)) (q2 : cs[2]? = some (.int .i64 s)) (q3 : cs[3]? = some (.string fd)) (a : Nat) (ha : a < 256) (q1 : cs[1]? = some (.int .u8 (a : Int))) (hc : Bk.chk ⟨s, d, e⟩ = 0) (hs : ¬ s = 0) (hd : (d.size : Int) ≤ 5000) (hf : (fd.size : Int) ≤ 5000) (k1 : 1 ≤ s) (k2 : s ≤ 2147483647) (hl : ¬ 4096 < d.size + fd.size) (h4 : hasB (a : Int) ((4 : Nat) : Int) = true) (w : World) :
    Calls Try.prog 8 #[.agg #[.int .i64 s, .string d, .bool e], .agg cs] w (GivesOn .i64 ⟨Bk.zero, ⟨s, d ++ fd, e⟩, true, 0⟩ w) := by
  have HC := hide (fun w => rf_Check11 s d e w)
  rw [hc] at HC
  have HH4 := hide (fun w => rf_Has a 4 ha (by decide) w)
  rw [h4] at HH4
  have Hl2 := hide (show ¬ s < 1 by omega)
  have Hl3 := hide (show ¬ 2147483647 < s by omega)
  have Hhs := hide (show ¬ s = 0 by exact hs)
  have hsum : ¬ 9223372036854775807 < d.size + fd.size := by omega
  have HSZ := hide (show (d ++ fd).size = d.size + fd.size from ByteArray.size_append)
  have HL := hide hl
  have HSUM := hide hsum
  clear hsum hc hs hd hf k1 k2 hl h4
  obtain ⟨g, hg⟩ : ∃ g, g = w.heap.size := ⟨_, rfl⟩
  have HS0 := hide (OnN.start w s d e cs)
  rw [← hg] at HS0
  have HG := hide hg
  go_enter Try.func8, Try.ntmps8
  go_upto_region 2 with (refine wpList_store_new rfl 23 (.tmp 8) (.tmp 11) rfl #[.int .i64 0, .string ⟨#[]⟩, .bool false] #[.int .i64 0, .string ⟨#[]⟩, .bool false] 23 rfl rfl bk_size9 rfl (by simp [Value.oneCell']) ?_)
  rw [← hg]
  rw [show g + 1 + 1 + 1 + 1 = g + 4 from rfl, show g + 1 + 1 + 1 = g + 3 from rfl, show g + 1 + 1 = g + 2 from rfl]
  clear hg
  have S0 := hide HS0.out
  clear HS0
  generalize ((((w.alloc (.cells #[.int .i64 s, .string d, .bool e] 23)).alloc (.cells cs 27)).alloc (.cells #[.int .i64 0, .string ⟨#[]⟩, .bool false] 23)).alloc (.cells #[.int .i64 0, .string ⟨#[]⟩, .bool false] 23)).alloc (.cells #[.int .i64 0, .string ⟨#[]⟩, .bool false] 23) = w0 at S0 ⊢
  have l2 := Hl2.out
  have l3 := Hl3.out
  have hs := Hhs.out
  have d0 := (S0.out.on.fr.cell 0).trans q0
  have d2 := (S0.out.on.fr.cell 2).trans q2
  go_upto_region 3 with (fail)
  clear d0 d2
  go_wp2_with (first | (refine wpList_load_blk rfl 23 (.tmp 2) rfl g rfl 23 #[.int .i64 s, .string d, .bool e] _ S0.out.on.st Try.underlying23 rfl bk_size9 ?_))
  refine (HC.out _).mono ?_
  rintro r w1 ⟨rfl, hb⟩
  have S1 := hide (S0.out.keep hb HG.out.symm)
  clear hb S0
  have d0 := (S1.out.on.fr.cell 0).trans q0
  have d2 := (S1.out.on.fr.cell 2).trans q2
  have d3 := (S1.out.on.fr.cell 3).trans q3
  obtain ⟨c0, c1, c2⟩ := bk_cells S1.out.on.st
  obtain ⟨n0, n1, n2⟩ := bk_cells S1.out.nn
  have l2 := Hl2.out
  have l3 := Hl3.out
  have hs := Hhs.out
  have hsum := HSUM.out
  go_upto_region 5 with (fail)
  go_upto_region 7 with (fail)
  go_upto_region 11 with (fail)
  clear d0 n0 n1 n2 l2 l3 hs
  refine wp_region_lit ?_
  refine wpList_rd (.pointer (some ⟨g + 1, 2, none⟩)) ?_ ?_ ?_
  focus (rfl)
  focus (go_simp; done)
  simp only [Act.put, List.setIfInBounds_toArray, List.set_cons_zero, List.set_cons_succ]
  refine wpList_rd (.int .i64 s) ?_ ?_ ?_
  focus (rfl)
  focus (go_simp; done)
  simp only [Act.put, List.setIfInBounds_toArray, List.set_cons_zero, List.set_cons_succ]
  refine wpList_rd (.pointer (some ⟨g, 1, none⟩)) ?_ ?_ ?_
  focus (rfl)
  focus (go_simp; done)
  simp only [Act.put, List.setIfInBounds_toArray, List.set_cons_zero, List.set_cons_succ]
  refine wpList_rd (.string d) ?_ ?_ ?_
  focus (rfl)
  focus (go_simp; done)
  simp only [Act.put, List.setIfInBounds_toArray, List.set_cons_zero, List.set_cons_succ]
  refine wpList_rd (.pointer (some ⟨g + 1, 3, none⟩)) ?_ ?_ ?_
  focus (rfl)
  focus (go_simp; done)
  simp only [Act.put, List.setIfInBounds_toArray, List.set_cons_zero, List.set_cons_succ]
  refine wpList_rd (.string fd) ?_ ?_ ?_
  focus (rfl)
  focus (go_simp; done)
  simp only [Act.put, List.setIfInBounds_toArray, List.set_cons_zero, List.set_cons_succ]
  refine wpList_rd (.string (d ++ fd)) ?_ ?_ ?_
  focus (rfl)
  focus (go_simp; done)
  simp only [Act.put, List.setIfInBounds_toArray, List.set_cons_zero, List.set_cons_succ]
  refine wpList_rd (.pointer (some ⟨g, 2, none⟩)) ?_ ?_ ?_
  focus (rfl)
  focus (go_simp; done)
  simp only [Act.put, List.setIfInBounds_toArray, List.set_cons_zero, List.set_cons_succ]
  refine wpList_rd (.bool e) ?_ ?_ ?_
  focus (rfl)
  focus (go_simp; done)
  simp only [Act.put, List.setIfInBounds_toArray, List.set_cons_zero, List.set_cons_succ]
  refine wpList_built rfl 23 _ rfl #[.int .i64 s, .string (d ++ fd), .bool e] (by kernel_rfl) ?_
  simp only [Act.put, List.setIfInBounds_toArray, List.set_cons_zero, List.set_cons_succ]
  go_upto_region 12 with (refine wpList_store_new rfl 23 (.tmp 10) (.tmp 82) rfl #[.int .i64 s, .string (d ++ fd), .bool e] #[.int .i64 0, .string ⟨#[]⟩, .bool false] 23 rfl rfl bk_size9 rfl (by simp [Value.oneCell']) ?_)
  clear c0 c1 c2 d2 d3 hsum
  have K2 := hide (BlkIs.new w1 23 #[.int .i64 s, .string (d ++ fd), .bool e])
  have S2 := hide (S1.out.alloc HG.out.symm (.cells #[.int .i64 s, .string (d ++ fd), .bool e] 23))
  obtain ⟨v, hv⟩ : ∃ v, v = w1.heap.size := ⟨_, rfl⟩
  rw [← hv] at K2 ⊢
  have HV := hide (show g + 4 < v by have := S1.out.nn.lt; omega)
  clear hv S1
  generalize w1.alloc (.cells #[.int .i64 s, .string (d ++ fd), .bool e] 23) = w2 at K2 S2 ⊢
  obtain ⟨Y, hY⟩ : ∃ Y, Y = d ++ fd := ⟨_, rfl⟩
  rw [← hY] at K2 HSZ
  try rw [← hY]
  have hl2 : ¬ (4096 : Int) < (Y.size : Int) := by have := HL.out; have := HSZ.out; omega
  have HL2 := hide hl2
  have HY := hide hY
  clear hl2 hY HL HSZ HSUM
  have d0 := (S2.out.on.fr.cell 0).trans q0
  have d1 := (S2.out.on.fr.cell 1).trans q1
  go_upto_region 14 with (fail)
  clear d0
  obtain ⟨x0, x1, x2⟩ := bk_cells K2.out
  have hl2 := HL2.out
  go_wp2_with fail
  refine (HH4.out _).mono ?_
  rintro r w4 ⟨rfl, rfl⟩
  clear HH4
  obtain ⟨n0, n1, n2⟩ := bk_cells S2.out.nn
  have ne1 : ¬ v = g + 2 := by have := HV.out; omega
  have ne2 : ¬ v = g + 3 := by have := HV.out; omega
  go_upto_region 17 with (fail)
  obtain ⟨⟨a0, a1, a2⟩, y0, y1, y2⟩ := S2.out.r4s
  obtain ⟨⟨b0, b1, b2⟩, z0, z1, z2⟩ := S2.out.r5s
  go_region
  all_goals
    clear a0 a1 a2 b0 b1 b2 y0 y1 y2 z0 z1 z2
    go_wp2_with fail
    obtain ⟨D1, D2, D3⟩ := S2.out.on.put6 (.int .i64 0) (.string ⟨#[]⟩) (.bool false) (.int .i64 s) (.string Y) (.bool e)
    refine bodyPost_ret (results_cell2_tmp2_blk rfl _ _ (g + 2) (g + 3) 23 23 _ _ _ _ rfl rfl D1 D2 Try.underlying23 rfl bk_size9 Try.underlying23 rfl bk_size9 _ _ rfl rfl) rfl ⟨by rw [← HY.out]; rfl, ?_⟩
    rw [← HG.out]
    exact D3
end Go.Proofs.Ytighhdgaaelcdaa
