/-
  Layer 11: On (the document's), part C.
-/
import Derived.Test.YtighhdgaaelcdaaRkOn0
import Derived.BigGuardPart
namespace Go.Proofs.Ytighhdgaaelcdaa
set_option linter.unusedSimpArgs false
set_option linter.unusedVariables false
open Go.RowKit

set_option maxRecDepth 100000 in
set_option maxHeartbeats 1600000 in
theorem rk_other (s z : Int) (d fd : ByteArray) (e : Bool) (cs : Array Value) (hcz : cs.size = 12) (q0 : cs[0]? = some (.int .u8 9)) (q2 : cs[2]? = some (.int .i64 z)) (q3 : cs[3]? = some (.string fd)) (hc : Bk.chk ⟨s, d, e⟩ = 0) (hs : ¬ s = 0) (k1 : 1 ≤ z) (k2 : z ≤ 2147483647) (hne : ¬ z = s) (w : World) :
    Calls Try.prog 8 #[.agg #[.int .i64 s, .string d, .bool e], .agg cs] w (GivesOn .i64 ⟨⟨s, d, e⟩, Bk.zero, false, 1⟩ w) := by
  have HC := hide (fun w => rf_Check11 s d e w)
  rw [hc] at HC
  have Hl2 := hide (show ¬ z < 1 by omega)
  have Hl3 := hide (show ¬ 2147483647 < z by omega)
  have Hhs := hide (show ¬ s = 0 by exact hs)
  have Hhne := hide (show ¬ z = s by exact hne)
  clear hc hs k1 k2 hne
  obtain ⟨g, hg⟩ : ∃ g, g = w.heap.size := ⟨_, rfl⟩
  have HS0 := hide (OnN.start w s d e cs)
  rw [← hg] at HS0
  have HG := hide hg
  go_enter Try.func8, Try.ntmps8
  go_upto_region 2 with (refine wpList_store_new rfl 23 (.tmp 8) (.tmp 11) rfl #[.int .i64 0, .string ⟨#[]⟩, .bool false] #[.int .i64 0, .string ⟨#[]⟩, .bool false] 23 rfl rfl bk_size9 rfl (by simp [Value.oneCell']) ?_)
  rw [← hg]
  rw [show g + 1 + 1 + 1 + 1 = g + 4 from rfl, show g + 1 + 1 + 1 = g + 3 from rfl, show g + 1 + 1 = g + 2 from rfl]
  clear hg
  have S0 := hide HS0.out
  clear HS0
  generalize ((((w.alloc (.cells #[.int .i64 s, .string d, .bool e] 23)).alloc (.cells cs 27)).alloc (.cells #[.int .i64 0, .string ⟨#[]⟩, .bool false] 23)).alloc (.cells #[.int .i64 0, .string ⟨#[]⟩, .bool false] 23)).alloc (.cells #[.int .i64 0, .string ⟨#[]⟩, .bool false] 23) = w0 at S0 ⊢
  have l2 := Hl2.out
  have l3 := Hl3.out
  have hs := Hhs.out
  have hne := Hhne.out
  have d0 := (S0.out.on.fr.cell 0).trans q0
  have d2 := (S0.out.on.fr.cell 2).trans q2
  go_upto_region 3 with (fail)
  clear d0 d2
  go_wp2_with (first | (refine wpList_load_blk rfl 23 (.tmp 2) rfl g rfl 23 #[.int .i64 s, .string d, .bool e] _ S0.out.on.st Try.underlying23 rfl bk_size9 ?_))
  refine (HC.out _).mono ?_
  rintro r w1 ⟨rfl, hb⟩
  have S1 := hide (S0.out.keep hb HG.out.symm)
  clear hb S0
  have d0 := (S1.out.on.fr.cell 0).trans q0
  have d2 := (S1.out.on.fr.cell 2).trans q2
  obtain ⟨c0, c1, c2⟩ := bk_cells S1.out.on.st
  obtain ⟨n0, n1, n2⟩ := bk_cells S1.out.nn
  have l2 := Hl2.out
  have l3 := Hl3.out
  have hs := Hhs.out
  have hne := Hhne.out
  go_upto_region 6 with (fail)
  clear d0 d2 l2 l3 hs hne
  obtain ⟨⟨a0, a1, a2⟩, y0, y1, y2⟩ := S1.out.r4s
  obtain ⟨⟨b0, b1, b2⟩, z0, z1, z2⟩ := S1.out.r5s
  go_region
  all_goals
    clear a0 a1 a2 b0 b1 b2 y0 y1 y2 z0 z1 z2
    go_wp2_with fail
    obtain ⟨D1, D2, D3⟩ := S1.out.on.put6 (.int .i64 s) (.string d) (.bool e) (.int .i64 0) (.string ⟨#[]⟩) (.bool false)
    refine bodyPost_ret (results_cell2_tmp2_blk rfl _ _ (g + 2) (g + 3) 23 23 _ _ _ _ rfl rfl D1 D2 Try.underlying23 rfl bk_size9 Try.underlying23 rfl bk_size9 _ _ rfl rfl) rfl ⟨rfl, ?_⟩
    rw [← HG.out]
    exact D3

set_option maxRecDepth 100000 in
set_option maxHeartbeats 1600000 in
theorem rk_alone (z : Int) (d fd : ByteArray) (e : Bool) (cs : Array Value) (hcz : cs.size = 12) (q0 : cs[0]? = some (.int .u8 9)) (q2 : cs[2]? = some (.int .i64 z)) (q3 : cs[3]? = some (.string fd)) (hc : Bk.chk ⟨0, d, e⟩ = 0) (k1 : 1 ≤ z) (k2 : z ≤ 2147483647) (w : World) :
    Calls Try.prog 8 #[.agg #[.int .i64 0, .string d, .bool e], .agg cs] w (GivesOn .i64 ⟨⟨0, d, e⟩, Bk.zero, false, 1⟩ w) := by
  have HC := hide (fun w => rf_Check11 0 d e w)
  rw [hc] at HC
  have Hl2 := hide (show ¬ z < 1 by omega)
  have Hl3 := hide (show ¬ 2147483647 < z by omega)
  clear hc k1 k2
  obtain ⟨g, hg⟩ : ∃ g, g = w.heap.size := ⟨_, rfl⟩
  have HS0 := hide (OnN.start w 0 d e cs)
  rw [← hg] at HS0
  have HG := hide hg
  go_enter Try.func8, Try.ntmps8
  go_upto_region 2 with (refine wpList_store_new rfl 23 (.tmp 8) (.tmp 11) rfl #[.int .i64 0, .string ⟨#[]⟩, .bool false] #[.int .i64 0, .string ⟨#[]⟩, .bool false] 23 rfl rfl bk_size9 rfl (by simp [Value.oneCell']) ?_)
  rw [← hg]
  rw [show g + 1 + 1 + 1 + 1 = g + 4 from rfl, show g + 1 + 1 + 1 = g + 3 from rfl, show g + 1 + 1 = g + 2 from rfl]
  clear hg
  have S0 := hide HS0.out
  clear HS0
  generalize ((((w.alloc (.cells #[.int .i64 0, .string d, .bool e] 23)).alloc (.cells cs 27)).alloc (.cells #[.int .i64 0, .string ⟨#[]⟩, .bool false] 23)).alloc (.cells #[.int .i64 0, .string ⟨#[]⟩, .bool false] 23)).alloc (.cells #[.int .i64 0, .string ⟨#[]⟩, .bool false] 23) = w0 at S0 ⊢
  have l2 := Hl2.out
  have l3 := Hl3.out
  have d0 := (S0.out.on.fr.cell 0).trans q0
  have d2 := (S0.out.on.fr.cell 2).trans q2
  go_upto_region 3 with (fail)
  clear d0 d2
  go_wp2_with (first | (refine wpList_load_blk rfl 23 (.tmp 2) rfl g rfl 23 #[.int .i64 0, .string d, .bool e] _ S0.out.on.st Try.underlying23 rfl bk_size9 ?_))
  refine (HC.out _).mono ?_
  rintro r w1 ⟨rfl, hb⟩
  have S1 := hide (S0.out.keep hb HG.out.symm)
  clear hb S0
  have d0 := (S1.out.on.fr.cell 0).trans q0
  have d2 := (S1.out.on.fr.cell 2).trans q2
  obtain ⟨c0, c1, c2⟩ := bk_cells S1.out.on.st
  obtain ⟨n0, n1, n2⟩ := bk_cells S1.out.nn
  have l2 := Hl2.out
  have l3 := Hl3.out
  go_upto_region 8 with (fail)
  clear d0 d2 l2 l3
  obtain ⟨⟨a0, a1, a2⟩, y0, y1, y2⟩ := S1.out.r4s
  obtain ⟨⟨b0, b1, b2⟩, z0, z1, z2⟩ := S1.out.r5s
  go_region
  all_goals
    clear a0 a1 a2 b0 b1 b2 y0 y1 y2 z0 z1 z2
    go_wp2_with fail
    obtain ⟨D1, D2, D3⟩ := S1.out.on.put6 (.int .i64 0) (.string d) (.bool e) (.int .i64 0) (.string ⟨#[]⟩) (.bool false)
    refine bodyPost_ret (results_cell2_tmp2_blk rfl _ _ (g + 2) (g + 3) 23 23 _ _ _ _ rfl rfl D1 D2 Try.underlying23 rfl bk_size9 Try.underlying23 rfl bk_size9 _ _ rfl rfl) rfl ⟨rfl, ?_⟩
    rw [← HG.out]
    exact D3

set_option maxRecDepth 100000 in
set_option maxHeartbeats 1600000 in
theorem rk_nothing (t z : Int) (d fd : ByteArray) (e : Bool) (cs : Array Value) (hcz : cs.size = 12) (q0 : cs[0]? = some (.int .u8 t)) (q2 : cs[2]? = some (.int .i64 z)) (q3 : cs[3]? = some (.string fd)) (hc : Bk.chk ⟨0, d, e⟩ = 0) (h1 : ¬ t = 1) (h9 : ¬ t = 9) (w : World) :
    Calls Try.prog 8 #[.agg #[.int .i64 0, .string d, .bool e], .agg cs] w (GivesOn .i64 ⟨⟨0, d, e⟩, Bk.zero, false, 0⟩ w) := by
  have HC := hide (fun w => rf_Check11 0 d e w)
  rw [hc] at HC
  have Hh1 := hide (show ¬ t = 1 by exact h1)
  have Hh9 := hide (show ¬ t = 9 by exact h9)
  clear hc h1 h9
  obtain ⟨g, hg⟩ : ∃ g, g = w.heap.size := ⟨_, rfl⟩
  have HS0 := hide (OnN.start w 0 d e cs)
  rw [← hg] at HS0
  have HG := hide hg
  go_enter Try.func8, Try.ntmps8
  go_upto_region 2 with (refine wpList_store_new rfl 23 (.tmp 8) (.tmp 11) rfl #[.int .i64 0, .string ⟨#[]⟩, .bool false] #[.int .i64 0, .string ⟨#[]⟩, .bool false] 23 rfl rfl bk_size9 rfl (by simp [Value.oneCell']) ?_)
  rw [← hg]
  rw [show g + 1 + 1 + 1 + 1 = g + 4 from rfl, show g + 1 + 1 + 1 = g + 3 from rfl, show g + 1 + 1 = g + 2 from rfl]
  clear hg
  have S0 := hide HS0.out
  clear HS0
  generalize ((((w.alloc (.cells #[.int .i64 0, .string d, .bool e] 23)).alloc (.cells cs 27)).alloc (.cells #[.int .i64 0, .string ⟨#[]⟩, .bool false] 23)).alloc (.cells #[.int .i64 0, .string ⟨#[]⟩, .bool false] 23)).alloc (.cells #[.int .i64 0, .string ⟨#[]⟩, .bool false] 23) = w0 at S0 ⊢
  have h1 := Hh1.out
  have h9 := Hh9.out
  have d0 := (S0.out.on.fr.cell 0).trans q0
  have d2 := (S0.out.on.fr.cell 2).trans q2
  go_upto_region 3 with (fail)
  clear d0 d2
  go_wp2_with (first | (refine wpList_load_blk rfl 23 (.tmp 2) rfl g rfl 23 #[.int .i64 0, .string d, .bool e] _ S0.out.on.st Try.underlying23 rfl bk_size9 ?_))
  refine (HC.out _).mono ?_
  rintro r w1 ⟨rfl, hb⟩
  have S1 := hide (S0.out.keep hb HG.out.symm)
  clear hb S0
  have d0 := (S1.out.on.fr.cell 0).trans q0
  have d2 := (S1.out.on.fr.cell 2).trans q2
  obtain ⟨c0, c1, c2⟩ := bk_cells S1.out.on.st
  obtain ⟨n0, n1, n2⟩ := bk_cells S1.out.nn
  have h1 := Hh1.out
  have h9 := Hh9.out
  go_upto_region 10 with (fail)
  clear d0 d2 h1 h9
  obtain ⟨⟨a0, a1, a2⟩, y0, y1, y2⟩ := S1.out.r4s
  obtain ⟨⟨b0, b1, b2⟩, z0, z1, z2⟩ := S1.out.r5s
  go_region
  all_goals
    clear a0 a1 a2 b0 b1 b2 y0 y1 y2 z0 z1 z2
    go_wp2_with fail
    obtain ⟨D1, D2, D3⟩ := S1.out.on.put6 (.int .i64 0) (.string d) (.bool e) (.int .i64 0) (.string ⟨#[]⟩) (.bool false)
    refine bodyPost_ret (results_cell2_tmp2_blk rfl _ _ (g + 2) (g + 3) 23 23 _ _ _ _ rfl rfl D1 D2 Try.underlying23 rfl bk_size9 Try.underlying23 rfl bk_size9 _ _ rfl rfl) rfl ⟨rfl, ?_⟩
    rw [← HG.out]
    exact D3
end Go.Proofs.Ytighhdgaaelcdaa
