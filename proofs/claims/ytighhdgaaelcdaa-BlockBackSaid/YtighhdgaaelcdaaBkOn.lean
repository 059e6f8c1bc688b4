/-
  Layer 11: On (the program's).
-/
import Derived.Test.YtighhdgaaelcdaaBkGrown
import Derived.BigGuardPart
namespace Go.Proofs.Ytighhdgaaelcdaa
set_option linter.unusedSimpArgs false
set_option linter.unusedVariables false
open Go.RowKit

theorem bw_built0 : Try.prog.built 30 [] = some #[.int .i64 0, .string ⟨#[]⟩, .bool false] := by kernel_rfl
theorem bk_built0 : Try.prog.built 29 [] = some #[.int .i64 0, .string ⟨#[]⟩, .bool false] := by kernel_rfl

set_option maxRecDepth 100000 in
set_option maxHeartbeats 1600000 in
theorem bk_On_bad (s : Int) (d : ByteArray) (e : Bool) (F : Fr) (A : Option Addr) (n c : Nat) (hc : ¬ Bk.chk ⟨s, d, e⟩ = 0) (w : World) :
    Calls Try.prog 7 #[.agg #[.int .i64 s, .string d, .bool e], .agg (F.cs A n c)] w (GivesOn .u32 ⟨⟨s, d, e⟩, Bk.zero, false, 0⟩ w) := by
  have HC := hide (fun w => bk_Check s d e w)
  generalize Bk.chk ⟨s, d, e⟩ = C at *
  have HCN := hide hc
  clear hc
  obtain ⟨q0, _, q2, q3, _⟩ := fr_qs F A n c
  have hcz : (F.cs A n c).size = 12 := rfl
  generalize F.cs A n c = cs at *
  obtain ⟨g, hg⟩ : ∃ g, g = w.heap.size := ⟨_, rfl⟩
  have HS0 := hide (OnS.start w 29 34 30 s d e cs)
  rw [← hg] at HS0
  have HG := hide hg
  go_enter Try.func7, Try.ntmps7
  go_upto_region 1 with (fail)
  rw [← hg]
  rw [show g + 1 + 1 + 1 = g + 3 from rfl, show g + 1 + 1 = g + 2 from rfl]
  clear hg
  have S0 := hide HS0.out
  clear HS0
  generalize (((w.alloc (.cells #[.int .i64 s, .string d, .bool e] 29)).alloc (.cells cs 34)).alloc (.cells #[.int .i64 0, .string ⟨#[]⟩, .bool false] 29)).alloc (.cells #[.int .i64 0, .string ⟨#[]⟩, .bool false] 30) = w0 at S0 ⊢
  go_wp2_with (first | (refine wpList_load_blk rfl 29 (.tmp 2) rfl g rfl 29 #[.int .i64 s, .string d, .bool e] _ S0.out.st Try.underlying29 rfl bk_size ?_))
  refine (HC.out _).mono ?_
  rintro r w1 ⟨rfl, hb⟩
  have S1 := hide (S0.out.keep hb HG.out.symm)
  clear hb S0
  have hc1 : (C != 0) = true := by have := HCN.out; simp [this]
  go_upto_region 2 with (fail)
  refine wp_region_lit ?_
  refine wpList_load_blk rfl 29 (.tmp 2) rfl g rfl 29 #[.int .i64 s, .string d, .bool e] _ S1.out.st Try.underlying29 rfl bk_size ?_
  simp only [Act.put, List.setIfInBounds_toArray, List.set_cons_zero, List.set_cons_succ]
  refine rgs_built_want (by rfl) 30 #[] rfl #[.int .i64 0, .string ⟨#[]⟩, .bool false] (by kernel_rfl) ?_
  simp only [Act.put, List.setIfInBounds_toArray, List.set_cons_zero, List.set_cons_succ]
  refine wpList_store_blk rfl 29 (.tmp 4) (.tmp 22) rfl (g + 2) #[.int .i64 s, .string d, .bool e] #[.int .i64 0, .string ⟨#[]⟩, .bool false] 29 rfl rfl S1.out.r4 bk_size rfl (by simp [Value.oneCell']) ?_
  simp only [Act.put, List.setIfInBounds_toArray, List.set_cons_zero, List.set_cons_succ]
  refine wpList_store_blk rfl 30 (.tmp 5) (.tmp 23) rfl (g + 3) #[.int .i64 0, .string ⟨#[]⟩, .bool false] #[.int .i64 0, .string ⟨#[]⟩, .bool false] 30 rfl rfl (S1.out.r5.row_other (by omega) _) bw_size rfl (by simp [Value.oneCell']) ?_
  simp only [Act.put, List.setIfInBounds_toArray, List.set_cons_zero, List.set_cons_succ]
  go_wp2_with fail
  obtain ⟨D1, D2, D3⟩ := S1.out.done (#[.int .i64 s, .string d, .bool e]) (#[.int .i64 0, .string ⟨#[]⟩, .bool false])
  refine bodyPost_ret (results_cell2_tmp2_blk rfl _ _ (g + 2) (g + 3) 29 30 _ _ _ _ rfl rfl D1 D2 Try.underlying29 rfl bk_size Try.underlying30 rfl bw_size _ _ rfl rfl) rfl ⟨rfl, ?_⟩
  rw [← HG.out]
  exact D3

set_option maxRecDepth 100000 in
set_option maxHeartbeats 1600000 in
theorem bk_On_far (s : Int) (d : ByteArray) (e : Bool) (F : Fr) (A : Option Addr) (n c : Nat) (hc : Bk.chk ⟨s, d, e⟩ = 0) (hp : partB F.ty = true) (hs : strB F.st = false) (w : World) :
    Calls Try.prog 7 #[.agg #[.int .i64 s, .string d, .bool e], .agg (F.cs A n c)] w (GivesOn .u32 ⟨⟨s, d, e⟩, Bk.zero, false, 0⟩ w) := by
  have HC := hide (fun w => bk_Check s d e w)
  have HP := hide (fun w => bk_isPart F A n c w)
  have HI := hide (fun w => bk_isStream F.st w)
  rw [hc] at HC
  rw [hp] at HP
  rw [hs] at HI
  clear hc hp hs
  obtain ⟨q0, _, q2, q3, _⟩ := fr_qs F A n c
  have hcz : (F.cs A n c).size = 12 := rfl
  generalize F.cs A n c = cs at *
  obtain ⟨g, hg⟩ : ∃ g, g = w.heap.size := ⟨_, rfl⟩
  have HS0 := hide (OnS.start w 29 34 30 s d e cs)
  rw [← hg] at HS0
  have HG := hide hg
  go_enter Try.func7, Try.ntmps7
  go_upto_region 1 with (fail)
  rw [← hg]
  rw [show g + 1 + 1 + 1 = g + 3 from rfl, show g + 1 + 1 = g + 2 from rfl]
  clear hg
  have S0 := hide HS0.out
  clear HS0
  generalize (((w.alloc (.cells #[.int .i64 s, .string d, .bool e] 29)).alloc (.cells cs 34)).alloc (.cells #[.int .i64 0, .string ⟨#[]⟩, .bool false] 29)).alloc (.cells #[.int .i64 0, .string ⟨#[]⟩, .bool false] 30) = w0 at S0 ⊢
  go_wp2_with (first | (refine wpList_load_blk rfl 29 (.tmp 2) rfl g rfl 29 #[.int .i64 s, .string d, .bool e] _ S0.out.st Try.underlying29 rfl bk_size ?_))
  refine (HC.out _).mono ?_
  rintro r w1 ⟨rfl, hb⟩
  have S1 := hide (S0.out.keep hb HG.out.symm)
  clear hb S0
  go_wp2_with (first | (refine rgs_load_want (by rfl) 34 (.tmp 3) rfl (g + 1) rfl 34 cs _ S1.out.fr Try.underlying34 rfl (by rw [hcz]; exact bf_size) ?_))
  refine (HP.out _).mono ?_
  rintro r w2 ⟨rfl, hb⟩
  have S2 := hide (S1.out.keep hb HG.out.symm)
  clear hb S1
  have d2 := (S2.out.fr.cell 2).trans q2
  go_wp2_with fail
  refine (HI.out _).mono ?_
  rintro r w3 ⟨rfl, rfl⟩
  go_upto_region 2 with (fail)
  refine wp_region_lit ?_
  refine wpList_load_blk rfl 29 (.tmp 2) rfl g rfl 29 #[.int .i64 s, .string d, .bool e] _ S2.out.st Try.underlying29 rfl bk_size ?_
  simp only [Act.put, List.setIfInBounds_toArray, List.set_cons_zero, List.set_cons_succ]
  refine rgs_built_want (by rfl) 30 #[] rfl #[.int .i64 0, .string ⟨#[]⟩, .bool false] (by kernel_rfl) ?_
  simp only [Act.put, List.setIfInBounds_toArray, List.set_cons_zero, List.set_cons_succ]
  refine wpList_store_blk rfl 29 (.tmp 4) (.tmp 22) rfl (g + 2) #[.int .i64 s, .string d, .bool e] #[.int .i64 0, .string ⟨#[]⟩, .bool false] 29 rfl rfl S2.out.r4 bk_size rfl (by simp [Value.oneCell']) ?_
  simp only [Act.put, List.setIfInBounds_toArray, List.set_cons_zero, List.set_cons_succ]
  refine wpList_store_blk rfl 30 (.tmp 5) (.tmp 23) rfl (g + 3) #[.int .i64 0, .string ⟨#[]⟩, .bool false] #[.int .i64 0, .string ⟨#[]⟩, .bool false] 30 rfl rfl (S2.out.r5.row_other (by omega) _) bw_size rfl (by simp [Value.oneCell']) ?_
  simp only [Act.put, List.setIfInBounds_toArray, List.set_cons_zero, List.set_cons_succ]
  go_wp2_with fail
  obtain ⟨D1, D2, D3⟩ := S2.out.done (#[.int .i64 s, .string d, .bool e]) (#[.int .i64 0, .string ⟨#[]⟩, .bool false])
  refine bodyPost_ret (results_cell2_tmp2_blk rfl _ _ (g + 2) (g + 3) 29 30 _ _ _ _ rfl rfl D1 D2 Try.underlying29 rfl bk_size Try.underlying30 rfl bw_size _ _ rfl rfl) rfl ⟨rfl, ?_⟩
  rw [← HG.out]
  exact D3

set_option maxRecDepth 100000 in
set_option maxHeartbeats 1600000 in
theorem bk_On_notpart (s : Int) (d : ByteArray) (e : Bool) (F : Fr) (A : Option Addr) (n c : Nat) (hc : Bk.chk ⟨s, d, e⟩ = 0) (hp : partB F.ty = false) (hf : folB s F = false) (w : World) :
    Calls Try.prog 7 #[.agg #[.int .i64 s, .string d, .bool e], .agg (F.cs A n c)] w (GivesOn .u32 ⟨⟨s, d, e⟩, Bk.zero, false, 1⟩ w) := by
  have HC := hide (fun w => bk_Check s d e w)
  have HP := hide (fun w => bk_isPart F A n c w)
  have HI := hide (fun w => bk_isStream F.st w)
  have HF := hide (fun w => bk_follows s d e F A n c w)
  rw [hc] at HC
  rw [hp] at HP
  rw [hf] at HF
  clear hc hp hf
  obtain ⟨q0, _, q2, q3, _⟩ := fr_qs F A n c
  have hcz : (F.cs A n c).size = 12 := rfl
  generalize F.cs A n c = cs at *
  obtain ⟨g, hg⟩ : ∃ g, g = w.heap.size := ⟨_, rfl⟩
  have HS0 := hide (OnS.start w 29 34 30 s d e cs)
  rw [← hg] at HS0
  have HG := hide hg
  go_enter Try.func7, Try.ntmps7
  go_upto_region 1 with (fail)
  rw [← hg]
  rw [show g + 1 + 1 + 1 = g + 3 from rfl, show g + 1 + 1 = g + 2 from rfl]
  clear hg
  have S0 := hide HS0.out
  clear HS0
  generalize (((w.alloc (.cells #[.int .i64 s, .string d, .bool e] 29)).alloc (.cells cs 34)).alloc (.cells #[.int .i64 0, .string ⟨#[]⟩, .bool false] 29)).alloc (.cells #[.int .i64 0, .string ⟨#[]⟩, .bool false] 30) = w0 at S0 ⊢
  go_wp2_with (first | (refine wpList_load_blk rfl 29 (.tmp 2) rfl g rfl 29 #[.int .i64 s, .string d, .bool e] _ S0.out.st Try.underlying29 rfl bk_size ?_))
  refine (HC.out _).mono ?_
  rintro r w1 ⟨rfl, hb⟩
  have S1 := hide (S0.out.keep hb HG.out.symm)
  clear hb S0
  go_wp2_with (first | (refine rgs_load_want (by rfl) 34 (.tmp 3) rfl (g + 1) rfl 34 cs _ S1.out.fr Try.underlying34 rfl (by rw [hcz]; exact bf_size) ?_))
  refine (HP.out _).mono ?_
  rintro r w2 ⟨rfl, hb⟩
  have S2 := hide (S1.out.keep hb HG.out.symm)
  clear hb S1
  go_wp2_with (first | (refine wpList_load_blk rfl 29 (.tmp 2) rfl g rfl 29 #[.int .i64 s, .string d, .bool e] _ S2.out.st Try.underlying29 rfl bk_size ?_) | (refine wpList_load_blk rfl 34 (.tmp 3) rfl (g + 1) rfl 34 cs _ S2.out.fr Try.underlying34 rfl (by rw [hcz]; exact bf_size) ?_))
  refine (HF.out _).mono ?_
  rintro r w3 ⟨rfl, hb⟩
  have S3 := hide (S2.out.keep hb HG.out.symm)
  clear hb S2
  go_upto_region 4 with (fail)
  refine wp_region_lit ?_
  refine wpList_load_blk rfl 29 (.tmp 2) rfl g rfl 29 #[.int .i64 s, .string d, .bool e] _ S3.out.st Try.underlying29 rfl bk_size ?_
  simp only [Act.put, List.setIfInBounds_toArray, List.set_cons_zero, List.set_cons_succ]
  refine rgs_built_want (by rfl) 30 #[] rfl #[.int .i64 0, .string ⟨#[]⟩, .bool false] (by kernel_rfl) ?_
  simp only [Act.put, List.setIfInBounds_toArray, List.set_cons_zero, List.set_cons_succ]
  refine wpList_store_blk rfl 29 (.tmp 4) (.tmp 28) rfl (g + 2) #[.int .i64 s, .string d, .bool e] #[.int .i64 0, .string ⟨#[]⟩, .bool false] 29 rfl rfl S3.out.r4 bk_size rfl (by simp [Value.oneCell']) ?_
  simp only [Act.put, List.setIfInBounds_toArray, List.set_cons_zero, List.set_cons_succ]
  refine wpList_store_blk rfl 30 (.tmp 5) (.tmp 29) rfl (g + 3) #[.int .i64 0, .string ⟨#[]⟩, .bool false] #[.int .i64 0, .string ⟨#[]⟩, .bool false] 30 rfl rfl (S3.out.r5.row_other (by omega) _) bw_size rfl (by simp [Value.oneCell']) ?_
  simp only [Act.put, List.setIfInBounds_toArray, List.set_cons_zero, List.set_cons_succ]
  go_wp2_with fail
  obtain ⟨D1, D2, D3⟩ := S3.out.done (#[.int .i64 s, .string d, .bool e]) (#[.int .i64 0, .string ⟨#[]⟩, .bool false])
  refine bodyPost_ret (results_cell2_tmp2_blk rfl _ _ (g + 2) (g + 3) 29 30 _ _ _ _ rfl rfl D1 D2 Try.underlying29 rfl bk_size Try.underlying30 rfl bw_size _ _ rfl rfl) rfl ⟨rfl, ?_⟩
  rw [← HG.out]
  exact D3

set_option maxRecDepth 100000 in
set_option maxHeartbeats 1600000 in
theorem bk_On_part (s : Int) (d : ByteArray) (e : Bool) (F : Fr) (A : Option Addr) (n c : Nat) (hc : Bk.chk ⟨s, d, e⟩ = 0) (hp : partB F.ty = true) (hs : strB F.st = true) (hf : folB s F = false) (w : World) :
    Calls Try.prog 7 #[.agg #[.int .i64 s, .string d, .bool e], .agg (F.cs A n c)] w (GivesOn .u32 ⟨⟨s, d, e⟩, Bk.zero, false, 1⟩ w) := by
  have HC := hide (fun w => bk_Check s d e w)
  have HP := hide (fun w => bk_isPart F A n c w)
  have HI := hide (fun w => bk_isStream F.st w)
  have HF := hide (fun w => bk_follows s d e F A n c w)
  rw [hc] at HC
  rw [hp] at HP
  rw [hf] at HF
  rw [hs] at HI
  clear hc hp hf hs
  obtain ⟨q0, _, q2, q3, _⟩ := fr_qs F A n c
  have hcz : (F.cs A n c).size = 12 := rfl
  generalize F.cs A n c = cs at *
  obtain ⟨g, hg⟩ : ∃ g, g = w.heap.size := ⟨_, rfl⟩
  have HS0 := hide (OnS.start w 29 34 30 s d e cs)
  rw [← hg] at HS0
  have HG := hide hg
  go_enter Try.func7, Try.ntmps7
  go_upto_region 1 with (fail)
  rw [← hg]
  rw [show g + 1 + 1 + 1 = g + 3 from rfl, show g + 1 + 1 = g + 2 from rfl]
  clear hg
  have S0 := hide HS0.out
  clear HS0
  generalize (((w.alloc (.cells #[.int .i64 s, .string d, .bool e] 29)).alloc (.cells cs 34)).alloc (.cells #[.int .i64 0, .string ⟨#[]⟩, .bool false] 29)).alloc (.cells #[.int .i64 0, .string ⟨#[]⟩, .bool false] 30) = w0 at S0 ⊢
  go_wp2_with (first | (refine wpList_load_blk rfl 29 (.tmp 2) rfl g rfl 29 #[.int .i64 s, .string d, .bool e] _ S0.out.st Try.underlying29 rfl bk_size ?_))
  refine (HC.out _).mono ?_
  rintro r w1 ⟨rfl, hb⟩
  have S1 := hide (S0.out.keep hb HG.out.symm)
  clear hb S0
  go_wp2_with (first | (refine rgs_load_want (by rfl) 34 (.tmp 3) rfl (g + 1) rfl 34 cs _ S1.out.fr Try.underlying34 rfl (by rw [hcz]; exact bf_size) ?_))
  refine (HP.out _).mono ?_
  rintro r w2 ⟨rfl, hb⟩
  have S2 := hide (S1.out.keep hb HG.out.symm)
  clear hb S1
  have d2 := (S2.out.fr.cell 2).trans q2
  go_wp2_with fail
  refine (HI.out _).mono ?_
  rintro r w3 ⟨rfl, rfl⟩
  clear d2
  go_wp2_with (first | (refine wpList_load_blk rfl 29 (.tmp 2) rfl g rfl 29 #[.int .i64 s, .string d, .bool e] _ S2.out.st Try.underlying29 rfl bk_size ?_) | (refine wpList_load_blk rfl 34 (.tmp 3) rfl (g + 1) rfl 34 cs _ S2.out.fr Try.underlying34 rfl (by rw [hcz]; exact bf_size) ?_))
  refine (HF.out _).mono ?_
  rintro r w3 ⟨rfl, hb⟩
  have S3 := hide (S2.out.keep hb HG.out.symm)
  clear hb S2
  go_upto_region 4 with (fail)
  refine wp_region_lit ?_
  refine wpList_load_blk rfl 29 (.tmp 2) rfl g rfl 29 #[.int .i64 s, .string d, .bool e] _ S3.out.st Try.underlying29 rfl bk_size ?_
  simp only [Act.put, List.setIfInBounds_toArray, List.set_cons_zero, List.set_cons_succ]
  refine rgs_built_want (by rfl) 30 #[] rfl #[.int .i64 0, .string ⟨#[]⟩, .bool false] (by kernel_rfl) ?_
  simp only [Act.put, List.setIfInBounds_toArray, List.set_cons_zero, List.set_cons_succ]
  refine wpList_store_blk rfl 29 (.tmp 4) (.tmp 28) rfl (g + 2) #[.int .i64 s, .string d, .bool e] #[.int .i64 0, .string ⟨#[]⟩, .bool false] 29 rfl rfl S3.out.r4 bk_size rfl (by simp [Value.oneCell']) ?_
  simp only [Act.put, List.setIfInBounds_toArray, List.set_cons_zero, List.set_cons_succ]
  refine wpList_store_blk rfl 30 (.tmp 5) (.tmp 29) rfl (g + 3) #[.int .i64 0, .string ⟨#[]⟩, .bool false] #[.int .i64 0, .string ⟨#[]⟩, .bool false] 30 rfl rfl (S3.out.r5.row_other (by omega) _) bw_size rfl (by simp [Value.oneCell']) ?_
  simp only [Act.put, List.setIfInBounds_toArray, List.set_cons_zero, List.set_cons_succ]
  go_wp2_with fail
  obtain ⟨D1, D2, D3⟩ := S3.out.done (#[.int .i64 s, .string d, .bool e]) (#[.int .i64 0, .string ⟨#[]⟩, .bool false])
  refine bodyPost_ret (results_cell2_tmp2_blk rfl _ _ (g + 2) (g + 3) 29 30 _ _ _ _ rfl rfl D1 D2 Try.underlying29 rfl bk_size Try.underlying30 rfl bw_size _ _ rfl rfl) rfl ⟨rfl, ?_⟩
  rw [← HG.out]
  exact D3

set_option maxRecDepth 100000 in
set_option maxHeartbeats 1600000 in
theorem bk_On_nothing (s : Int) (d : ByteArray) (e : Bool) (F : Fr) (A : Option Addr) (n c : Nat) (hc : Bk.chk ⟨s, d, e⟩ = 0) (hp : partB F.ty = false) (hf : folB s F = true) (w : World) :
    Calls Try.prog 7 #[.agg #[.int .i64 s, .string d, .bool e], .agg (F.cs A n c)] w (GivesOn .u32 ⟨⟨s, d, e⟩, Bk.zero, false, 0⟩ w) := by
  have HC := hide (fun w => bk_Check s d e w)
  have HP := hide (fun w => bk_isPart F A n c w)
  have HI := hide (fun w => bk_isStream F.st w)
  have HF := hide (fun w => bk_follows s d e F A n c w)
  rw [hc] at HC
  rw [hp] at HP
  rw [hf] at HF
  clear hc hp hf
  obtain ⟨q0, _, q2, q3, _⟩ := fr_qs F A n c
  have hcz : (F.cs A n c).size = 12 := rfl
  generalize F.cs A n c = cs at *
  obtain ⟨g, hg⟩ : ∃ g, g = w.heap.size := ⟨_, rfl⟩
  have HS0 := hide (OnS.start w 29 34 30 s d e cs)
  rw [← hg] at HS0
  have HG := hide hg
  go_enter Try.func7, Try.ntmps7
  go_upto_region 1 with (fail)
  rw [← hg]
  rw [show g + 1 + 1 + 1 = g + 3 from rfl, show g + 1 + 1 = g + 2 from rfl]
  clear hg
  have S0 := hide HS0.out
  clear HS0
  generalize (((w.alloc (.cells #[.int .i64 s, .string d, .bool e] 29)).alloc (.cells cs 34)).alloc (.cells #[.int .i64 0, .string ⟨#[]⟩, .bool false] 29)).alloc (.cells #[.int .i64 0, .string ⟨#[]⟩, .bool false] 30) = w0 at S0 ⊢
  go_wp2_with (first | (refine wpList_load_blk rfl 29 (.tmp 2) rfl g rfl 29 #[.int .i64 s, .string d, .bool e] _ S0.out.st Try.underlying29 rfl bk_size ?_))
  refine (HC.out _).mono ?_
  rintro r w1 ⟨rfl, hb⟩
  have S1 := hide (S0.out.keep hb HG.out.symm)
  clear hb S0
  go_wp2_with (first | (refine rgs_load_want (by rfl) 34 (.tmp 3) rfl (g + 1) rfl 34 cs _ S1.out.fr Try.underlying34 rfl (by rw [hcz]; exact bf_size) ?_))
  refine (HP.out _).mono ?_
  rintro r w2 ⟨rfl, hb⟩
  have S2 := hide (S1.out.keep hb HG.out.symm)
  clear hb S1
  go_wp2_with (first | (refine wpList_load_blk rfl 29 (.tmp 2) rfl g rfl 29 #[.int .i64 s, .string d, .bool e] _ S2.out.st Try.underlying29 rfl bk_size ?_) | (refine wpList_load_blk rfl 34 (.tmp 3) rfl (g + 1) rfl 34 cs _ S2.out.fr Try.underlying34 rfl (by rw [hcz]; exact bf_size) ?_))
  refine (HF.out _).mono ?_
  rintro r w3 ⟨rfl, hb⟩
  have S3 := hide (S2.out.keep hb HG.out.symm)
  clear hb S2
  go_wp2_with (first | (refine wpList_load_blk rfl 34 (.tmp 3) rfl (g + 1) rfl 34 cs _ S3.out.fr Try.underlying34 rfl (by rw [hcz]; exact bf_size) ?_))
  refine (HP.out _).mono ?_
  rintro r w4 ⟨rfl, hb⟩
  have S4 := hide (S3.out.keep hb HG.out.symm)
  clear hb S3
  go_upto_region 6 with (fail)
  refine wp_region_lit ?_
  refine wpList_load_blk rfl 29 (.tmp 2) rfl g rfl 29 #[.int .i64 s, .string d, .bool e] _ S4.out.st Try.underlying29 rfl bk_size ?_
  simp only [Act.put, List.setIfInBounds_toArray, List.set_cons_zero, List.set_cons_succ]
  refine rgs_built_want (by rfl) 30 #[] rfl #[.int .i64 0, .string ⟨#[]⟩, .bool false] (by kernel_rfl) ?_
  simp only [Act.put, List.setIfInBounds_toArray, List.set_cons_zero, List.set_cons_succ]
  refine wpList_store_blk rfl 29 (.tmp 4) (.tmp 33) rfl (g + 2) #[.int .i64 s, .string d, .bool e] #[.int .i64 0, .string ⟨#[]⟩, .bool false] 29 rfl rfl S4.out.r4 bk_size rfl (by simp [Value.oneCell']) ?_
  simp only [Act.put, List.setIfInBounds_toArray, List.set_cons_zero, List.set_cons_succ]
  refine wpList_store_blk rfl 30 (.tmp 5) (.tmp 34) rfl (g + 3) #[.int .i64 0, .string ⟨#[]⟩, .bool false] #[.int .i64 0, .string ⟨#[]⟩, .bool false] 30 rfl rfl (S4.out.r5.row_other (by omega) _) bw_size rfl (by simp [Value.oneCell']) ?_
  simp only [Act.put, List.setIfInBounds_toArray, List.set_cons_zero, List.set_cons_succ]
  go_wp2_with fail
  obtain ⟨D1, D2, D3⟩ := S4.out.done (#[.int .i64 s, .string d, .bool e]) (#[.int .i64 0, .string ⟨#[]⟩, .bool false])
  refine bodyPost_ret (results_cell2_tmp2_blk rfl _ _ (g + 2) (g + 3) 29 30 _ _ _ _ rfl rfl D1 D2 Try.underlying29 rfl bk_size Try.underlying30 rfl bw_size _ _ rfl rfl) rfl ⟨rfl, ?_⟩
  rw [← HG.out]
  exact D3

set_option maxRecDepth 100000 in
set_option maxHeartbeats 1600000 in
theorem bk_On_long (s : Int) (d : ByteArray) (e : Bool) (F : Fr) (A : Option Addr) (n c : Nat) (hc : Bk.chk ⟨s, d, e⟩ = 0) (hp : partB F.ty = true) (hs : strB F.st = true) (hf : folB s F = true) (hdz : (d.size : Int) ≤ 5000) (hfz : (F.data.size : Int) ≤ 5000) (hl : 4096 < d.size + F.data.size) (w : World) :
    Calls Try.prog 7 #[.agg #[.int .i64 s, .string d, .bool e], .agg (F.cs A n c)] w (GivesOn .u32 ⟨⟨s, d, e⟩, Bk.zero, false, 11⟩ w) := by
  have HC := hide (fun w => bk_Check s d e w)
  have HP := hide (fun w => bk_isPart F A n c w)
  have HI := hide (fun w => bk_isStream F.st w)
  have HF := hide (fun w => bk_follows s d e F A n c w)
  rw [hc] at HC
  rw [hp] at HP
  rw [hf] at HF
  rw [hs] at HI
  clear hc hp hf hs
  have hl2 : (4096 : Int) < (d.size : Int) + (F.data.size : Int) := by omega
  clear hl
  have HZ := hide hl2
  obtain ⟨q0, _, q2, q3, _⟩ := fr_qs F A n c
  have hcz : (F.cs A n c).size = 12 := rfl
  generalize F.data = fd at *
  generalize F.cs A n c = cs at *
  obtain ⟨g, hg⟩ : ∃ g, g = w.heap.size := ⟨_, rfl⟩
  have HS0 := hide (OnS.start w 29 34 30 s d e cs)
  rw [← hg] at HS0
  have HG := hide hg
  go_enter Try.func7, Try.ntmps7
  go_upto_region 1 with (fail)
  rw [← hg]
  rw [show g + 1 + 1 + 1 = g + 3 from rfl, show g + 1 + 1 = g + 2 from rfl]
  clear hg
  have S0 := hide HS0.out
  clear HS0
  generalize (((w.alloc (.cells #[.int .i64 s, .string d, .bool e] 29)).alloc (.cells cs 34)).alloc (.cells #[.int .i64 0, .string ⟨#[]⟩, .bool false] 29)).alloc (.cells #[.int .i64 0, .string ⟨#[]⟩, .bool false] 30) = w0 at S0 ⊢
  go_wp2_with (first | (refine wpList_load_blk rfl 29 (.tmp 2) rfl g rfl 29 #[.int .i64 s, .string d, .bool e] _ S0.out.st Try.underlying29 rfl bk_size ?_))
  refine (HC.out _).mono ?_
  rintro r w1 ⟨rfl, hb⟩
  have S1 := hide (S0.out.keep hb HG.out.symm)
  clear hb S0
  go_wp2_with (first | (refine rgs_load_want (by rfl) 34 (.tmp 3) rfl (g + 1) rfl 34 cs _ S1.out.fr Try.underlying34 rfl (by rw [hcz]; exact bf_size) ?_))
  refine (HP.out _).mono ?_
  rintro r w2 ⟨rfl, hb⟩
  have S2 := hide (S1.out.keep hb HG.out.symm)
  clear hb S1
  have d2 := (S2.out.fr.cell 2).trans q2
  go_wp2_with fail
  refine (HI.out _).mono ?_
  rintro r w3 ⟨rfl, rfl⟩
  clear d2
  go_wp2_with (first | (refine wpList_load_blk rfl 29 (.tmp 2) rfl g rfl 29 #[.int .i64 s, .string d, .bool e] _ S2.out.st Try.underlying29 rfl bk_size ?_) | (refine wpList_load_blk rfl 34 (.tmp 3) rfl (g + 1) rfl 34 cs _ S2.out.fr Try.underlying34 rfl (by rw [hcz]; exact bf_size) ?_))
  refine (HF.out _).mono ?_
  rintro r w3 ⟨rfl, hb⟩
  have S3 := hide (S2.out.keep hb HG.out.symm)
  clear hb S2
  go_wp2_with (first | (refine wpList_load_blk rfl 34 (.tmp 3) rfl (g + 1) rfl 34 cs _ S3.out.fr Try.underlying34 rfl (by rw [hcz]; exact bf_size) ?_))
  refine (HP.out _).mono ?_
  rintro r w4 ⟨rfl, hb⟩
  have S4 := hide (S3.out.keep hb HG.out.symm)
  clear hb S3
  have c1 := S4.out.st.cell 1
  simp only [List.getElem?_toArray, List.getElem?_cons_zero, List.getElem?_cons_succ] at c1
  have d3 := (S4.out.fr.cell 3).trans q3
  go_upto_region 8 with (fail)
  refine wp_region_lit ?_
  refine wpList_load_blk rfl 29 (.tmp 2) rfl g rfl 29 #[.int .i64 s, .string d, .bool e] _ S4.out.st Try.underlying29 rfl bk_size ?_
  simp only [Act.put, List.setIfInBounds_toArray, List.set_cons_zero, List.set_cons_succ]
  refine rgs_built_want (by rfl) 30 #[] rfl #[.int .i64 0, .string ⟨#[]⟩, .bool false] (by kernel_rfl) ?_
  simp only [Act.put, List.setIfInBounds_toArray, List.set_cons_zero, List.set_cons_succ]
  refine wpList_store_blk rfl 29 (.tmp 4) (.tmp 43) rfl (g + 2) #[.int .i64 s, .string d, .bool e] #[.int .i64 0, .string ⟨#[]⟩, .bool false] 29 rfl rfl S4.out.r4 bk_size rfl (by simp [Value.oneCell']) ?_
  simp only [Act.put, List.setIfInBounds_toArray, List.set_cons_zero, List.set_cons_succ]
  refine wpList_store_blk rfl 30 (.tmp 5) (.tmp 44) rfl (g + 3) #[.int .i64 0, .string ⟨#[]⟩, .bool false] #[.int .i64 0, .string ⟨#[]⟩, .bool false] 30 rfl rfl (S4.out.r5.row_other (by omega) _) bw_size rfl (by simp [Value.oneCell']) ?_
  simp only [Act.put, List.setIfInBounds_toArray, List.set_cons_zero, List.set_cons_succ]
  go_wp2_with fail
  obtain ⟨D1, D2, D3⟩ := S4.out.done (#[.int .i64 s, .string d, .bool e]) (#[.int .i64 0, .string ⟨#[]⟩, .bool false])
  refine bodyPost_ret (results_cell2_tmp2_blk rfl _ _ (g + 2) (g + 3) 29 30 _ _ _ _ rfl rfl D1 D2 Try.underlying29 rfl bk_size Try.underlying30 rfl bw_size _ _ rfl rfl) rfl ⟨rfl, ?_⟩
  rw [← HG.out]
  exact D3

set_option maxRecDepth 100000 in
set_option maxHeartbeats 1600000 in
theorem bk_On_more (s : Int) (d : ByteArray) (e : Bool) (F : Fr) (A : Option Addr) (n c : Nat) (hc : Bk.chk ⟨s, d, e⟩ = 0) (hp : partB F.ty = true) (hs : strB F.st = true) (hf : folB s F = true) (hdz : (d.size : Int) ≤ 5000) (hfz : (F.data.size : Int) ≤ 5000) (hk : s = 0 ∧ d = ⟨#[]⟩ ∧ F.ty = 1 ∨ ¬ s = 0 ∧ F.ty = 9 ∧ F.st = s) (f0 : 0 ≤ F.fl) (f1 : F.fl ≤ 255) (hl : ¬ 4096 < d.size + F.data.size) (h4 : hasB F.fl 4 = false) (w : World) :
    Calls Try.prog 7 #[.agg #[.int .i64 s, .string d, .bool e], .agg (F.cs A n c)] w (GivesOn .u32 ⟨Bk.grow ⟨s, d, e⟩ F, Bk.zero, false, 0⟩ w) := by
  have HC := hide (fun w => bk_Check s d e w)
  have HP := hide (fun w => bk_isPart F A n c w)
  have HI := hide (fun w => bk_isStream F.st w)
  have HF := hide (fun w => bk_follows s d e F A n c w)
  rw [hc] at HC
  rw [hp] at HP
  rw [hf] at HF
  rw [hs] at HI
  clear hc hp hf hs
  have hl2 : ¬ (4096 : Int) < (d.size : Int) + (F.data.size : Int) := by omega
  clear hl
  have HGR := hide (fun w => bk_grown s d e F A n c hk f0 f1 hdz hfz w)
  have HH := hide (fun w => bk_has F A n c 4 w)
  rw [has_four f0 f1, h4] at HH
  clear hk f0 f1 h4
  generalize Bk.grow ⟨s, d, e⟩ F = R at *
  obtain ⟨rs, rd, re⟩ := R
  have HGR := hide (show ∀ w, Calls Try.prog 20 #[.agg #[.int .i64 s, .string d, .bool e], .agg (F.cs A n c)] w fun r w' => r = .returned (.agg #[.int .i64 rs, .string rd, .bool re]) ∧ Below w.heap.size w w' from HGR.out)
  obtain ⟨q0, _, q2, q3, _⟩ := fr_qs F A n c
  have hcz : (F.cs A n c).size = 12 := rfl
  generalize F.data = fd at *
  generalize F.cs A n c = cs at *
  obtain ⟨g, hg⟩ : ∃ g, g = w.heap.size := ⟨_, rfl⟩
  have HS0 := hide (OnS.start w 29 34 30 s d e cs)
  rw [← hg] at HS0
  have HG := hide hg
  go_enter Try.func7, Try.ntmps7
  go_upto_region 1 with (fail)
  rw [← hg]
  rw [show g + 1 + 1 + 1 = g + 3 from rfl, show g + 1 + 1 = g + 2 from rfl]
  clear hg
  have S0 := hide HS0.out
  clear HS0
  generalize (((w.alloc (.cells #[.int .i64 s, .string d, .bool e] 29)).alloc (.cells cs 34)).alloc (.cells #[.int .i64 0, .string ⟨#[]⟩, .bool false] 29)).alloc (.cells #[.int .i64 0, .string ⟨#[]⟩, .bool false] 30) = w0 at S0 ⊢
  go_wp2_with (first | (refine wpList_load_blk rfl 29 (.tmp 2) rfl g rfl 29 #[.int .i64 s, .string d, .bool e] _ S0.out.st Try.underlying29 rfl bk_size ?_))
  refine (HC.out _).mono ?_
  rintro r w1 ⟨rfl, hb⟩
  have S1 := hide (S0.out.keep hb HG.out.symm)
  clear hb S0
  go_wp2_with (first | (refine rgs_load_want (by rfl) 34 (.tmp 3) rfl (g + 1) rfl 34 cs _ S1.out.fr Try.underlying34 rfl (by rw [hcz]; exact bf_size) ?_))
  refine (HP.out _).mono ?_
  rintro r w2 ⟨rfl, hb⟩
  have S2 := hide (S1.out.keep hb HG.out.symm)
  clear hb S1
  have d2 := (S2.out.fr.cell 2).trans q2
  go_wp2_with fail
  refine (HI.out _).mono ?_
  rintro r w3 ⟨rfl, rfl⟩
  clear d2
  go_wp2_with (first | (refine wpList_load_blk rfl 29 (.tmp 2) rfl g rfl 29 #[.int .i64 s, .string d, .bool e] _ S2.out.st Try.underlying29 rfl bk_size ?_) | (refine wpList_load_blk rfl 34 (.tmp 3) rfl (g + 1) rfl 34 cs _ S2.out.fr Try.underlying34 rfl (by rw [hcz]; exact bf_size) ?_))
  refine (HF.out _).mono ?_
  rintro r w3 ⟨rfl, hb⟩
  have S3 := hide (S2.out.keep hb HG.out.symm)
  clear hb S2
  go_wp2_with (first | (refine wpList_load_blk rfl 34 (.tmp 3) rfl (g + 1) rfl 34 cs _ S3.out.fr Try.underlying34 rfl (by rw [hcz]; exact bf_size) ?_))
  refine (HP.out _).mono ?_
  rintro r w4 ⟨rfl, hb⟩
  have S4 := hide (S3.out.keep hb HG.out.symm)
  clear hb S3
  have c1 := S4.out.st.cell 1
  simp only [List.getElem?_toArray, List.getElem?_cons_zero, List.getElem?_cons_succ] at c1
  have d3 := (S4.out.fr.cell 3).trans q3
  go_wp2_with (first | (refine wpList_load_blk rfl 29 (.tmp 2) rfl g rfl 29 #[.int .i64 s, .string d, .bool e] _ S4.out.st Try.underlying29 rfl bk_size ?_) | (refine wpList_load_blk rfl 34 (.tmp 3) rfl (g + 1) rfl 34 cs _ S4.out.fr Try.underlying34 rfl (by rw [hcz]; exact bf_size) ?_))
  refine (HGR.out _).mono ?_
  rintro r w5 ⟨rfl, hb⟩
  have S5 := hide (S4.out.keep hb HG.out.symm)
  clear hb S4
  clear c1 d3
  have K6 := hide (BlkIs.new w5 29 #[.int .i64 rs, .string rd, .bool re])
  have S6 := hide (S5.out.alloc HG.out.symm (.cells #[.int .i64 rs, .string rd, .bool re] 29))
  go_wp2_with (first | (refine wpList_store_new rfl 29 (.tmp 8) (.tmp 47) rfl #[.int .i64 rs, .string rd, .bool re] #[.int .i64 0, .string ⟨#[]⟩, .bool false] 29 rfl rfl bk_size rfl (by simp [Value.oneCell']) ?_) | (refine wpList_load_blk rfl 34 (.tmp 3) rfl (g + 1) rfl 34 cs _ S6.out.fr Try.underlying34 rfl (by rw [hcz]; exact bf_size) ?_))
  obtain ⟨v, hv⟩ : ∃ v, v = w5.heap.size := ⟨_, rfl⟩
  rw [← hv] at K6 ⊢
  have HV := hide (show g + 3 < v by have := S5.out.r5.lt; omega)
  clear hv S5
  generalize w5.alloc (.cells #[.int .i64 rs, .string rd, .bool re] 29) = w6 at K6 S6 ⊢
  refine (HH.out _).mono ?_
  rintro r w7 ⟨rfl, hb⟩
  have K7 := hide (K6.out.keep hb)
  have S7 := hide (S6.out.keep hb HG.out.symm)
  clear hb K6 S6
  have hgl := S7.out.le
  go_upto_region 12 with (fail)
  refine wp_region_lit ?_
  refine wpList_load_blk rfl 29 (.tmp 8) rfl v rfl 29 #[.int .i64 rs, .string rd, .bool re] _ K7.out Try.underlying29 rfl bk_size ?_
  simp only [Act.put, List.setIfInBounds_toArray, List.set_cons_zero, List.set_cons_succ]
  refine rgs_built_want (by rfl) 30 #[] rfl #[.int .i64 0, .string ⟨#[]⟩, .bool false] (by kernel_rfl) ?_
  simp only [Act.put, List.setIfInBounds_toArray, List.set_cons_zero, List.set_cons_succ]
  refine wpList_store_blk rfl 29 (.tmp 4) (.tmp 52) rfl (g + 2) #[.int .i64 rs, .string rd, .bool re] #[.int .i64 0, .string ⟨#[]⟩, .bool false] 29 rfl rfl S7.out.r4 bk_size rfl (by simp [Value.oneCell']) ?_
  simp only [Act.put, List.setIfInBounds_toArray, List.set_cons_zero, List.set_cons_succ]
  refine wpList_store_blk rfl 30 (.tmp 5) (.tmp 53) rfl (g + 3) #[.int .i64 0, .string ⟨#[]⟩, .bool false] #[.int .i64 0, .string ⟨#[]⟩, .bool false] 30 rfl rfl (S7.out.r5.row_other (by omega) _) bw_size rfl (by simp [Value.oneCell']) ?_
  simp only [Act.put, List.setIfInBounds_toArray, List.set_cons_zero, List.set_cons_succ]
  go_wp2_with fail
  obtain ⟨D1, D2, D3⟩ := S7.out.done (#[.int .i64 rs, .string rd, .bool re]) (#[.int .i64 0, .string ⟨#[]⟩, .bool false])
  refine bodyPost_ret (results_cell2_tmp2_blk rfl _ _ (g + 2) (g + 3) 29 30 _ _ _ _ rfl rfl D1 D2 Try.underlying29 rfl bk_size Try.underlying30 rfl bw_size _ _ rfl rfl) rfl ⟨rfl, ?_⟩
  rw [← HG.out]
  exact D3

set_option maxRecDepth 100000 in
set_option maxHeartbeats 1600000 in
theorem bk_On_whole (s : Int) (d : ByteArray) (e : Bool) (F : Fr) (A : Option Addr) (n c : Nat) (hc : Bk.chk ⟨s, d, e⟩ = 0) (hp : partB F.ty = true) (hs : strB F.st = true) (hf : folB s F = true) (hdz : (d.size : Int) ≤ 5000) (hfz : (F.data.size : Int) ≤ 5000) (hk : s = 0 ∧ d = ⟨#[]⟩ ∧ F.ty = 1 ∨ ¬ s = 0 ∧ F.ty = 9 ∧ F.st = s) (f0 : 0 ≤ F.fl) (f1 : F.fl ≤ 255) (hl : ¬ 4096 < d.size + F.data.size) (h4 : hasB F.fl 4 = true) (w : World) :
    Calls Try.prog 7 #[.agg #[.int .i64 s, .string d, .bool e], .agg (F.cs A n c)] w (GivesOn .u32 ⟨Bk.zero, Bk.grow ⟨s, d, e⟩ F, true, 0⟩ w) := by
  have HC := hide (fun w => bk_Check s d e w)
  have HP := hide (fun w => bk_isPart F A n c w)
  have HI := hide (fun w => bk_isStream F.st w)
  have HF := hide (fun w => bk_follows s d e F A n c w)
  rw [hc] at HC
  rw [hp] at HP
  rw [hf] at HF
  rw [hs] at HI
  clear hc hp hf hs
  have hl2 : ¬ (4096 : Int) < (d.size : Int) + (F.data.size : Int) := by omega
  clear hl
  have HGR := hide (fun w => bk_grown s d e F A n c hk f0 f1 hdz hfz w)
  have HH := hide (fun w => bk_has F A n c 4 w)
  rw [has_four f0 f1, h4] at HH
  clear hk f0 f1 h4
  generalize Bk.grow ⟨s, d, e⟩ F = R at *
  obtain ⟨rs, rd, re⟩ := R
  have HGR := hide (show ∀ w, Calls Try.prog 20 #[.agg #[.int .i64 s, .string d, .bool e], .agg (F.cs A n c)] w fun r w' => r = .returned (.agg #[.int .i64 rs, .string rd, .bool re]) ∧ Below w.heap.size w w' from HGR.out)
  obtain ⟨q0, _, q2, q3, _⟩ := fr_qs F A n c
  have hcz : (F.cs A n c).size = 12 := rfl
  generalize F.data = fd at *
  generalize F.cs A n c = cs at *
  obtain ⟨g, hg⟩ : ∃ g, g = w.heap.size := ⟨_, rfl⟩
  have HS0 := hide (OnS.start w 29 34 30 s d e cs)
  rw [← hg] at HS0
  have HG := hide hg
  go_enter Try.func7, Try.ntmps7
  go_upto_region 1 with (fail)
  rw [← hg]
  rw [show g + 1 + 1 + 1 = g + 3 from rfl, show g + 1 + 1 = g + 2 from rfl]
  clear hg
  have S0 := hide HS0.out
  clear HS0
  generalize (((w.alloc (.cells #[.int .i64 s, .string d, .bool e] 29)).alloc (.cells cs 34)).alloc (.cells #[.int .i64 0, .string ⟨#[]⟩, .bool false] 29)).alloc (.cells #[.int .i64 0, .string ⟨#[]⟩, .bool false] 30) = w0 at S0 ⊢
  go_wp2_with (first | (refine wpList_load_blk rfl 29 (.tmp 2) rfl g rfl 29 #[.int .i64 s, .string d, .bool e] _ S0.out.st Try.underlying29 rfl bk_size ?_))
  refine (HC.out _).mono ?_
  rintro r w1 ⟨rfl, hb⟩
  have S1 := hide (S0.out.keep hb HG.out.symm)
  clear hb S0
  go_wp2_with (first | (refine rgs_load_want (by rfl) 34 (.tmp 3) rfl (g + 1) rfl 34 cs _ S1.out.fr Try.underlying34 rfl (by rw [hcz]; exact bf_size) ?_))
  refine (HP.out _).mono ?_
  rintro r w2 ⟨rfl, hb⟩
  have S2 := hide (S1.out.keep hb HG.out.symm)
  clear hb S1
  have d2 := (S2.out.fr.cell 2).trans q2
  go_wp2_with fail
  refine (HI.out _).mono ?_
  rintro r w3 ⟨rfl, rfl⟩
  clear d2
  go_wp2_with (first | (refine wpList_load_blk rfl 29 (.tmp 2) rfl g rfl 29 #[.int .i64 s, .string d, .bool e] _ S2.out.st Try.underlying29 rfl bk_size ?_) | (refine wpList_load_blk rfl 34 (.tmp 3) rfl (g + 1) rfl 34 cs _ S2.out.fr Try.underlying34 rfl (by rw [hcz]; exact bf_size) ?_))
  refine (HF.out _).mono ?_
  rintro r w3 ⟨rfl, hb⟩
  have S3 := hide (S2.out.keep hb HG.out.symm)
  clear hb S2
  go_wp2_with (first | (refine wpList_load_blk rfl 34 (.tmp 3) rfl (g + 1) rfl 34 cs _ S3.out.fr Try.underlying34 rfl (by rw [hcz]; exact bf_size) ?_))
  refine (HP.out _).mono ?_
  rintro r w4 ⟨rfl, hb⟩
  have S4 := hide (S3.out.keep hb HG.out.symm)
  clear hb S3
  have c1 := S4.out.st.cell 1
  simp only [List.getElem?_toArray, List.getElem?_cons_zero, List.getElem?_cons_succ] at c1
  have d3 := (S4.out.fr.cell 3).trans q3
  go_wp2_with (first | (refine wpList_load_blk rfl 29 (.tmp 2) rfl g rfl 29 #[.int .i64 s, .string d, .bool e] _ S4.out.st Try.underlying29 rfl bk_size ?_) | (refine wpList_load_blk rfl 34 (.tmp 3) rfl (g + 1) rfl 34 cs _ S4.out.fr Try.underlying34 rfl (by rw [hcz]; exact bf_size) ?_))
  refine (HGR.out _).mono ?_
  rintro r w5 ⟨rfl, hb⟩
  have S5 := hide (S4.out.keep hb HG.out.symm)
  clear hb S4
  clear c1 d3
  have K6 := hide (BlkIs.new w5 29 #[.int .i64 rs, .string rd, .bool re])
  have S6 := hide (S5.out.alloc HG.out.symm (.cells #[.int .i64 rs, .string rd, .bool re] 29))
  go_wp2_with (first | (refine wpList_store_new rfl 29 (.tmp 8) (.tmp 47) rfl #[.int .i64 rs, .string rd, .bool re] #[.int .i64 0, .string ⟨#[]⟩, .bool false] 29 rfl rfl bk_size rfl (by simp [Value.oneCell']) ?_) | (refine wpList_load_blk rfl 34 (.tmp 3) rfl (g + 1) rfl 34 cs _ S6.out.fr Try.underlying34 rfl (by rw [hcz]; exact bf_size) ?_))
  obtain ⟨v, hv⟩ : ∃ v, v = w5.heap.size := ⟨_, rfl⟩
  rw [← hv] at K6 ⊢
  have HV := hide (show g + 3 < v by have := S5.out.r5.lt; omega)
  clear hv S5
  generalize w5.alloc (.cells #[.int .i64 rs, .string rd, .bool re] 29) = w6 at K6 S6 ⊢
  refine (HH.out _).mono ?_
  rintro r w7 ⟨rfl, hb⟩
  have K7 := hide (K6.out.keep hb)
  have S7 := hide (S6.out.keep hb HG.out.symm)
  clear hb K6 S6
  obtain ⟨x0, x1, x2⟩ := bk_cells K7.out
  have z0 := S7.out.r5.frozen 0
  have z1 := S7.out.r5.frozen 1
  have z2 := S7.out.r5.frozen 2
  have y0 := S7.out.r4.frozen 0
  have y1 := S7.out.r4.frozen 1
  have y2 := S7.out.r4.frozen 2
  obtain ⟨a0, a1, a2⟩ := bk_cells S7.out.r4
  obtain ⟨b0, b1, b2⟩ := bk_cells S7.out.r5
  have ne1 : ¬ v = g + 2 := by have := HV.out; omega
  have ne2 : ¬ v = g + 3 := by have := HV.out; omega
  go_upto_region 11 with (fail)
  go_region
  all_goals
    clear x0 x1 x2 z0 z1 z2 y0 y1 y2 a0 a1 a2 b0 b1 b2
    go_wp2_with fail
    obtain ⟨D1, D2, D3⟩ := S7.out.put6 (.int .i64 0) (.string ⟨#[]⟩) (.bool false) (.int .i64 rs) (.string rd) (.bool re)
    refine bodyPost_ret (results_cell2_tmp2_blk rfl _ _ (g + 2) (g + 3) 29 30 _ _ _ _ rfl rfl D1 D2 Try.underlying29 rfl bk_size Try.underlying30 rfl bw_size _ _ rfl rfl) rfl ⟨rfl, ?_⟩
    rw [← HG.out]
    exact D3

theorem bk_chk_zero {s : Int} {d : ByteArray} {e : Bool} (h : Bk.chk ⟨s, d, e⟩ = 0) : (s = 0 → d = ⟨#[]⟩ ∧ e = false) ∧ (d.size : Int) ≤ 5000 := by
  refine chk_cases s d e _ ?_ ?_ ?_ ?_ ?_ ?_
  · intro _ h'; omega
  · intro _ _ h'; omega
  · intro _ _ _ h'; omega
  · rintro rfl rfl rfl _
    exact ⟨fun _ => ⟨rfl, rfl⟩, by simp [show (⟨#[]⟩ : ByteArray).size = 0 from rfl]⟩
  · intro _ _ _ h'; omega
  · intro h0 _ hd _
    exact ⟨fun hs => by omega, by omega⟩
theorem bk_On (s : Int) (d : ByteArray) (e : Bool) (F : Fr) (A : Option Addr) (n c : Nat) (f0 : 0 ≤ F.fl) (f1 : F.fl ≤ 255) (hfz : (F.data.size : Int) ≤ 5000) (w : World) :
    Calls Try.prog 7 #[.agg #[.int .i64 s, .string d, .bool e], .agg (F.cs A n c)] w (GivesOn .u32 (onB ⟨s, d, e⟩ F) w) := by
  cases on_cases s d e F with
  | bad hc r => rw [r]; exact bk_On_bad s d e F A n c hc w
  | far hc hp hs r => rw [r]; exact bk_On_far s d e F A n c hc hp hs w
  | between hc hp hz h9 r =>
    rw [r]
    have hf : folB s F = false := by simp [folB, hz, h9]
    cases hpp : partB F.ty with
    | true => exact bk_On_part s d e F A n c hc hpp (hp hpp) hf w
    | false => exact bk_On_notpart s d e F A n c hc hpp hf w
  | other hc hs hz h9 hne r => rw [r]; exact bk_On_part s d e F A n c hc (partB_yes.2 (.inr h9)) hs (by simp [folB, hz, hne]) w
  | alone hc hs hz h9 r => rw [r]; exact bk_On_part s d e F A n c hc (partB_yes.2 (.inr h9)) hs (by simp [folB, hz, h9]) w
  | nothing hc hz h1 h9 r => rw [r]; exact bk_On_nothing s d e F A n c hc (by simp [partB, h1, h9]) (by simp [folB, hz, h9]) w
  | long hc hs hk hl r =>
    rw [r]
    rcases hk with ⟨hz, h1⟩ | ⟨hz, h9, hst⟩
    · exact bk_On_long s d e F A n c hc (partB_yes.2 (.inl h1)) hs (by simp [folB, hz, h1]) (bk_chk_zero hc).2 hfz hl w
    · exact bk_On_long s d e F A n c hc (partB_yes.2 (.inr h9)) hs (by simp [folB, hz, h9, hst]) (bk_chk_zero hc).2 hfz hl w
  | whole hc hs hk hl h4 r =>
    rw [r]
    rcases hk with ⟨hz, h1⟩ | ⟨hz, h9, hst⟩
    · exact bk_On_whole s d e F A n c hc (partB_yes.2 (.inl h1)) hs (by simp [folB, hz, h1]) (bk_chk_zero hc).2 hfz (.inl ⟨hz, ((bk_chk_zero hc).1 hz).1, h1⟩) f0 f1 hl h4 w
    · exact bk_On_whole s d e F A n c hc (partB_yes.2 (.inr h9)) hs (by simp [folB, hz, h9, hst]) (bk_chk_zero hc).2 hfz (.inr ⟨hz, h9, hst⟩) f0 f1 hl h4 w
  | more hc hs hk hl h4 r =>
    rw [r]
    rcases hk with ⟨hz, h1⟩ | ⟨hz, h9, hst⟩
    · exact bk_On_more s d e F A n c hc (partB_yes.2 (.inl h1)) hs (by simp [folB, hz, h1]) (bk_chk_zero hc).2 hfz (.inl ⟨hz, ((bk_chk_zero hc).1 hz).1, h1⟩) f0 f1 hl h4 w
    · exact bk_On_more s d e F A n c hc (partB_yes.2 (.inr h9)) hs (by simp [folB, hz, h9, hst]) (bk_chk_zero hc).2 hfz (.inr ⟨hz, h9, hst⟩) f0 f1 hl h4 w
end Go.Proofs.Ytighhdgaaelcdaa
