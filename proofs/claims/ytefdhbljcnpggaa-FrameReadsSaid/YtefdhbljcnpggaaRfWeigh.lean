/-
  Layer 9: the document's weigh.
-/
import Derived.Test.YtefdhbljcnpggaaRfNum
namespace Go.Proofs.Ytefdhbljcnpggaa
open Go.RowKit

theorem results_rf1 {fn : Func} {p : Tmp} (tmps : Array Value) (w : World) (h : fn.results = #[.cell p 35]) (g : Nat) (F : Fr) (A : Option Addr) (n c : Nat) (hp : tmps.getD p undef = .pointer (some ⟨g, 0, none⟩)) (hg : BlkIs w g 35 (F.cs A n c)) :
    (results fn tmps).run Try.prog w = .ok (.agg (F.cs A n c)) w := results_cell_blk h tmps w g _ _ _ hp hg Try.underlying35 rfl rfr_sz

set_option maxRecDepth 100000 in
set_option maxHeartbeats 1600000 in
theorem rg_weigh (F : Fr) (A : Option Addr) (n c : Nat) (s : ByteArray) (h5 : 5 ≤ s.size) (w : World) :
    Calls Try.prog 31 #[.agg (F.cs A n c), .string s] w fun e w' => e = .returned (.agg ((fillD true F (bts s)).cs A n c)) ∧ Below w.heap.size w w' := by
  have h0 : 0 < s.size := by omega
  have h4 : 4 < s.size := by omega
  have h4i : (4 : Int) < (s.size : Int) := by omega
  have HN := hide (fun w => rg_stream s (by omega) w)
  obtain ⟨N, hN⟩ : ∃ N, N = numL ((bts s).take 4) := ⟨_, rfl⟩
  have h16 := num4_of s h0 (by omega) (by omega) (by omega)
  rw [← hN] at HN h16
  obtain ⟨M, hM⟩ : ∃ M, M = N % 2147483648 := ⟨_, rfl⟩
  have b0 := byte_bd s[0]
  have b1 := byte_bd (s[1]'(by omega))
  have b2 := byte_bd (s[2]'(by omega))
  have b3 := byte_bd (s[3]'(by omega))
  have hT : decide (2147483648 ≤ N) = decide (128 ≤ (s[0].toNat : Int)) := by apply decide_eq_decide.2; omega
  have HE := hide (show fillD true F (bts s) = ({ F with dep := M, sole := (decide (128 ≤ (s[0].toNat : Int))), wt := (s[4].toNat : Int) } : Fr) by rw [fillD, if_pos rfl, ← hN, ← hM, hT, bts_get s 4 h4])
  rw [← hM] at HN
  clear hM hT hN h16 b1 b2 b3 h5
  rw [HE.out]
  clear HE
  go_enter Try.func31, Try.ntmps31
  go_upto_region 1 with (fail)
  have K1 := hide (show BlkIs ((w.alloc (.cells (F.cs A n c) 35)).alloc (.cells #[.int .u8 0, .int .u8 0, .int .i64 0, .string ⟨#[]⟩, .int .i64 0, .int .i64 0, .bool false, .int .u8 0, .int .u32 0, .int .i64 0, .int .i64 0, .slice none 0 0] 35)) w.heap.size 35 (F.cs A n c) from (BlkIs.new w _ _).alloc _)
  have K2 := hide (show BlkIs ((w.alloc (.cells (F.cs A n c) 35)).alloc (.cells #[.int .u8 0, .int .u8 0, .int .i64 0, .string ⟨#[]⟩, .int .i64 0, .int .i64 0, .bool false, .int .u8 0, .int .u32 0, .int .i64 0, .int .i64 0, .slice none 0 0] 35)) (w.heap.size + 1) 35 (Fr.zero.cs none 0 0) from blk_two)
  have K3 := hide (show Below w.heap.size w ((w.alloc (.cells (F.cs A n c) 35)).alloc (.cells #[.int .u8 0, .int .u8 0, .int .i64 0, .string ⟨#[]⟩, .int .i64 0, .int .i64 0, .bool false, .int .u8 0, .int .u32 0, .int .i64 0, .int .i64 0, .slice none 0 0] 35)) from below_two)
  generalize (w.alloc (.cells (F.cs A n c) 35)).alloc (.cells #[.int .u8 0, .int .u8 0, .int .i64 0, .string ⟨#[]⟩, .int .i64 0, .int .i64 0, .bool false, .int .u8 0, .int .u32 0, .int .i64 0, .int .i64 0, .slice none 0 0] 35) = w0 at K1 K2 K3 ⊢
  obtain ⟨g, hg⟩ : ∃ g, g = w.heap.size := ⟨_, rfl⟩
  rw [← hg] at K1 K2 ⊢
  have HG := hide hg
  clear hg
  refine wp_region_noPanic ?_
  refine wp_region_held_drew (S := fun _ => True) (by kernel_rfl) trivial (fun hS => ?_)
  refine wpAnyH_take (i := 0) (v := ?_) (by simp only [List.getElem?_toArray, List.getElem?_cons_zero] <;> exact rfl) (by kernel_rfl) (by kernel_rfl) (by kernel_rfl) (fun _ _ _ h => h) (Or.inl ⟨by rfl, ?_⟩) hS ?_
  rotate_left
  focus (intro w' hw'; go_simp; all_goals with_reducible rfl)
  try simp only [Act.put, List.setIfInBounds_toArray, List.set_cons_zero, List.set_cons_succ]
  refine wpAnyH_take (i := 2) (v := ?_) (by simp only [List.getElem?_toArray, List.getElem?_cons_succ, List.getElem?_cons_zero] <;> exact rfl) (by kernel_rfl) (by kernel_rfl) (by kernel_rfl) (fun _ _ _ h => h) (Or.inl ⟨by rfl, ?_⟩) hS ?_
  rotate_left
  focus (intro w' hw'; go_simp; all_goals with_reducible rfl)
  try simp only [Act.put, List.setIfInBounds_toArray, List.set_cons_zero, List.set_cons_succ]
  refine wpAnyH_take (i := 3) (v := ?_) (by simp only [List.getElem?_toArray, List.getElem?_cons_succ, List.getElem?_cons_zero] <;> exact rfl) (by kernel_rfl) (by kernel_rfl) (by kernel_rfl) (fun _ _ _ h => h) (Or.inl ⟨by rfl, ?_⟩) hS ?_
  rotate_left
  focus (intro w' hw'; go_simp; all_goals with_reducible rfl)
  try simp only [Act.put, List.setIfInBounds_toArray, List.set_cons_zero, List.set_cons_succ]
  refine wpAnyH_take (i := 4) (v := ?_) (by simp only [List.getElem?_toArray, List.getElem?_cons_succ, List.getElem?_cons_zero] <;> exact rfl) (by kernel_rfl) (by kernel_rfl) (by kernel_rfl) (fun _ _ _ h => h) (Or.inl ⟨by rfl, ?_⟩) hS ?_
  rotate_left
  focus (intro w' hw'; go_simp; all_goals with_reducible rfl)
  try simp only [Act.put, List.setIfInBounds_toArray, List.set_cons_zero, List.set_cons_succ]
  refine wpAnyH_take (i := 5) (v := ?_) (by simp only [List.getElem?_toArray, List.getElem?_cons_succ, List.getElem?_cons_zero] <;> exact rfl) (by kernel_rfl) (by kernel_rfl) (by kernel_rfl) (fun _ _ _ h => h) (Or.inl ⟨by rfl, ?_⟩) hS ?_
  rotate_left
  focus (intro w' hw'; go_simp; all_goals with_reducible rfl)
  try simp only [Act.put, List.setIfInBounds_toArray, List.set_cons_zero, List.set_cons_succ]
  refine wpAnyH_take (i := 6) (v := ?_) (by simp only [List.getElem?_toArray, List.getElem?_cons_succ, List.getElem?_cons_zero] <;> exact rfl) (by kernel_rfl) (by kernel_rfl) (by kernel_rfl) (fun _ _ _ h => h) (Or.inl ⟨by rfl, ?_⟩) hS ?_
  rotate_left
  focus (intro w' hw'; go_simp; all_goals with_reducible rfl)
  try simp only [Act.put, List.setIfInBounds_toArray, List.set_cons_zero, List.set_cons_succ]
  refine wpAnyH_ready (rs := [1]) (by kernel_rfl) (by simp) ?_
  refine AllReadyH.cons (o := _) (by simp only [List.getElem?_toArray, List.getElem?_cons_succ, List.getElem?_cons_zero] <;> exact rfl) (fun K hK => ?_) ?_
  focus (
    go_simp
    go_at_call 33
    refine (HN.out _).mono ?_
    rintro e wc1 ⟨rfl, hb⟩
    have J1 := hide (K1.out.drew.keep hb)
    have J2 := hide (K2.out.drew.keep hb)
    have J3 := hide (K3.out.drew.trans (hb.mono K3.out.size))
    clear hb
    go_wp2_with fail
    refine hK.out _ _ trivial (fun _ => ?_)
    clear hK K
    try simp only [Act.put, List.setIfInBounds_toArray, List.set_cons_zero, List.set_cons_succ])
  rotate_left
  focus (exact AllReadyH.nil)
  refine wpAnyH_take (i := 7) (v := ?_) (by simp only [List.getElem?_toArray, List.getElem?_cons_succ, List.getElem?_cons_zero] <;> exact rfl) (by kernel_rfl) (by kernel_rfl) (by kernel_rfl) (fun _ _ _ h => h) (Or.inl ⟨by rfl, ?_⟩) hS ?_
  rotate_left
  focus (intro w' hw'; go_simp; all_goals with_reducible rfl)
  try simp only [Act.put, List.setIfInBounds_toArray, List.set_cons_zero, List.set_cons_succ]
  refine wpAnyH_ready (rs := [8]) (by kernel_rfl) (by simp) ?_
  refine AllReadyH.cons (o := _) (by simp only [List.getElem?_toArray, List.getElem?_cons_succ, List.getElem?_cons_zero] <;> exact rfl) (fun K hK => ?_) ?_
  focus (
    have d9 := (J1.out.cell 5).trans (show (F.cs A n c)[5]? = some (.int .i64 F.dep) from rfl)
    have z9 := J1.out.frozen 5
    go_simp
    refine hK.out _ _ trivial (fun _ => ?_)
    clear d9 z9
    have P1 := hide (show BlkIs _ g 35 (({ F with dep := M } : Fr).cs A n c) from J1.out.put 5 (.int .i64 M))
    clear hK K
    try simp only [Act.put])
  rotate_left
  focus (exact AllReadyH.nil)
  refine wpAnyH_take (i := 9) (v := ?_) (by simp only [List.getElem?_toArray, List.getElem?_cons_succ, List.getElem?_cons_zero] <;> exact rfl) (by kernel_rfl) (by kernel_rfl) (by kernel_rfl) (fun _ _ _ h => h) (Or.inl ⟨by rfl, ?_⟩) hS ?_
  rotate_left
  focus (intro w' hw'; go_simp; all_goals with_reducible rfl)
  try simp only [Act.put, List.setIfInBounds_toArray, List.set_cons_zero, List.set_cons_succ]
  refine wpAnyH_ready (rs := [10]) (by kernel_rfl) (by simp) ?_
  refine AllReadyH.cons (o := _) (by simp only [List.getElem?_toArray, List.getElem?_cons_succ, List.getElem?_cons_zero] <;> exact rfl) (fun K hK => ?_) ?_
  focus (
    have d9 := (J1.out.cell 6).trans (show (F.cs A n c)[6]? = some (.bool F.sole) from rfl)
    have z9 := J1.out.frozen 6
    go_simp
    refine hK.out _ _ trivial (fun _ => ?_)
    clear d9 z9
    have P2 := hide (show BlkIs _ g 35 (({ F with dep := M, sole := (decide (128 ≤ (s[0].toNat : Int))) } : Fr).cs A n c) from P1.out.put 6 (.bool (decide (128 ≤ (s[0].toNat : Int)))))
    clear hK K
    try simp only [Act.put])
  rotate_left
  focus (exact AllReadyH.nil)
  refine wpAnyH_take (i := 11) (v := ?_) (by simp only [List.getElem?_toArray, List.getElem?_cons_succ, List.getElem?_cons_zero] <;> exact rfl) (by kernel_rfl) (by kernel_rfl) (by kernel_rfl) (fun _ _ _ h => h) (Or.inl ⟨by rfl, ?_⟩) hS ?_
  rotate_left
  focus (intro w' hw'; go_simp; all_goals with_reducible rfl)
  try simp only [Act.put, List.setIfInBounds_toArray, List.set_cons_zero, List.set_cons_succ]
  refine wpAnyH_ready (rs := [12]) (by kernel_rfl) (by simp) ?_
  refine AllReadyH.cons (o := _) (by simp only [List.getElem?_toArray, List.getElem?_cons_succ, List.getElem?_cons_zero] <;> exact rfl) (fun K hK => ?_) ?_
  focus (
    have d9 := (J1.out.cell 7).trans (show (F.cs A n c)[7]? = some (.int .u8 F.wt) from rfl)
    have z9 := J1.out.frozen 7
    go_simp
    refine hK.out _ _ trivial (fun _ => ?_)
    clear d9 z9
    have P3 := hide (show BlkIs _ g 35 (({ F with dep := M, sole := (decide (128 ≤ (s[0].toNat : Int))), wt := (s[4].toNat : Int) } : Fr).cs A n c) from P2.out.put 7 (.int .u8 (s[4].toNat : Int)))
    clear hK K
    try simp only [Act.put])
  rotate_left
  focus (exact AllReadyH.nil)
  refine wpAnyH_done (by kernel_rfl) ?_ _
  refine NoPanic.normal ?_
  clear hS
  have Q2 := hide (((J2.out.far (p := ⟨g, 5, none⟩) (by simp) (.int .i64 M)).far (p := ⟨g, 6, none⟩) (by simp) (.bool (decide (128 ≤ (s[0].toNat : Int))))).far (p := ⟨g, 7, none⟩) (by simp) (.int .u8 (s[4].toNat : Int)))
  have Q3 := hide (((J3.out.setCell (p := ⟨g, 5, none⟩) (by rw [HG.out]; exact Nat.le_refl _) (.int .i64 M)).setCell (p := ⟨g, 6, none⟩) (by rw [HG.out]; exact Nat.le_refl _) (.bool (decide (128 ≤ (s[0].toNat : Int))))).setCell (p := ⟨g, 7, none⟩) (by rw [HG.out]; exact Nat.le_refl _) (.int .u8 (s[4].toNat : Int)))
  go_upto_region 2 with (fail)
  generalize ((wc1.setCell ⟨g, 5, none⟩ (.int .i64 M)).setCell ⟨g, 6, none⟩ (.bool (decide (128 ≤ (s[0].toNat : Int))))).setCell ⟨g, 7, none⟩ (.int .u8 (s[4].toNat : Int)) = w9 at P3 Q2 Q3 ⊢
  go_wp2_with (first
    | (refine wpList_load_blk rfl 35 (.tmp 2) rfl g rfl 35 (({ F with dep := M, sole := (decide (128 ≤ (s[0].toNat : Int))), wt := (s[4].toNat : Int) } : Fr).cs A n c) _ P3.out Try.underlying35 rfl rfr_sz ?_)
    | (refine wpList_store_blk rfl 35 (.tmp 4) (.tmp 15) rfl (g + 1) (({ F with dep := M, sole := (decide (128 ≤ (s[0].toNat : Int))), wt := (s[4].toNat : Int) } : Fr).cs A n c) (Fr.zero.cs none 0 0) 35 rfl rfl Q2.out rfr_sz rfl (Fr.cs_one _ _ _ _) ?_))
  refine bodyPost_ret (results_rf1 _ _ rfl (g + 1) ({ F with dep := M, sole := (decide (128 ≤ (s[0].toNat : Int))), wt := (s[4].toNat : Int) } : Fr) A n c rfl ?_) rfl (And.intro rfl ?_)
  · exact Q2.out.row _
  · exact below_setRow Q3.out (by rw [HG.out]; omega) _
end Go.Proofs.Ytefdhbljcnpggaa
