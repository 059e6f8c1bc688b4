/-
  Layer 16: awake (written by gen16aw.py).
-/
import Derived.Test.YtpjggodcepiagaaLfRun
import Derived.BigGuardPart
namespace Go.Proofs.Ytpjggodcepiagaa
set_option linter.unusedSimpArgs false
set_option linter.unusedVariables false
open Go.RowKit

theorem vcells {w : World} {g : Nat} {t : TypeId} {a b c : Value} (h : BlkIs w g t #[a, b, c]) : w.cell? ⟨g, 0, none⟩ = some a ∧ w.cell? ⟨g, 1, none⟩ = some b ∧ w.cell? ⟨g, 2, none⟩ = some c :=
  ⟨by rw [h.cell]; rfl, by rw [h.cell]; rfl, by rw [h.cell]; rfl⟩

theorem aw_1 (w : World) : Calls Try.prog 7 #[.int .u8 0, .agg #[.int .u8 0, .bool true]] w fun e w' => e = .returned (.tuple #[.int .u8 2, .agg #[.int .u32 0, .bool false, .bool false]]) ∧ Below w.heap.size w w' := lf_Step 0 0 true w
theorem aw_2 (w : World) : Calls Try.prog 7 #[.int .u8 2, .agg #[.int .u8 6, .bool true]] w fun e w' => e = .returned (.tuple #[.int .u8 4, .agg #[.int .u32 0, .bool false, .bool false]]) ∧ Below w.heap.size w w' := lf_Step 2 6 true w
theorem aw_3 (w : World) : Calls Try.prog 7 #[.int .u8 4, .agg #[.int .u8 1, .bool false]] w fun e w' => e = .returned (.tuple #[.int .u8 4, .agg #[.int .u32 5, .bool true, .bool false]]) ∧ Below w.heap.size w w' := lf_Step 4 1 false w
theorem aw_4 (w : World) : Calls Try.prog 7 #[.int .u8 2, .agg #[.int .u8 1, .bool false]] w fun e w' => e = .returned (.tuple #[.int .u8 5, .agg #[.int .u32 5, .bool false, .bool false]]) ∧ Below w.heap.size w w' := lf_Step 2 1 false w
theorem aw_5 (w : World) (b : Nat) (h : EL w (some ⟨b, 0, none⟩) 5 5 [⟨0, false⟩, ⟨1, false⟩, ⟨7, false⟩, ⟨1, false⟩, ⟨6, false⟩]) : Calls Try.prog 14 #[.int .u8 0, .slice (some ⟨b, 0, none⟩) 5 5] w fun e w' => e = .returned (.tuple #[.int .u8 5, .agg #[.int .u32 2, .bool false, .bool false], .int .i64 4]) ∧ Below w.heap.size w w' := lf_Run _ 5 5 _ 0 w h (by decide)
theorem aw_t1 (w : World) : Calls Try.prog 10 #[.int .u8 1] w fun e w' => e = .returned (.bool true) ∧ w' = w := lf_Takes 1 w
theorem aw_s2 (w : World) : Calls Try.prog 11 #[.int .u8 2] w fun e w' => e = .returned (.bool true) ∧ w' = w := lf_Sends 2 w
theorem aw_s3 (w : World) : Calls Try.prog 11 #[.int .u8 3] w fun e w' => e = .returned (.bool false) ∧ w' = w := lf_Sends 3 w
theorem aw_o5 (w : World) : Calls Try.prog 12 #[.int .u8 5] w fun e w' => e = .returned (.bool true) ∧ w' = w := lf_Over 5 w
theorem aw_o0 (w : World) : Calls Try.prog 12 #[.int .u8 0] w fun e w' => e = .returned (.bool false) ∧ w' = w := lf_Over 0 w

set_option maxRecDepth 100000 in
set_option maxHeartbeats 3200000 in
theorem aw_life (w : World) : Calls Try.prog 13 #[] w fun e w' => e = .returned (.bool true) ∧ Below w.heap.size w w' := by
  go_enter Try.func13, Try.ntmps13
  go_wp2_with fail
  refine (aw_1 _).mono ?_
  rintro e x1 ⟨rfl, hb⟩
  have HBk := hide hb
  clear hb
  have K1 := hide (BlkIs.new x1 27 #[.int .u32 0, .bool false, .bool false])
  have HB := hide (HBk.out.alloc HBk.out.size (.cells #[.int .u32 0, .bool false, .bool false] 27))
  clear HBk
  go_wp2_with fail
  refine (aw_2 _).mono ?_
  rintro e x2 ⟨rfl, hb⟩
  have K1k := hide (K1.out.keep hb)
  have HBk := hide (HB.out.trans (hb.mono HB.out.size))
  clear hb K1 HB
  have K1 := hide (K1k.out.alloc (.cells #[.int .u32 0, .bool false, .bool false] 27))
  have K2 := hide (BlkIs.new x2 27 #[.int .u32 0, .bool false, .bool false])
  have HB := hide (HBk.out.alloc HBk.out.size (.cells #[.int .u32 0, .bool false, .bool false] 27))
  clear HBk K1k
  go_wp2_with fail
  refine (aw_3 _).mono ?_
  rintro e x3 ⟨rfl, hb⟩
  have K1k := hide (K1.out.keep hb)
  have K2k := hide (K2.out.keep hb)
  have HBk := hide (HB.out.trans (hb.mono HB.out.size))
  clear hb K1 K2 HB
  have K1 := hide (K1k.out.alloc (.cells #[.int .u32 5, .bool true, .bool false] 27))
  have K2 := hide (K2k.out.alloc (.cells #[.int .u32 5, .bool true, .bool false] 27))
  have K3 := hide (BlkIs.new x3 27 #[.int .u32 5, .bool true, .bool false])
  have HB := hide (HBk.out.alloc HBk.out.size (.cells #[.int .u32 5, .bool true, .bool false] 27))
  clear HBk K1k K2k
  go_wp2_with fail
  refine (aw_4 _).mono ?_
  rintro e x4 ⟨rfl, hb⟩
  have K1k := hide (K1.out.keep hb)
  have K2k := hide (K2.out.keep hb)
  have K3k := hide (K3.out.keep hb)
  have HBk := hide (HB.out.trans (hb.mono HB.out.size))
  clear hb K1 K2 K3 HB
  have K1 := hide (K1k.out.alloc (.cells #[.int .u32 5, .bool false, .bool false] 27))
  have K2 := hide (K2k.out.alloc (.cells #[.int .u32 5, .bool false, .bool false] 27))
  have K3 := hide (K3k.out.alloc (.cells #[.int .u32 5, .bool false, .bool false] 27))
  have K4 := hide (BlkIs.new x4 27 #[.int .u32 5, .bool false, .bool false])
  have HB := hide (HBk.out.alloc HBk.out.size (.cells #[.int .u32 5, .bool false, .bool false] 27))
  clear HBk K1k K2k K3k
  have HL := hide (el_blk (l := [⟨0, false⟩, ⟨1, false⟩, ⟨7, false⟩, ⟨1, false⟩, ⟨6, false⟩]) (new2 x4 (.cells #[.int .u32 5, .bool false, .bool false] 27) 30 #[.int .u8 0, .bool false, .int .u8 1, .bool false, .int .u8 7, .bool false, .int .u8 1, .bool false, .int .u8 6, .bool false]) (by unfold maxLen; simp))
  have K1b := hide (K1.out.alloc (.cells #[.int .u8 0, .bool false, .int .u8 1, .bool false, .int .u8 7, .bool false, .int .u8 1, .bool false, .int .u8 6, .bool false] 30))
  have K2b := hide (K2.out.alloc (.cells #[.int .u8 0, .bool false, .int .u8 1, .bool false, .int .u8 7, .bool false, .int .u8 1, .bool false, .int .u8 6, .bool false] 30))
  have K3b := hide (K3.out.alloc (.cells #[.int .u8 0, .bool false, .int .u8 1, .bool false, .int .u8 7, .bool false, .int .u8 1, .bool false, .int .u8 6, .bool false] 30))
  have K4b := hide (K4.out.alloc (.cells #[.int .u8 0, .bool false, .int .u8 1, .bool false, .int .u8 7, .bool false, .int .u8 1, .bool false, .int .u8 6, .bool false] 30))
  have HBb := hide (HB.out.alloc HB.out.size (.cells #[.int .u8 0, .bool false, .int .u8 1, .bool false, .int .u8 7, .bool false, .int .u8 1, .bool false, .int .u8 6, .bool false] 30))
  go_wp2_with fail
  refine (aw_5 _ _ HL.out).mono ?_
  rintro e x5 ⟨rfl, hb⟩
  have K1k := hide (K1b.out.keep hb)
  have K2k := hide (K2b.out.keep hb)
  have K3k := hide (K3b.out.keep hb)
  have K4k := hide (K4b.out.keep hb)
  have HBk := hide (HBb.out.trans (hb.mono HBb.out.size))
  clear hb K1 K2 K3 K4 HB
  clear HBb HL K1b K2b K3b K4b
  have K1 := hide (K1k.out.alloc (.cells #[.int .u32 2, .bool false, .bool false] 27))
  have K2 := hide (K2k.out.alloc (.cells #[.int .u32 2, .bool false, .bool false] 27))
  have K3 := hide (K3k.out.alloc (.cells #[.int .u32 2, .bool false, .bool false] 27))
  have K4 := hide (K4k.out.alloc (.cells #[.int .u32 2, .bool false, .bool false] 27))
  have K5 := hide (BlkIs.new x5 27 #[.int .u32 2, .bool false, .bool false])
  have HB := hide (HBk.out.alloc HBk.out.size (.cells #[.int .u32 2, .bool false, .bool false] 27))
  clear HBk K1k K2k K3k K4k
  obtain ⟨c10, c11, c12⟩ := vcells K1.out
  obtain ⟨c20, c21, c22⟩ := vcells K2.out
  obtain ⟨c30, c31, c32⟩ := vcells K3.out
  obtain ⟨c40, c41, c42⟩ := vcells K4.out
  obtain ⟨c50, c51, c52⟩ := vcells K5.out
  clear K1 K2 K3 K4 K5
  go_wp2_with fail
  refine (aw_t1 _).mono ?_
  rintro e w1 ⟨rfl, rfl⟩
  go_wp2_with fail
  refine (aw_s2 _).mono ?_
  rintro e w1 ⟨rfl, rfl⟩
  go_wp2_with fail
  refine (aw_s3 _).mono ?_
  rintro e w1 ⟨rfl, rfl⟩
  go_wp2_with fail
  refine (aw_o5 _).mono ?_
  rintro e w1 ⟨rfl, rfl⟩
  go_wp2_with fail
  refine (aw_o0 _).mono ?_
  rintro e w1 ⟨rfl, rfl⟩
  go_wp2_with fail
  go_ret
  exact ⟨rfl, HB.out⟩
end Go.Proofs.Ytpjggodcepiagaa
