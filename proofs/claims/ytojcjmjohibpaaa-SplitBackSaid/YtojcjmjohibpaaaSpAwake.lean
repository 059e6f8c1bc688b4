/-
  Layer 10: what every right program answers (awake).
-/
import Derived.Test.YtojcjmjohibpaaaSpFeed
import Derived.Deep.Cut
import Derived.Deep.CutRange
import Derived.Laws.StructEq
import Derived.BigGuardPart
import Derived.Lib.SlBytesConst
import Derived.Lib.SmallJoins
namespace Go.Proofs.Ytojcjmjohibpaaa
set_option linter.unusedSimpArgs false
set_option linter.unusedVariables false
open Go.RowKit

/-- What Feed answers, its state written out. -/
def GivesF (g : Int) (B : ByteArray) (d : Bool) (n : Nat) (l : List Rw) (c : Int) (w : World) (e : Ending) (w' : World) : Prop :=
  ∃ v, e = .returned (.tuple #[.agg #[.int .i64 g, .string B, .bool d], v, .int .u32 c]) ∧ w'.ownsRow w.heap.size 53 5 v n (rcs l) ∧ Below w.heap.size w w'
theorem feed_is {g : Int} {B : ByteArray} {d : Bool} {xs : List Int} {g' : Int} {b' : List Int} {d' : Bool} {l : List Rw} {c : Int} (h : feedS ⟨g, bts B, d⟩ xs = ⟨⟨g', b', d'⟩, l, c⟩) (B' : ByteArray) (hB : strOfNums b' = B') (k : Nat) (hk : l.length = k)
    (A : Option Addr) (n cap : Nat) (hS : (B.size : Int) ≤ 2000) (hn : (n : Int) ≤ 1000) (hcap : n ≤ cap) (hc63 : (cap : Int) ≤ 9223372036854775807) (hnil : A = none → cap = 0) (w : World) (hr : RB w A n xs) :
    Calls Try.prog 7 #[.agg #[.int .i64 g, .string B, .bool d], .slice A n cap] w (GivesF g' B' d' k l c w) := by
  have := sp_Feed g B d A n cap xs hS hn hcap hc63 hnil w hr
  rw [h] at this
  subst hB hk
  exact this
theorem st_built0 : Try.prog.built 26 [] = some #[.int .i64 0, .string ⟨#[]⟩, .bool false] := by kernel_rfl
theorem st_built3 : Try.prog.built 26 [(0, .int .i64 24)] = some #[.int .i64 24, .string ⟨#[]⟩, .bool false] := by kernel_rfl
theorem aw_f1 : feedS ⟨0, bts ⟨#[]⟩, false⟩ [80, 82, 73, 32, 42, 32, 72, 84, 84, 80, 47, 50, 46, 48, 13, 10, 13, 10, 83, 77, 13, 10, 13, 10, 0, 0, 2, 11, 1, 0, 0, 0, 5, 97, 98, 0, 0, 1] = ⟨⟨24, [0, 0, 1], false⟩, [⟨2, 11, 1, 5, ⟨#[97, 98]⟩⟩], 0⟩ := by kernel_rfl
theorem aw_f2 : feedS ⟨0, bts ⟨#[]⟩, false⟩ [80, 82, 88] = ⟨⟨0, [], true⟩, [], 1⟩ := by kernel_rfl
theorem aw_f3 : feedS ⟨0, bts ⟨#[]⟩, true⟩ [80] = ⟨⟨0, [], true⟩, [], 0⟩ := by kernel_rfl
theorem aw_f4 : feedS ⟨24, bts ⟨#[0, 0, 1]⟩, false⟩ [1, 0, 0, 0, 0, 0, 0] = ⟨⟨24, [], false⟩, [⟨1, 1, 0, 0, ⟨#[0]⟩⟩], 0⟩ := by kernel_rfl
theorem aw_f5 : feedS ⟨24, bts ⟨#[]⟩, false⟩ [0, 64, 1, 0, 0, 0, 0, 0, 1] = ⟨⟨0, [], true⟩, [], 6⟩ := by kernel_rfl
theorem aw_left1 : Sp.left ⟨24, bts ⟨#[0, 0, 1]⟩, false⟩ = 6 := by kernel_rfl
theorem aw_left2 : Sp.left ⟨0, bts ⟨#[]⟩, false⟩ = 24 := by kernel_rfl
theorem aw_chk : Sp.chk ⟨24, bts ⟨#[0, 0, 1]⟩, false⟩ = 0 := by kernel_rfl
theorem rb_mark (w : World) (t : TypeId) (fr : Nat × Nat) (xs : List Int) (n : Nat) (hn : xs.length = n) (hb : AllB xs) : RB (w.alloc (.cells (u8s xs).toArray t fr)) (some ⟨w.heap.size, 0, none⟩) n xs := by
  refine ⟨hn, fun h => ⟨w.heap.size, 0, rfl, by simp, fun i hi => ?_⟩, fun i => hb.getD i⟩
  rw [Nat.zero_add, World.cell?_alloc_mark]
  simp [u8s, List.getD, show i < xs.length by omega]
theorem st_cells {w : World} {g : Nat} {a b c : Value} (h : BlkIs w g 26 #[a, b, c]) : w.cell? ⟨g, 0, none⟩ = some a ∧ w.cell? ⟨g, 1, none⟩ = some b ∧ w.cell? ⟨g, 2, none⟩ = some c := ⟨h.cell 0, h.cell 1, h.cell 2⟩
theorem allb_of {l : List Int} (h : l.all (fun x => decide (0 ≤ x ∧ x ≤ 255)) = true) : AllB l := fun x hx => by simpa using List.all_eq_true.1 h x hx

theorem aw_cl1 (w : World) : Calls Try.prog 13 #[.agg #[.int .i64 24, .string ⟨#[0, 0, 1]⟩, .bool false]] w fun e w' => e = .returned (.int .i64 6) ∧ Below w.heap.size w w' := by
  have h := sp_Left 24 ⟨#[0, 0, 1]⟩ false (by decide) w
  rwa [aw_left1] at h
theorem aw_cl2 (w : World) : Calls Try.prog 13 #[.agg #[.int .i64 0, .string ⟨#[]⟩, .bool false]] w fun e w' => e = .returned (.int .i64 24) ∧ Below w.heap.size w w' := by
  have h := sp_Left 0 ⟨#[]⟩ false (by decide) w
  rwa [aw_left2] at h
theorem aw_cc (w : World) : Calls Try.prog 11 #[.agg #[.int .i64 24, .string ⟨#[0, 0, 1]⟩, .bool false]] w fun e w' => e = .returned (.int .i64 0) ∧ Below w.heap.size w w' := by
  have h := sp_Check 24 ⟨#[0, 0, 1]⟩ false (by decide) w
  rw [aw_chk] at h
  exact h
theorem aw_cs1 (w : World) : Calls Try.prog 15 #[.agg #[.int .i64 24, .string ⟨#[0, 0, 1]⟩, .bool false], .agg #[.int .i64 24, .string ⟨#[0, 0, 1]⟩, .bool false]] w fun e w' => e = .returned (.bool true) ∧ Below w.heap.size w w' := by
  have h := sp_Same 24 ⟨#[0, 0, 1]⟩ false 24 ⟨#[0, 0, 1]⟩ false w
  rwa [show sameS 24 ⟨#[0, 0, 1]⟩ false 24 ⟨#[0, 0, 1]⟩ false = true by simp [sameS]] at h
theorem aw_cs2 (w : World) : Calls Try.prog 15 #[.agg #[.int .i64 24, .string ⟨#[0, 0, 1]⟩, .bool false], .agg #[.int .i64 0, .string ⟨#[]⟩, .bool true]] w fun e w' => e = .returned (.bool false) ∧ Below w.heap.size w w' := by
  have h := sp_Same 24 ⟨#[0, 0, 1]⟩ false 0 ⟨#[]⟩ true w
  rwa [show sameS 24 ⟨#[0, 0, 1]⟩ false 0 ⟨#[]⟩ true = false by simp [sameS]] at h
theorem ZL.lone {w : World} {A : Option Addr} {c : Nat} {r : Rw} (h : ZL w A 1 c [r]) : ∃ b off, A = some ⟨b, off, none⟩ ∧ w.cell? ⟨b, off + 3, none⟩ = some (.int .i64 r.s) ∧ w.cell? ⟨b, off + 4, none⟩ = some (.string r.d) := by
  obtain ⟨b, off, e, _, _, _, _, h3, h4⟩ := h.at_ 0 r rfl
  refine ⟨b, off, e, ?_, ?_⟩
  · simpa using h3
  · simpa using h4

set_option maxRecDepth 100000 in
set_option maxHeartbeats 6400000 in
theorem aw_split (w : World) : Calls Try.prog 6 #[] w fun e w' => e = .returned (.bool true) ∧ Below w.heap.size w w' := by
  have hz := run_zero_is st_zero10
  obtain ⟨cp, w0, hcv, hr0, hb0, hcap0, hm0, _⟩ := str_row w ⟨#[80, 82, 73, 32, 42, 32, 72, 84, 84, 80, 47, 50, 46, 48, 13, 10, 13, 10, 83, 77, 13, 10, 13, 10, 0, 0, 2, 11, 1, 0, 0, 0, 5, 97, 98, 0, 0, 1]⟩
  have hm1 := hm0 (by decide)
  unfold maxLen at hm1
  rw [show bts ⟨#[80, 82, 73, 32, 42, 32, 72, 84, 84, 80, 47, 50, 46, 48, 13, 10, 13, 10, 83, 77, 13, 10, 13, 10, 0, 0, 2, 11, 1, 0, 0, 0, 5, 97, 98, 0, 0, 1]⟩ = [80, 82, 73, 32, 42, 32, 72, 84, 84, 80, 47, 50, 46, 48, 13, 10, 13, 10, 83, 77, 13, 10, 13, 10, 0, 0, 2, 11, 1, 0, 0, 0, 5, 97, 98, 0, 0, 1] from rfl] at hr0
  rw [show (⟨#[80, 82, 73, 32, 42, 32, 72, 84, 84, 80, 47, 50, 46, 48, 13, 10, 13, 10, 83, 77, 13, 10, 13, 10, 0, 0, 2, 11, 1, 0, 0, 0, 5, 97, 98, 0, 0, 1]⟩ : ByteArray).size = 38 from rfl] at hcv hr0 hcap0
  have HR0 := hide hr0
  have B0 := hide hb0
  have HC0 := hide (show 38 ≤ cp from hcap0)
  have HM0 := hide (show (cp : Int) ≤ 9223372036854775807 by omega)
  clear hr0 hb0 hcap0 hm0 hm1
  go_enter Try.func6, Try.ntmps6
  go_wp2_with (refine rgs_built_want (by rfl) 26 _ rfl _ st_built0 ?_)
  clear hcv
  refine (feed_is aw_f1 ⟨#[0, 0, 1]⟩ rfl 1 rfl (some ⟨w.heap.size, 0, none⟩) 38 cp (by decide) (by omega) HC0.out HM0.out (fun h => by cases h) _ HR0.out).mono ?_
  rintro e w1 ⟨v1, rfl, hown1, hb1⟩
  obtain ⟨A1, c1, rfl, hz1⟩ := own_zl hown1
  have B1 := hide (B0.out.trans (hb1.mono B0.out.size))
  clear hb1 B0
  have Z1 := hide hz1
  clear hz1 hown1
  go_upto_region 3 with (fail)
  have KN2 := hide (BlkIs.new w1 26 #[.int .i64 24, .string ⟨#[0, 0, 1]⟩, .bool false])
  obtain ⟨t2, ht2⟩ : ∃ g, g = w1.heap.size := ⟨_, rfl⟩
  have Lt2 := hide (show w.heap.size ≤ t2 by rw [ht2]; exact B1.out.size)
  have Ez12 := hide (Z1.out.alloc (.cells #[.int .i64 24, .string ⟨#[0, 0, 1]⟩, .bool false] 26))
  have B2 := hide (B1.out.alloc B1.out.size (.cells #[.int .i64 24, .string ⟨#[0, 0, 1]⟩, .bool false] 26))
  rw [← ht2] at KN2 ⊢
  generalize w1.alloc (.cells #[.int .i64 24, .string ⟨#[0, 0, 1]⟩, .bool false] 26) = w2 at Ez12 B2 KN2 ⊢
  clear ht2 Z1 B1
  have kc := Lib.run_convert_bytes_const (P := Try.prog) w2 24 5 #[.int .u8 80, .int .u8 82, .int .u8 88] 3 3 Try.underlying24 Try.underlying5
  go_wp2_with (first | refine rgs_built_want (by rfl) 26 _ rfl _ st_built0 ?_ | refine wpList_load_blk rfl 26 (.tmp 2) rfl t2 rfl 26 _ _ KN2.out Try.underlying26 rfl st_size ?_)
  clear kc
  have RN3 := hide (show RB (w2.alloc (.cells #[.int .u8 80, .int .u8 82, .int .u8 88] 5 (3, 4))) (some ⟨w2.heap.size, 0, none⟩) 3 [80, 82, 88] from rb_mark w2 5 (3, 4) [80, 82, 88] 3 rfl (allb_of rfl))
  have Kt23 := hide (KN2.out.alloc (.cells #[.int .u8 80, .int .u8 82, .int .u8 88] 5 (3, 4)))
  have Ez13 := hide (Ez12.out.alloc (.cells #[.int .u8 80, .int .u8 82, .int .u8 88] 5 (3, 4)))
  have B3 := hide (B2.out.alloc B2.out.size (.cells #[.int .u8 80, .int .u8 82, .int .u8 88] 5 (3, 4)))
  obtain ⟨p1, hp1⟩ : ∃ g, g = w2.heap.size := ⟨_, rfl⟩
  rw [← hp1] at RN3 ⊢
  generalize w2.alloc (.cells #[.int .u8 80, .int .u8 82, .int .u8 88] 5 (3, 4)) = w3 at Kt23 Ez13 B3 RN3 ⊢
  clear hp1 KN2 Ez12 B2
  refine (feed_is aw_f2 ⟨#[]⟩ rfl 0 rfl (some ⟨p1, 0, none⟩) 3 3 (by decide) (by omega) (by omega) (by omega) (fun h => by cases h) _ RN3.out).mono ?_
  rintro e w4 ⟨v4, rfl, hown4, hb4⟩
  obtain ⟨A4, c4, rfl, hz4⟩ := own_zl hown4
  have Kt24 := hide (Kt23.out.keep hb4)
  have Ez14 := hide (Ez13.out.keep hb4)
  have B4 := hide (B3.out.trans (hb4.mono B3.out.size))
  clear hb4 Kt23 Ez13 B3
  have Z4 := hide hz4
  clear hz4 hown4
  clear Z4
  clear RN3
  go_upto_region 4 with (fail)
  have KN5 := hide (BlkIs.new w4 26 #[.int .i64 0, .string ⟨#[]⟩, .bool true])
  obtain ⟨t5, ht5⟩ : ∃ g, g = w4.heap.size := ⟨_, rfl⟩
  have Lt5 := hide (show w.heap.size ≤ t5 by rw [ht5]; exact B4.out.size)
  have Nt2t5 := hide (show t2 ≠ t5 by have := Kt24.out.lt; omega)
  have Kt25 := hide (Kt24.out.alloc (.cells #[.int .i64 0, .string ⟨#[]⟩, .bool true] 26))
  have Ez15 := hide (Ez14.out.alloc (.cells #[.int .i64 0, .string ⟨#[]⟩, .bool true] 26))
  have B5 := hide (B4.out.alloc B4.out.size (.cells #[.int .i64 0, .string ⟨#[]⟩, .bool true] 26))
  rw [← ht5] at KN5 ⊢
  generalize w4.alloc (.cells #[.int .i64 0, .string ⟨#[]⟩, .bool true] 26) = w5 at Kt25 Ez15 B5 KN5 ⊢
  clear ht5 Kt24 Ez14 B4
  have kc := Lib.run_convert_bytes_const (P := Try.prog) w5 24 5 #[.int .u8 80] 1 1 Try.underlying24 Try.underlying5
  go_wp2_with (first | refine rgs_built_want (by rfl) 26 _ rfl _ st_built0 ?_ | refine wpList_load_blk rfl 26 (.tmp 2) rfl t2 rfl 26 _ _ Kt25.out Try.underlying26 rfl st_size ?_ | refine wpList_load_blk rfl 26 (.tmp 5) rfl t5 rfl 26 _ _ KN5.out Try.underlying26 rfl st_size ?_)
  clear kc
  have RN6 := hide (show RB (w5.alloc (.cells #[.int .u8 80] 5 (1, 2))) (some ⟨w5.heap.size, 0, none⟩) 1 [80] from rb_mark w5 5 (1, 2) [80] 1 rfl (allb_of rfl))
  have Kt26 := hide (Kt25.out.alloc (.cells #[.int .u8 80] 5 (1, 2)))
  have Kt56 := hide (KN5.out.alloc (.cells #[.int .u8 80] 5 (1, 2)))
  have Ez16 := hide (Ez15.out.alloc (.cells #[.int .u8 80] 5 (1, 2)))
  have B6 := hide (B5.out.alloc B5.out.size (.cells #[.int .u8 80] 5 (1, 2)))
  obtain ⟨p2, hp2⟩ : ∃ g, g = w5.heap.size := ⟨_, rfl⟩
  rw [← hp2] at RN6 ⊢
  generalize w5.alloc (.cells #[.int .u8 80] 5 (1, 2)) = w6 at Kt26 Kt56 Ez16 B6 RN6 ⊢
  clear hp2 Kt25 KN5 Ez15 B5
  refine (feed_is aw_f3 ⟨#[]⟩ rfl 0 rfl (some ⟨p2, 0, none⟩) 1 1 (by decide) (by omega) (by omega) (by omega) (fun h => by cases h) _ RN6.out).mono ?_
  rintro e w7 ⟨v7, rfl, hown7, hb7⟩
  obtain ⟨A7, c7, rfl, hz7⟩ := own_zl hown7
  have Kt27 := hide (Kt26.out.keep hb7)
  have Kt57 := hide (Kt56.out.keep hb7)
  have Ez17 := hide (Ez16.out.keep hb7)
  have B7 := hide (B6.out.trans (hb7.mono B6.out.size))
  clear hb7 Kt26 Kt56 Ez16 B6
  have Z7 := hide hz7
  clear hz7 hown7
  clear Z7
  clear RN6
  go_upto_region 5 with (fail)
  have KN8 := hide (BlkIs.new w7 26 #[.int .i64 0, .string ⟨#[]⟩, .bool true])
  obtain ⟨t8, ht8⟩ : ∃ g, g = w7.heap.size := ⟨_, rfl⟩
  have Lt8 := hide (show w.heap.size ≤ t8 by rw [ht8]; exact B7.out.size)
  have Nt2t8 := hide (show t2 ≠ t8 by have := Kt27.out.lt; omega)
  have Nt5t8 := hide (show t5 ≠ t8 by have := Kt57.out.lt; omega)
  have Kt28 := hide (Kt27.out.alloc (.cells #[.int .i64 0, .string ⟨#[]⟩, .bool true] 26))
  have Kt58 := hide (Kt57.out.alloc (.cells #[.int .i64 0, .string ⟨#[]⟩, .bool true] 26))
  have Ez18 := hide (Ez17.out.alloc (.cells #[.int .i64 0, .string ⟨#[]⟩, .bool true] 26))
  have B8 := hide (B7.out.alloc B7.out.size (.cells #[.int .i64 0, .string ⟨#[]⟩, .bool true] 26))
  rw [← ht8] at KN8 ⊢
  generalize w7.alloc (.cells #[.int .i64 0, .string ⟨#[]⟩, .bool true] 26) = w8 at Kt28 Kt58 Ez18 B8 KN8 ⊢
  clear ht8 Kt27 Kt57 Ez17 B7
  have kc := Lib.run_convert_bytes_const (P := Try.prog) w8 24 5 #[.int .u8 1, .int .u8 0, .int .u8 0, .int .u8 0, .int .u8 0, .int .u8 0, .int .u8 0] 7 7 Try.underlying24 Try.underlying5
  go_wp2_with (first | refine rgs_built_want (by rfl) 26 _ rfl _ st_built0 ?_ | refine wpList_load_blk rfl 26 (.tmp 2) rfl t2 rfl 26 _ _ Kt28.out Try.underlying26 rfl st_size ?_ | refine wpList_load_blk rfl 26 (.tmp 5) rfl t5 rfl 26 _ _ Kt58.out Try.underlying26 rfl st_size ?_ | refine wpList_load_blk rfl 26 (.tmp 8) rfl t8 rfl 26 _ _ KN8.out Try.underlying26 rfl st_size ?_)
  clear kc
  have RN9 := hide (show RB (w8.alloc (.cells #[.int .u8 1, .int .u8 0, .int .u8 0, .int .u8 0, .int .u8 0, .int .u8 0, .int .u8 0] 5 (7, 8))) (some ⟨w8.heap.size, 0, none⟩) 7 [1, 0, 0, 0, 0, 0, 0] from rb_mark w8 5 (7, 8) [1, 0, 0, 0, 0, 0, 0] 7 rfl (allb_of rfl))
  have Kt29 := hide (Kt28.out.alloc (.cells #[.int .u8 1, .int .u8 0, .int .u8 0, .int .u8 0, .int .u8 0, .int .u8 0, .int .u8 0] 5 (7, 8)))
  have Kt59 := hide (Kt58.out.alloc (.cells #[.int .u8 1, .int .u8 0, .int .u8 0, .int .u8 0, .int .u8 0, .int .u8 0, .int .u8 0] 5 (7, 8)))
  have Kt89 := hide (KN8.out.alloc (.cells #[.int .u8 1, .int .u8 0, .int .u8 0, .int .u8 0, .int .u8 0, .int .u8 0, .int .u8 0] 5 (7, 8)))
  have Ez19 := hide (Ez18.out.alloc (.cells #[.int .u8 1, .int .u8 0, .int .u8 0, .int .u8 0, .int .u8 0, .int .u8 0, .int .u8 0] 5 (7, 8)))
  have B9 := hide (B8.out.alloc B8.out.size (.cells #[.int .u8 1, .int .u8 0, .int .u8 0, .int .u8 0, .int .u8 0, .int .u8 0, .int .u8 0] 5 (7, 8)))
  obtain ⟨p3, hp3⟩ : ∃ g, g = w8.heap.size := ⟨_, rfl⟩
  rw [← hp3] at RN9 ⊢
  generalize w8.alloc (.cells #[.int .u8 1, .int .u8 0, .int .u8 0, .int .u8 0, .int .u8 0, .int .u8 0, .int .u8 0] 5 (7, 8)) = w9 at Kt29 Kt59 Kt89 Ez19 B9 RN9 ⊢
  clear hp3 Kt28 Kt58 KN8 Ez18 B8
  refine (feed_is aw_f4 ⟨#[]⟩ rfl 1 rfl (some ⟨p3, 0, none⟩) 7 7 (by decide) (by omega) (by omega) (by omega) (fun h => by cases h) _ RN9.out).mono ?_
  rintro e w10 ⟨v10, rfl, hown10, hb10⟩
  obtain ⟨A10, c10, rfl, hz10⟩ := own_zl hown10
  have Kt210 := hide (Kt29.out.keep hb10)
  have Kt510 := hide (Kt59.out.keep hb10)
  have Kt810 := hide (Kt89.out.keep hb10)
  have Ez110 := hide (Ez19.out.keep hb10)
  have B10 := hide (B9.out.trans (hb10.mono B9.out.size))
  clear hb10 Kt29 Kt59 Kt89 Ez19 B9
  have Z10 := hide hz10
  clear hz10 hown10
  clear RN9
  go_upto_region 6 with (fail)
  have KN11 := hide (BlkIs.new w10 26 #[.int .i64 24, .string ⟨#[]⟩, .bool false])
  obtain ⟨t11, ht11⟩ : ∃ g, g = w10.heap.size := ⟨_, rfl⟩
  have Lt11 := hide (show w.heap.size ≤ t11 by rw [ht11]; exact B10.out.size)
  have Nt2t11 := hide (show t2 ≠ t11 by have := Kt210.out.lt; omega)
  have Nt5t11 := hide (show t5 ≠ t11 by have := Kt510.out.lt; omega)
  have Nt8t11 := hide (show t8 ≠ t11 by have := Kt810.out.lt; omega)
  have Kt211 := hide (Kt210.out.alloc (.cells #[.int .i64 24, .string ⟨#[]⟩, .bool false] 26))
  have Kt511 := hide (Kt510.out.alloc (.cells #[.int .i64 24, .string ⟨#[]⟩, .bool false] 26))
  have Kt811 := hide (Kt810.out.alloc (.cells #[.int .i64 24, .string ⟨#[]⟩, .bool false] 26))
  have Ez111 := hide (Ez110.out.alloc (.cells #[.int .i64 24, .string ⟨#[]⟩, .bool false] 26))
  have Ez411 := hide (Z10.out.alloc (.cells #[.int .i64 24, .string ⟨#[]⟩, .bool false] 26))
  have B11 := hide (B10.out.alloc B10.out.size (.cells #[.int .i64 24, .string ⟨#[]⟩, .bool false] 26))
  rw [← ht11] at KN11 ⊢
  generalize w10.alloc (.cells #[.int .i64 24, .string ⟨#[]⟩, .bool false] 26) = w11 at Kt211 Kt511 Kt811 Ez111 Ez411 B11 KN11 ⊢
  clear ht11 Kt210 Kt510 Kt810 Ez110 Z10 B10
  have kc := Lib.run_convert_bytes_const (P := Try.prog) w11 24 5 #[.int .u8 0, .int .u8 64, .int .u8 1, .int .u8 0, .int .u8 0, .int .u8 0, .int .u8 0, .int .u8 0, .int .u8 1] 9 9 Try.underlying24 Try.underlying5
  go_wp2_with (first | refine rgs_built_want (by rfl) 26 _ rfl _ st_built3 ?_ | fail)
  clear kc
  have RN12 := hide (show RB (w11.alloc (.cells #[.int .u8 0, .int .u8 64, .int .u8 1, .int .u8 0, .int .u8 0, .int .u8 0, .int .u8 0, .int .u8 0, .int .u8 1] 5 (9, 10))) (some ⟨w11.heap.size, 0, none⟩) 9 [0, 64, 1, 0, 0, 0, 0, 0, 1] from rb_mark w11 5 (9, 10) [0, 64, 1, 0, 0, 0, 0, 0, 1] 9 rfl (allb_of rfl))
  have Kt212 := hide (Kt211.out.alloc (.cells #[.int .u8 0, .int .u8 64, .int .u8 1, .int .u8 0, .int .u8 0, .int .u8 0, .int .u8 0, .int .u8 0, .int .u8 1] 5 (9, 10)))
  have Kt512 := hide (Kt511.out.alloc (.cells #[.int .u8 0, .int .u8 64, .int .u8 1, .int .u8 0, .int .u8 0, .int .u8 0, .int .u8 0, .int .u8 0, .int .u8 1] 5 (9, 10)))
  have Kt812 := hide (Kt811.out.alloc (.cells #[.int .u8 0, .int .u8 64, .int .u8 1, .int .u8 0, .int .u8 0, .int .u8 0, .int .u8 0, .int .u8 0, .int .u8 1] 5 (9, 10)))
  have Kt1112 := hide (KN11.out.alloc (.cells #[.int .u8 0, .int .u8 64, .int .u8 1, .int .u8 0, .int .u8 0, .int .u8 0, .int .u8 0, .int .u8 0, .int .u8 1] 5 (9, 10)))
  have Ez112 := hide (Ez111.out.alloc (.cells #[.int .u8 0, .int .u8 64, .int .u8 1, .int .u8 0, .int .u8 0, .int .u8 0, .int .u8 0, .int .u8 0, .int .u8 1] 5 (9, 10)))
  have Ez412 := hide (Ez411.out.alloc (.cells #[.int .u8 0, .int .u8 64, .int .u8 1, .int .u8 0, .int .u8 0, .int .u8 0, .int .u8 0, .int .u8 0, .int .u8 1] 5 (9, 10)))
  have B12 := hide (B11.out.alloc B11.out.size (.cells #[.int .u8 0, .int .u8 64, .int .u8 1, .int .u8 0, .int .u8 0, .int .u8 0, .int .u8 0, .int .u8 0, .int .u8 1] 5 (9, 10)))
  obtain ⟨p4, hp4⟩ : ∃ g, g = w11.heap.size := ⟨_, rfl⟩
  rw [← hp4] at RN12 ⊢
  generalize w11.alloc (.cells #[.int .u8 0, .int .u8 64, .int .u8 1, .int .u8 0, .int .u8 0, .int .u8 0, .int .u8 0, .int .u8 0, .int .u8 1] 5 (9, 10)) = w12 at Kt212 Kt512 Kt812 Kt1112 Ez112 Ez412 B12 RN12 ⊢
  clear hp4 Kt211 Kt511 Kt811 KN11 Ez111 Ez411 B11
  refine (feed_is aw_f5 ⟨#[]⟩ rfl 0 rfl (some ⟨p4, 0, none⟩) 9 9 (by decide) (by omega) (by omega) (by omega) (fun h => by cases h) _ RN12.out).mono ?_
  rintro e w13 ⟨v13, rfl, hown13, hb13⟩
  obtain ⟨A13, c13, rfl, hz13⟩ := own_zl hown13
  have Kt213 := hide (Kt212.out.keep hb13)
  have Kt513 := hide (Kt512.out.keep hb13)
  have Kt813 := hide (Kt812.out.keep hb13)
  have Kt1113 := hide (Kt1112.out.keep hb13)
  have Ez113 := hide (Ez112.out.keep hb13)
  have Ez413 := hide (Ez412.out.keep hb13)
  have B13 := hide (B12.out.trans (hb13.mono B12.out.size))
  clear hb13 Kt212 Kt512 Kt812 Kt1112 Ez112 Ez412 B12
  have Z13 := hide hz13
  clear hz13 hown13
  clear Z13
  clear RN12
  have Ft2 := hide (Kt213.out.alloc (.cells #[.int .i64 0, .string ⟨#[]⟩, .bool true] 26))
  have Ft5 := hide (Kt513.out.alloc (.cells #[.int .i64 0, .string ⟨#[]⟩, .bool true] 26))
  have Ft8 := hide (Kt813.out.alloc (.cells #[.int .i64 0, .string ⟨#[]⟩, .bool true] 26))
  have FB := hide (B13.out.alloc B13.out.size (.cells #[.int .i64 0, .string ⟨#[]⟩, .bool true] 26))
  obtain ⟨bz1, oz1, rfl, z1a, z1b⟩ := ZL.lone (Ez113.out.alloc (.cells #[.int .i64 0, .string ⟨#[]⟩, .bool true] 26))
  obtain ⟨bz4, oz4, rfl, z4a, z4b⟩ := ZL.lone (Ez413.out.alloc (.cells #[.int .i64 0, .string ⟨#[]⟩, .bool true] 26))
  clear Kt213 Kt513 Kt813 Kt1113 B13 Ez113 Ez413
  simp only at z1a z1b z4a z4b
  obtain ⟨t2_0, t2_1, t2_2⟩ := st_cells Ft2.out
  obtain ⟨t5_0, t5_1, t5_2⟩ := st_cells Ft5.out
  obtain ⟨t8_0, t8_1, t8_2⟩ := st_cells Ft8.out
  go_wp2_with (first | refine rgs_load_want (by rfl) 26 (.tmp 2) rfl t2 rfl 26 #[.int .i64 24, .string ⟨#[0, 0, 1]⟩, .bool false] _ Ft2.out Try.underlying26 rfl st_size ?_ | refine rgs_load_want (by rfl) 26 (.tmp 5) rfl t5 rfl 26 #[.int .i64 0, .string ⟨#[]⟩, .bool true] _ Ft5.out Try.underlying26 rfl st_size ?_ | refine rgs_load_want (by rfl) 26 (.tmp 8) rfl t8 rfl 26 #[.int .i64 0, .string ⟨#[]⟩, .bool true] _ Ft8.out Try.underlying26 rfl st_size ?_ | refine rgs_built_want (by rfl) 26 _ rfl _ st_built0 ?_ | refine rgs_built_want (by rfl) 26 _ rfl _ st_built1 ?_ | refine rgs_built_want (by rfl) 26 _ rfl _ (st_built2 24 ⟨#[0, 0, 1]⟩) ?_)
  refine (aw_cl1 _).mono ?_
  rintro e u0 ⟨rfl, hu0⟩
  have Ft20 := hide (Ft2.out.keep hu0)
  clear Ft2
  have Ft50 := hide (Ft5.out.keep hu0)
  clear Ft5
  have Ft80 := hide (Ft8.out.keep hu0)
  clear Ft8
  have FB0 := hide (FB.out.trans (hu0.mono FB.out.size))
  clear hu0 FB
  clear t2_0 t2_1 t2_2 t5_0 t5_1 t5_2 t8_0 t8_1 t8_2
  clear z1a z1b z4a z4b
  obtain ⟨t2_0, t2_1, t2_2⟩ := st_cells Ft20.out
  obtain ⟨t5_0, t5_1, t5_2⟩ := st_cells Ft50.out
  obtain ⟨t8_0, t8_1, t8_2⟩ := st_cells Ft80.out
  go_wp2_with (first | refine rgs_load_want (by rfl) 26 (.tmp 2) rfl t2 rfl 26 #[.int .i64 24, .string ⟨#[0, 0, 1]⟩, .bool false] _ Ft20.out Try.underlying26 rfl st_size ?_ | refine rgs_load_want (by rfl) 26 (.tmp 5) rfl t5 rfl 26 #[.int .i64 0, .string ⟨#[]⟩, .bool true] _ Ft50.out Try.underlying26 rfl st_size ?_ | refine rgs_load_want (by rfl) 26 (.tmp 8) rfl t8 rfl 26 #[.int .i64 0, .string ⟨#[]⟩, .bool true] _ Ft80.out Try.underlying26 rfl st_size ?_ | refine rgs_built_want (by rfl) 26 _ rfl _ st_built0 ?_ | refine rgs_built_want (by rfl) 26 _ rfl _ st_built1 ?_ | refine rgs_built_want (by rfl) 26 _ rfl _ (st_built2 24 ⟨#[0, 0, 1]⟩) ?_)
  refine (aw_cl2 _).mono ?_
  rintro e u1 ⟨rfl, hu1⟩
  have Ft21 := hide (Ft20.out.keep hu1)
  clear Ft20
  have Ft51 := hide (Ft50.out.keep hu1)
  clear Ft50
  have Ft81 := hide (Ft80.out.keep hu1)
  clear Ft80
  have FB1 := hide (FB0.out.trans (hu1.mono FB0.out.size))
  clear hu1 FB0
  clear t2_0 t2_1 t2_2 t5_0 t5_1 t5_2 t8_0 t8_1 t8_2
  obtain ⟨t2_0, t2_1, t2_2⟩ := st_cells Ft21.out
  obtain ⟨t5_0, t5_1, t5_2⟩ := st_cells Ft51.out
  obtain ⟨t8_0, t8_1, t8_2⟩ := st_cells Ft81.out
  go_wp2_with (first | refine rgs_load_want (by rfl) 26 (.tmp 2) rfl t2 rfl 26 #[.int .i64 24, .string ⟨#[0, 0, 1]⟩, .bool false] _ Ft21.out Try.underlying26 rfl st_size ?_ | refine rgs_load_want (by rfl) 26 (.tmp 5) rfl t5 rfl 26 #[.int .i64 0, .string ⟨#[]⟩, .bool true] _ Ft51.out Try.underlying26 rfl st_size ?_ | refine rgs_load_want (by rfl) 26 (.tmp 8) rfl t8 rfl 26 #[.int .i64 0, .string ⟨#[]⟩, .bool true] _ Ft81.out Try.underlying26 rfl st_size ?_ | refine rgs_built_want (by rfl) 26 _ rfl _ st_built0 ?_ | refine rgs_built_want (by rfl) 26 _ rfl _ st_built1 ?_ | refine rgs_built_want (by rfl) 26 _ rfl _ (st_built2 24 ⟨#[0, 0, 1]⟩) ?_)
  refine (aw_cc _).mono ?_
  rintro e u2 ⟨rfl, hu2⟩
  have Ft22 := hide (Ft21.out.keep hu2)
  clear Ft21
  have Ft52 := hide (Ft51.out.keep hu2)
  clear Ft51
  have Ft82 := hide (Ft81.out.keep hu2)
  clear Ft81
  have FB2 := hide (FB1.out.trans (hu2.mono FB1.out.size))
  clear hu2 FB1
  clear t2_0 t2_1 t2_2 t5_0 t5_1 t5_2 t8_0 t8_1 t8_2
  obtain ⟨t2_0, t2_1, t2_2⟩ := st_cells Ft22.out
  obtain ⟨t5_0, t5_1, t5_2⟩ := st_cells Ft52.out
  obtain ⟨t8_0, t8_1, t8_2⟩ := st_cells Ft82.out
  go_wp2_with (first | refine rgs_load_want (by rfl) 26 (.tmp 2) rfl t2 rfl 26 #[.int .i64 24, .string ⟨#[0, 0, 1]⟩, .bool false] _ Ft22.out Try.underlying26 rfl st_size ?_ | refine rgs_load_want (by rfl) 26 (.tmp 5) rfl t5 rfl 26 #[.int .i64 0, .string ⟨#[]⟩, .bool true] _ Ft52.out Try.underlying26 rfl st_size ?_ | refine rgs_load_want (by rfl) 26 (.tmp 8) rfl t8 rfl 26 #[.int .i64 0, .string ⟨#[]⟩, .bool true] _ Ft82.out Try.underlying26 rfl st_size ?_ | refine rgs_built_want (by rfl) 26 _ rfl _ st_built0 ?_ | refine rgs_built_want (by rfl) 26 _ rfl _ st_built1 ?_ | refine rgs_built_want (by rfl) 26 _ rfl _ (st_built2 24 ⟨#[0, 0, 1]⟩) ?_)
  refine (aw_cs1 _).mono ?_
  rintro e u3 ⟨rfl, hu3⟩
  have Ft23 := hide (Ft22.out.keep hu3)
  clear Ft22
  have Ft53 := hide (Ft52.out.keep hu3)
  clear Ft52
  have Ft83 := hide (Ft82.out.keep hu3)
  clear Ft82
  have FB3 := hide (FB2.out.trans (hu3.mono FB2.out.size))
  clear hu3 FB2
  clear t2_0 t2_1 t2_2 t5_0 t5_1 t5_2 t8_0 t8_1 t8_2
  obtain ⟨t2_0, t2_1, t2_2⟩ := st_cells Ft23.out
  obtain ⟨t5_0, t5_1, t5_2⟩ := st_cells Ft53.out
  obtain ⟨t8_0, t8_1, t8_2⟩ := st_cells Ft83.out
  go_wp2_with (first | refine rgs_load_want (by rfl) 26 (.tmp 2) rfl t2 rfl 26 #[.int .i64 24, .string ⟨#[0, 0, 1]⟩, .bool false] _ Ft23.out Try.underlying26 rfl st_size ?_ | refine rgs_load_want (by rfl) 26 (.tmp 5) rfl t5 rfl 26 #[.int .i64 0, .string ⟨#[]⟩, .bool true] _ Ft53.out Try.underlying26 rfl st_size ?_ | refine rgs_load_want (by rfl) 26 (.tmp 8) rfl t8 rfl 26 #[.int .i64 0, .string ⟨#[]⟩, .bool true] _ Ft83.out Try.underlying26 rfl st_size ?_ | refine rgs_built_want (by rfl) 26 _ rfl _ st_built0 ?_ | refine rgs_built_want (by rfl) 26 _ rfl _ st_built1 ?_ | refine rgs_built_want (by rfl) 26 _ rfl _ (st_built2 24 ⟨#[0, 0, 1]⟩) ?_)
  refine (aw_cs2 _).mono ?_
  rintro e u4 ⟨rfl, hu4⟩
  have Ft24 := hide (Ft23.out.keep hu4)
  clear Ft23
  have Ft54 := hide (Ft53.out.keep hu4)
  clear Ft53
  have Ft84 := hide (Ft83.out.keep hu4)
  clear Ft83
  have FB4 := hide (FB3.out.trans (hu4.mono FB3.out.size))
  clear hu4 FB3
  clear t2_0 t2_1 t2_2 t5_0 t5_1 t5_2 t8_0 t8_1 t8_2
  obtain ⟨t2_0, t2_1, t2_2⟩ := st_cells Ft24.out
  obtain ⟨t5_0, t5_1, t5_2⟩ := st_cells Ft54.out
  obtain ⟨t8_0, t8_1, t8_2⟩ := st_cells Ft84.out
  go_wp2_with (first | refine rgs_load_want (by rfl) 26 (.tmp 2) rfl t2 rfl 26 #[.int .i64 24, .string ⟨#[0, 0, 1]⟩, .bool false] _ Ft24.out Try.underlying26 rfl st_size ?_ | refine rgs_load_want (by rfl) 26 (.tmp 5) rfl t5 rfl 26 #[.int .i64 0, .string ⟨#[]⟩, .bool true] _ Ft54.out Try.underlying26 rfl st_size ?_ | refine rgs_load_want (by rfl) 26 (.tmp 8) rfl t8 rfl 26 #[.int .i64 0, .string ⟨#[]⟩, .bool true] _ Ft84.out Try.underlying26 rfl st_size ?_ | refine rgs_built_want (by rfl) 26 _ rfl _ st_built0 ?_ | refine rgs_built_want (by rfl) 26 _ rfl _ st_built1 ?_ | refine rgs_built_want (by rfl) 26 _ rfl _ (st_built2 24 ⟨#[0, 0, 1]⟩) ?_)
  go_ret
  exact ⟨rfl, FB4.out⟩
end Go.Proofs.Ytojcjmjohibpaaa
