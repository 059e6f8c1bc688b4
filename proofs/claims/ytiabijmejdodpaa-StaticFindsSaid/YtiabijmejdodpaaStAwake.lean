/-
  Layer 3: awake.
-/
import Derived.Test.YtiabijmejdodpaaStAll
namespace Go.Proofs.Ytiabijmejdodpaa
open Go.RowKit

theorem st_Find_is {n v : ByteArray} {r : Nat} {b : Bool} {R : Int} (h : FindIs n v r b) (hR : (r : Int) = R) (w : World) :
    Calls Try.prog 12 #[.string n, .string v] w fun e w' => e = .returned (.tuple #[.int .i64 R, .bool b]) ∧ Below w.heap.size w w' := by
  subst hR
  refine (st_Find n v w).mono ?_
  rintro e w' ⟨r', b', rfl, h', hb⟩
  obtain ⟨rfl, rfl⟩ := h'.one h
  exact ⟨rfl, hb⟩

theorem find_post : FindIs ⟨#[58, 109, 101, 116, 104, 111, 100]⟩ ⟨#[80, 79, 83, 84]⟩ 3 true := by unfold FindIs NoneTo; decide +kernel
theorem find_put : FindIs ⟨#[58, 109, 101, 116, 104, 111, 100]⟩ ⟨#[80, 85, 84]⟩ 2 false := by unfold FindIs NoneTo; decide +kernel
theorem find_x : FindIs ⟨#[120]⟩ ⟨#[]⟩ 0 false := by unfold FindIs NoneTo; decide +kernel

theorem st_At2 (w : World) : Calls Try.prog 7 #[.int .i64 2] w fun e w' => e = .returned (.tuple #[.agg #[.string ⟨#[58, 109, 101, 116, 104, 111, 100]⟩, .string ⟨#[71, 69, 84]⟩, .bool false], .bool true]) ∧ Below w.heap.size w w' :=
  st_At_nat 1 (by omega) w
theorem st_At62 (w : World) : Calls Try.prog 7 #[.int .i64 62] w fun e w' => e = .returned (.tuple #[.agg #[.string ⟨#[]⟩, .string ⟨#[]⟩, .bool false], .bool false]) ∧ Below w.heap.size w w' := by
  have := st_At_no 62 (by decide) w
  rw [fldAt_out 62 (by decide)] at this
  exact this
theorem st_Size42 (w : World) : Calls Try.prog 10 #[.agg #[.string ⟨#[58, 109, 101, 116, 104, 111, 100]⟩, .string ⟨#[71, 69, 84]⟩, .bool false]] w fun e w' => e = .returned (.int .i64 42) ∧ Below w.heap.size w w' :=
  st_Size ⟨#[58, 109, 101, 116, 104, 111, 100]⟩ ⟨#[71, 69, 84]⟩ false (by decide) (by decide) w

set_option maxRecDepth 100000 in
set_option maxHeartbeats 1600000 in
theorem aw_static (w : World) : Calls Try.prog 6 #[] w fun e w' => e = .returned (.bool true) ∧ Below w.heap.size w w' := by
  have hz := run_zero_is st_zero_raw
  go_enter Try.func6, Try.ntmps6
  go_wp2_with fail
  refine (st_At2 _).mono ?_
  rintro e w1 ⟨rfl, hb1⟩
  have HB1 := hide hb1
  clear hb1
  go_wp2_with fail
  obtain ⟨C, hC⟩ : ∃ C : Array Value, C = #[.string ⟨#[58, 109, 101, 116, 104, 111, 100]⟩, .string ⟨#[71, 69, 84]⟩, .bool false] := ⟨_, rfl⟩
  have K1 := hide (BlkIs.new w1 23 C)
  have B1 := hide (HB1.out.alloc HB1.out.size (.cells C 23))
  obtain ⟨g1, hg1⟩ : ∃ g, g = w1.heap.size := ⟨_, rfl⟩
  rw [hC] at K1 B1
  rw [← hg1] at K1 ⊢
  clear hC hg1 HB1
  refine (st_At62 _).mono ?_
  rintro e w2 ⟨rfl, hb2⟩
  have K2 := hide (K1.out.keep hb2)
  have B2 := hide (B1.out.trans (hb2.mono B1.out.size))
  clear hb2 K1 B1
  go_wp2_with fail
  refine (st_Find_is find_post (R := 3) rfl _).mono ?_
  rintro e w3 ⟨rfl, hb3⟩
  have K3 := hide ((K2.out.alloc (.cells #[.string ⟨#[]⟩, .string ⟨#[]⟩, .bool false] 23)).keep hb3)
  have B3 := hide ((B2.out.alloc B2.out.size (.cells #[.string ⟨#[]⟩, .string ⟨#[]⟩, .bool false] 23)).trans (hb3.mono (by have := B2.out.size; simp; omega)))
  clear hb3 K2 B2
  go_wp2_with fail
  refine (st_Find_is find_put (R := 2) rfl _).mono ?_
  rintro e w4 ⟨rfl, hb4⟩
  have K4 := hide (K3.out.keep hb4)
  have B4 := hide (B3.out.trans (hb4.mono B3.out.size))
  clear hb4 K3 B3
  go_wp2_with fail
  refine (st_Find_is find_x (R := 0) rfl _).mono ?_
  rintro e w5 ⟨rfl, hb5⟩
  have K5 := hide (K4.out.keep hb5)
  have B5 := hide (B4.out.trans (hb5.mono B4.out.size))
  clear hb5 K4 B4
  have c0 := K5.out.cell 0
  have c1 := K5.out.cell 1
  have c2 := K5.out.cell 2
  simp only [List.getElem?_toArray, List.getElem?_cons_zero, List.getElem?_cons_succ] at c0 c1 c2
  go_wp2_with fail
  refine (st_All _).mono ?_
  rintro e w6 ⟨gA, rfl, hgA, hbA, hb6⟩
  have K6 := hide (K5.out.keep hb6)
  have B6 := hide (B5.out.trans (hb6.mono B5.out.size))
  clear hb6 hbA hgA K5 B5 c0 c1 c2
  have c0 := K6.out.cell 0
  have c1 := K6.out.cell 1
  have c2 := K6.out.cell 2
  simp only [List.getElem?_toArray, List.getElem?_cons_zero, List.getElem?_cons_succ] at c0 c1 c2
  go_wp2_with (go_at_call 10; refine (st_Size42 _).mono ?_; rintro e w7 ⟨rfl, hb7⟩; have HB7 := hide (B6.out.trans (hb7.mono B6.out.size)); clear hb7)
  go_ret
  exact ⟨rfl, HB7.out⟩
end Go.Proofs.Ytiabijmejdodpaa
