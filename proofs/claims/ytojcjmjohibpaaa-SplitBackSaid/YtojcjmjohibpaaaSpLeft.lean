/-
  Layer 10: goesOn, Left, Same (the program's).
-/
import Derived.Test.YtojcjmjohibpaaaSpCheck
import Derived.Laws.StructEq
namespace Go.Proofs.Ytojcjmjohibpaaa
set_option linter.unusedSimpArgs false
set_option linter.unusedVariables false
open Go.RowKit

theorem goes_false {g : Int} {b : List Int} : (⟨g, b, true⟩ : Sp).goes = false := rfl
theorem goes_chk {g : Int} {b : List Int} : (⟨g, b, false⟩ : Sp).goes = decide ((⟨g, b, false⟩ : Sp).chk = 0) := rfl

set_option maxRecDepth 100000 in
set_option maxHeartbeats 1600000 in
theorem sp_goesOn (g : Int) (B : ByteArray) (d : Bool) (hS : (B.size : Int) ≤ 2000) (w : World) :
    Calls Try.prog 17 #[.agg #[.int .i64 g, .string B, .bool d]] w fun e w' => e = .returned (.bool (Sp.goes ⟨g, bts B, d⟩)) ∧ Below w.heap.size w w' := by
  cases d with
  | true =>
    rw [goes_false]
    go_enter Try.func17, Try.ntmps17
    go_wp2_with fail
    go_ret
    exact ⟨rfl, (Below.refl _ _).alloc (Nat.le_refl _) _⟩
  | false =>
    rw [goes_chk]
    have HC := hide (fun w => sp_Check g B false hS w)
    obtain ⟨c, hc⟩ : ∃ c, c = Sp.chk ⟨g, bts B, false⟩ := ⟨_, rfl⟩
    rw [← hc] at HC ⊢
    clear hc hS
    go_enter Try.func17, Try.ntmps17
    go_wp2_with fail
    refine (HC.out _).mono ?_
    rintro e w1 ⟨rfl, hb1⟩
    have B1 := hide (((Below.refl w.heap.size w).alloc (Nat.le_refl _) (.cells #[.int .i64 g, .string B, .bool false] 26)).trans (hb1.mono (by simp)))
    clear hb1
    have hbq : (c == 0) = decide (c = 0) := by by_cases h : c = 0 <;> simp [h]
    go_wp2_with fail
    go_ret
    exact ⟨rfl, B1.out⟩

theorem left_no {g : Int} {b : List Int} {d : Bool} (h : (⟨g, b, d⟩ : Sp).goes = false) : (⟨g, b, d⟩ : Sp).left = 0 := by rw [Sp.left, if_pos h]
theorem left_pre {g : Int} {b : List Int} {d : Bool} (h : (⟨g, b, d⟩ : Sp).goes = true) (h2 : g < 24) : (⟨g, b, d⟩ : Sp).left = 24 - g := by rw [Sp.left, if_neg (by simp [h]), if_pos h2]
theorem left_buf {g : Int} {b : List Int} {d : Bool} (h : (⟨g, b, d⟩ : Sp).goes = true) (h2 : ¬ g < 24) : (⟨g, b, d⟩ : Sp).left = 9 + gL b - (b.length : Int) := by rw [Sp.left, if_neg (by simp [h]), if_neg h2]

set_option maxRecDepth 100000 in
set_option maxHeartbeats 1600000 in
theorem sp_Left (g : Int) (B : ByteArray) (d : Bool) (hS : (B.size : Int) ≤ 2000) (w : World) :
    Calls Try.prog 13 #[.agg #[.int .i64 g, .string B, .bool d]] w fun e w' => e = .returned (.int .i64 (Sp.left ⟨g, bts B, d⟩)) ∧ Below w.heap.size w w' := by
  have HC := hide (fun w => sp_goesOn g B d hS w)
  have HN := hide (fun w => sp_begun B w)
  rw [hdOf] at HN
  have hz := run_zero_is hd_zero
  have hg0 : Sp.goes ⟨g, bts B, d⟩ = true → 0 ≤ g ∧ g ≤ 24 := fun h => by
    obtain ⟨_, a, b, _⟩ := goes_of h
    exact ⟨a, b⟩
  have hbd := gL_bd (bts_all B)
  obtain ⟨ok, hok⟩ : ∃ k, k = Sp.goes ⟨g, bts B, d⟩ := ⟨_, rfl⟩
  rw [← hok] at HC hg0
  have HOK := hide hok
  clear hok
  cases ok with
  | false =>
    rw [left_no HOK.out.symm]
    clear hg0 hbd
    go_enter Try.func13, Try.ntmps13
    go_wp2_with fail
    refine (HC.out _).mono ?_
    rintro e w1 ⟨rfl, hb1⟩
    have B1 := hide (((Below.refl w.heap.size w).alloc (Nat.le_refl _) (.cells #[.int .i64 g, .string B, .bool d] 26)).trans (hb1.mono (by simp)))
    clear hb1
    go_wp2_with fail
    go_ret
    exact ⟨rfl, B1.out⟩
  | true =>
    obtain ⟨g0, g1⟩ := hg0 rfl
    clear hg0
    by_cases h2 : g < 24
    · rw [left_pre HOK.out.symm h2]
      clear hbd
      go_enter Try.func13, Try.ntmps13
      go_wp2_with fail
      refine (HC.out _).mono ?_
      rintro e w1 ⟨rfl, hb1⟩
      have B1 := hide (((Below.refl w.heap.size w).alloc (Nat.le_refl _) (.cells #[.int .i64 g, .string B, .bool d] 26)).trans (hb1.mono (by simp)))
      have K1 := hide ((BlkIs.new w 26 #[.int .i64 g, .string B, .bool d]).keep hb1)
      clear hb1
      have c0 := K1.out.cell 0
      simp only [List.getElem?_toArray, List.getElem?_cons_zero, List.getElem?_cons_succ] at c0
      go_wp2_with fail
      go_ret
      exact ⟨rfl, B1.out⟩
    · rw [left_buf HOK.out.symm h2, bts_len]
      obtain ⟨L, hL⟩ : ∃ L, L = gL (bts B) := ⟨_, rfl⟩
      rw [← hL] at HN hbd ⊢
      have l0 := hbd.1
      have l1 := hbd.2
      clear hbd hL HOK
      generalize gT (bts B) = T at HN
      generalize gF (bts B) = F at HN
      generalize gS (bts B) = Z at HN
      have hs0 : (0 : Int) ≤ (B.size : Int) := by omega
      go_enter Try.func13, Try.ntmps13
      go_wp2_with fail
      refine (HC.out _).mono ?_
      rintro e w1 ⟨rfl, hb1⟩
      have B1 := hide (((Below.refl w.heap.size w).alloc (Nat.le_refl _) (.cells #[.int .i64 g, .string B, .bool d] 26)).trans (hb1.mono (by simp)))
      have K1 := hide ((BlkIs.new w 26 #[.int .i64 g, .string B, .bool d]).keep hb1)
      clear hb1
      have c0 := K1.out.cell 0
      have c1 := K1.out.cell 1
      simp only [List.getElem?_toArray, List.getElem?_cons_zero, List.getElem?_cons_succ] at c0 c1
      go_wp2_with fail
      refine (HN.out _).mono ?_
      rintro e w2 ⟨rfl, hb2⟩
      have B2 := hide (B1.out.trans (hb2.mono B1.out.size))
      have K2 := hide ((K1.out.keep hb2).alloc (.cells #[.int .i64 L, .int .u8 T, .int .u8 F, .int .i64 Z] 49))
      clear hb2 c0 c1
      have c1 := K2.out.cell 1
      simp only [List.getElem?_toArray, List.getElem?_cons_zero, List.getElem?_cons_succ] at c1
      go_wp2_with fail
      go_ret
      exact ⟨rfl, B2.out.alloc B2.out.size _⟩

theorem toList_iff (a b : ByteArray) : a.toList = b.toList ↔ a = b := by
  refine ⟨fun e => ?_, fun e => by rw [e]⟩
  rw [ByteArray.toList_eq, ByteArray.toList_eq] at e
  exact Go.WideShapes.bytes_inj e
/-- Whether two states are one. -/
def sameS (g : Int) (B : ByteArray) (d : Bool) (g' : Int) (B' : ByteArray) (d' : Bool) : Bool := decide (g = g') && decide (B = B') && decide (d = d')

set_option maxRecDepth 100000 in
set_option maxHeartbeats 1600000 in
theorem sp_Same (g : Int) (B : ByteArray) (d : Bool) (g' : Int) (B' : ByteArray) (d' : Bool) (w : World) :
    Calls Try.prog 15 #[.agg #[.int .i64 g, .string B, .bool d], .agg #[.int .i64 g', .string B', .bool d']] w fun e w' => e = .returned (.bool (sameS g B d g' B' d')) ∧ Below w.heap.size w w' := by
  go_enter Try.func15, Try.ntmps15
  have HE := hide (toList_iff B B')
  go_wp2_with fail
  all_goals
    go_ret
    refine ⟨?_, ((Below.refl _ _).alloc (Nat.le_refl _) _).alloc (by simp) _⟩
    have he := HE.out
    simp_all [sameS]
end Go.Proofs.Ytojcjmjohibpaaa
