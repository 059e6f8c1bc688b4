/-
  Layer 10: Check, goesOn, Left, Same (the program's).
-/
import Derived.Test.YtojcjmjohibpaaaSpBegun
namespace Go.Proofs.Ytojcjmjohibpaaa
set_option linter.unusedSimpArgs false
set_option linter.unusedVariables false
open Go.RowKit

theorem st_size : (Try.prog.info? 26).map (·.size) = some 3 := by kernel_rfl
theorem st_zero10 : (Try.prog.info? 26).bind (·.zero) = some (.agg #[.int .i64 0, .string ⟨#[]⟩, .bool false]) := by kernel_rfl
theorem chk4 {g : Int} {b : List Int} (h : g ≠ 0 ∨ b ≠ []) : (⟨g, b, true⟩ : Sp).chk = 4 := by rw [Sp.chk, if_pos ⟨rfl, h⟩]
theorem chk8 {g : Int} {b : List Int} (h : g < 0 ∨ 24 < g) : (⟨g, b, false⟩ : Sp).chk = 8 := by rw [Sp.chk, if_neg (by simp), if_pos h]
theorem chk10 {g : Int} {b : List Int} (h0 : 0 ≤ g) (h1 : g < 24) (h : b ≠ []) : (⟨g, b, false⟩ : Sp).chk = 10 := by
  rw [Sp.chk, if_neg (by simp), if_neg (by simp only; omega), if_pos ⟨h1, h⟩]
theorem chk_end {g : Int} {b : List Int} {d : Bool} (hd : d = true → g = 0 ∧ b = []) (h0 : 0 ≤ g) (h1 : g ≤ 24) (hb : g < 24 → b = []) : (⟨g, b, d⟩ : Sp).chk = if wholeB b = true then 5 else 0 := by
  rw [Sp.chk, if_neg, if_neg (by simp only; omega), if_neg (by rintro ⟨a, c⟩; exact c (hb a))]
  rintro ⟨a, c⟩
  obtain ⟨e1, e2⟩ := hd a
  rcases c with c | c
  · exact c e1
  · exact c e2
theorem bts_ne {B : ByteArray} (h : B.size ≠ 0) : bts B ≠ [] := fun e => h (by rw [← bts_len, e]; rfl)

def resB (L : Int) (n : Nat) : Int := if (decide (16384 < L) || decide (9 + L ≤ (n : Int))) = true then 5 else 0
theorem resB_1 {L : Int} {n : Nat} (h : 16384 < L) : resB L n = 5 := by simp [resB, h]
theorem resB_2 {L : Int} {n : Nat} (h : 9 + L ≤ (n : Int)) : resB L n = 5 := by simp [resB, h]
theorem resB_3 {L : Int} {n : Nat} (h : ¬ 16384 < L) (h2 : ¬ 9 + L ≤ (n : Int)) : resB L n = 0 := by simp [resB]; omega
/-- What Check leaves. -/
def GivesChk (c : Int) (w : World) (e : Ending) (w' : World) : Prop := e = .returned (.int .i64 c) ∧ Below w.heap.size w w'

set_option maxRecDepth 100000 in
set_option maxHeartbeats 1600000 in
theorem sp_Check_end (g : Int) (B : ByteArray) (d : Bool) (hd : d = true → g = 0 ∧ B.size = 0) (h0 : 0 ≤ g) (h1 : g ≤ 24) (hb : g < 24 → B.size = 0) (hS : (B.size : Int) ≤ 2000) (w : World) :
    Calls Try.prog 11 #[.agg #[.int .i64 g, .string B, .bool d]] w (GivesChk (if wholeB (bts B) = true then 5 else 0) w) := by
  have hz := run_zero_is hd_zero
  have HC := hide (fun w => sp_begun B w)
  have hbd := gL_bd (bts_all B)
  rw [hdOf] at HC
  have HW : wholeB (bts B) = (decide (16384 < gL (bts B)) || decide (9 + gL (bts B) ≤ (B.size : Int))) := by rw [wholeB, bts_len]
  rw [HW]
  rw [show ((if (decide (16384 < gL (bts B)) || decide (9 + gL (bts B) ≤ (B.size : Int))) = true then 5 else 0 : Int)) = resB (gL (bts B)) B.size from rfl]
  obtain ⟨L, hL⟩ : ∃ L, L = gL (bts B) := ⟨_, rfl⟩
  rw [← hL] at HC hbd ⊢
  have l0 := hbd.1
  have l1 := hbd.2
  clear hbd HW hL
  generalize gT (bts B) = T at HC
  generalize gF (bts B) = F at HC
  generalize gS (bts B) = Z at HC
  have n8 : ¬ g < 0 := by omega
  have n24 : ¬ 24 < g := by omega
  have K0 := hide (BlkIs.new w 26 #[.int .i64 g, .string B, .bool d])
  have hdd : d = true → g = 0 ∧ B = ⟨#[]⟩ := fun h => ⟨(hd h).1, ba_empty (hd h).2⟩
  have hbb : g < 24 → B = ⟨#[]⟩ := fun h => ba_empty (hb h)
  clear hd hb
  go_enter Try.func11, Try.ntmps11
  have key : ∀ (P : Prop), (d = true → g = 0 → B = ⟨#[]⟩ → P) → (d = false → g < 24 → B = ⟨#[]⟩ → P) → (d = false → g = 24 → P) → P := by
    intro P a b c
    cases hd : d with
    | true => obtain ⟨x, y⟩ := hdd hd; exact a hd x y
    | false =>
      by_cases hg : g < 24
      · exact b hd hg (hbb hg)
      · exact c hd (by omega)
  clear hdd hbb
  refine key _ ?_ ?_ ?_
  · intro e1 e2 e3
    subst e1 e2 e3
    clear key
    rw [show (⟨#[]⟩ : ByteArray).size = 0 from rfl]
    go_wp2_with fail
    refine (HC.out _).mono ?_
    rintro e w1 ⟨rfl, hb1⟩
    have K1 := hide ((BlkIs.new w 26 #[.int .i64 0, .string ⟨#[]⟩, .bool true]).keep hb1)
    have B1 := hide (((Below.refl w.heap.size w).alloc (Nat.le_refl _) (.cells #[.int .i64 0, .string ⟨#[]⟩, .bool true] 26)).trans (hb1.mono (by simp)))
    clear hb1
    have K2 := hide (K1.out.alloc (.cells #[.int .i64 L, .int .u8 T, .int .u8 F, .int .i64 Z] 49))
    have c1 := K2.out.cell 1
    simp only [List.getElem?_toArray, List.getElem?_cons_zero, List.getElem?_cons_succ] at c1
    by_cases h1 : 16384 < L
    · have HRR := hide (resB_1 (n := 0) h1)
      have h1' : 16393 < 9 + L := by omega
      go_wp2_with fail
      go_ret
      exact ⟨by rw [HRR.out]; rfl, B1.out.alloc B1.out.size _⟩
    · have h1' : ¬ 16393 < 9 + L := by omega
      have h2 : ¬ 9 + L ≤ ((0 : Nat) : Int) := by omega
      have h2' : ¬ 9 + L ≤ 0 := by omega
      · have HRR := hide (resB_3 (n := 0) h1 h2)
        go_wp2_with fail
        go_ret
        exact ⟨by rw [HRR.out]; rfl, B1.out.alloc B1.out.size _⟩
  · intro e1 e2 e3
    subst e1 e3
    clear key
    rw [show (⟨#[]⟩ : ByteArray).size = 0 from rfl]
    go_wp2_with fail
    refine (HC.out _).mono ?_
    rintro e w1 ⟨rfl, hb1⟩
    have K1 := hide ((BlkIs.new w 26 #[.int .i64 g, .string ⟨#[]⟩, .bool false]).keep hb1)
    have B1 := hide (((Below.refl w.heap.size w).alloc (Nat.le_refl _) (.cells #[.int .i64 g, .string ⟨#[]⟩, .bool false] 26)).trans (hb1.mono (by simp)))
    clear hb1
    have K2 := hide (K1.out.alloc (.cells #[.int .i64 L, .int .u8 T, .int .u8 F, .int .i64 Z] 49))
    have c1 := K2.out.cell 1
    simp only [List.getElem?_toArray, List.getElem?_cons_zero, List.getElem?_cons_succ] at c1
    by_cases h1 : 16384 < L
    · have HRR := hide (resB_1 (n := 0) h1)
      have h1' : 16393 < 9 + L := by omega
      go_wp2_with fail
      go_ret
      exact ⟨by rw [HRR.out]; rfl, B1.out.alloc B1.out.size _⟩
    · have h1' : ¬ 16393 < 9 + L := by omega
      have h2 : ¬ 9 + L ≤ ((0 : Nat) : Int) := by omega
      have h2' : ¬ 9 + L ≤ 0 := by omega
      · have HRR := hide (resB_3 (n := 0) h1 h2)
        go_wp2_with fail
        go_ret
        exact ⟨by rw [HRR.out]; rfl, B1.out.alloc B1.out.size _⟩
  · intro e1 e2
    subst e1 e2
    clear key
    go_wp2_with fail
    refine (HC.out _).mono ?_
    rintro e w1 ⟨rfl, hb1⟩
    have K1 := hide ((BlkIs.new w 26 #[.int .i64 24, .string B, .bool false]).keep hb1)
    have B1 := hide (((Below.refl w.heap.size w).alloc (Nat.le_refl _) (.cells #[.int .i64 24, .string B, .bool false] 26)).trans (hb1.mono (by simp)))
    clear hb1
    have K2 := hide (K1.out.alloc (.cells #[.int .i64 L, .int .u8 T, .int .u8 F, .int .i64 Z] 49))
    have c1 := K2.out.cell 1
    simp only [List.getElem?_toArray, List.getElem?_cons_zero, List.getElem?_cons_succ] at c1
    by_cases h1 : 16384 < L
    · have HRR := hide (resB_1 (n := B.size) h1)
      have h1' : 16393 < 9 + L := by omega
      go_wp2_with fail
      go_ret
      exact ⟨by rw [HRR.out]; rfl, B1.out.alloc B1.out.size _⟩
    · have h1' : ¬ 16393 < 9 + L := by omega
      by_cases h2 : 9 + L ≤ (B.size : Int)
      · have HRR := hide (resB_2 (n := B.size) h2)
        go_wp2_with fail
        go_ret
        exact ⟨by rw [HRR.out]; rfl, B1.out.alloc B1.out.size _⟩
      · have HRR := hide (resB_3 (n := B.size) h1 h2)
        go_wp2_with fail
        go_ret
        exact ⟨by rw [HRR.out]; rfl, B1.out.alloc B1.out.size _⟩

set_option maxRecDepth 100000 in
set_option maxHeartbeats 1600000 in
theorem sp_Check (g : Int) (B : ByteArray) (d : Bool) (hS : (B.size : Int) ≤ 2000) (w : World) :
    Calls Try.prog 11 #[.agg #[.int .i64 g, .string B, .bool d]] w (GivesChk (Sp.chk ⟨g, bts B, d⟩) w) := by
  cases d with
  | true =>
    by_cases hg : g = 0
    · subst hg
      by_cases hb : B.size = 0
      · rw [chk_end (fun _ => ⟨rfl, by rw [ba_empty hb]; rfl⟩) (by omega) (by omega) (fun _ => by rw [ba_empty hb]; rfl)]
        exact sp_Check_end 0 B true (fun _ => ⟨rfl, hb⟩) (by omega) (by omega) (fun _ => hb) hS w
      · rw [chk4 (.inr (bts_ne hb))]
        have he : B.toList.isEmpty = false := by rw [is_empty]; simp [hb]
        clear hb
        go_enter Try.func11, Try.ntmps11
        go_wp2_with fail
        go_ret
        exact ⟨rfl, (Below.refl _ _).alloc (Nat.le_refl _) _⟩
    · rw [chk4 (.inl hg)]
      go_enter Try.func11, Try.ntmps11
      go_wp2_with fail
      go_ret
      exact ⟨rfl, (Below.refl _ _).alloc (Nat.le_refl _) _⟩
  | false =>
    by_cases h0 : g < 0
    · rw [chk8 (.inl h0)]
      go_enter Try.func11, Try.ntmps11
      go_wp2_with fail
      go_ret
      exact ⟨rfl, (Below.refl _ _).alloc (Nat.le_refl _) _⟩
    by_cases h1 : 24 < g
    · rw [chk8 (.inr h1)]
      go_enter Try.func11, Try.ntmps11
      go_wp2_with fail
      go_ret
      exact ⟨rfl, (Below.refl _ _).alloc (Nat.le_refl _) _⟩
    by_cases hb : B.size = 0
    · rw [chk_end (fun h => by cases h) (by omega) (by omega) (fun _ => by rw [ba_empty hb]; rfl)]
      exact sp_Check_end g B false (fun h => by cases h) (by omega) (by omega) (fun _ => hb) hS w
    by_cases h2 : g < 24
    · rw [chk10 (by omega) h2 (bts_ne hb)]
      have he : B.toList.isEmpty = false := by rw [is_empty]; simp [hb]
      clear hb
      go_enter Try.func11, Try.ntmps11
      go_wp2_with fail
      go_ret
      exact ⟨rfl, (Below.refl _ _).alloc (Nat.le_refl _) _⟩
    · rw [chk_end (fun h => by cases h) (by omega) (by omega) (fun h => absurd h h2)]
      exact sp_Check_end g B false (fun h => by cases h) (by omega) (by omega) (fun h => absurd h h2) hS w
end Go.Proofs.Ytojcjmjohibpaaa
