/-
  Layer 22: New: the program's and the document's; Zone.
-/
import Derived.Test.YtjcibpefbfengaaHyCheck
namespace Go.Proofs.Ytjcibpefbfengaa
set_option linter.unusedSimpArgs false
set_option linter.unusedVariables false
open Go.RowKit

def nilH : Hy := ⟨0, 0, 0, 0, 0, 0, 0⟩
def mkH (a b lo hi q : Int) : Hy := ⟨b, a, b, lo, hi, q, 0⟩
/-- New. -/
def newH (a b lo hi q : Int) : Hy × Int := if okH (mkH a b lo hi q) then (mkH a b lo hi q, 0) else (nilH, 8)
theorem newH_yes {a b lo hi q : Int} (h : okH (mkH a b lo hi q) = true) : newH a b lo hi q = (mkH a b lo hi q, 0) := by rw [newH, h]; rfl
theorem newH_no {a b lo hi q : Int} (h : okH (mkH a b lo hi q) = false) : newH a b lo hi q = (nilH, 8) := by rw [newH, h]; rfl

set_option maxRecDepth 100000 in
set_option maxHeartbeats 1600000 in
theorem hy_New (a b lo hi q : Int) (w : World) : Calls Try.prog 6 #[.int .i64 a, .int .i64 b, .int .i64 lo, .int .i64 hi, .int .i64 q] w fun e w' => e = .returned (.tuple #[.agg (newH a b lo hi q).1.cs, .int .i64 (newH a b lo hi q).2]) ∧ Below w.heap.size w w' := by
  have HC := hide (fun w => hy_Check (mkH a b lo hi q) w)
  obtain ⟨g, hg⟩ : ∃ g, g = w.heap.size := ⟨_, rfl⟩
  have HL := hide hg.symm
  have HB := hide (bel2 w (.cells nilH.cs 24) (.cells (mkH a b lo hi q).cs 24))
  have HZ := hide (show BlkIs _ g _ _ by rw [hg]; exact (BlkIs.new w 24 nilH.cs).alloc (.cells (mkH a b lo hi q).cs 24))
  have HX := hide (show BlkIs _ (g + 1) _ _ by rw [hg]; exact new2 w (.cells nilH.cs 24) 24 (mkH a b lo hi q).cs)
  clear hg
  cases hok : okH (mkH a b lo hi q) with
  | false =>
    rw [chkH_no hok] at HC
    rw [newH_no hok]
    clear hok
    simp only [Hy.cs, mkH, nilH] at HX HB HZ HC
    go_enter Try.func6, Try.ntmps6
    go_wp2_with fail
    rw [HL.out]
    refine (HC.out _).mono ?_
    rintro e w3 ⟨rfl, hb3⟩
    have HZ3 := hide (HZ.out.keep hb3)
    have HB3 := hide (HB.out.trans (hb3.mono HB.out.size))
    clear hb3 HX HZ HB HC
    go_wp2_with (first
      | (refine wpList_store_blk rfl 24 (.tmp 10) (.tmp 25) rfl g nilH.cs _ 24 rfl rfl HZ3.out hy_size rfl (Hy.cs_one nilH) ?_))
    exact bodyPost_ret (results_cell_tmp_blk rfl _ _ g 24 nilH.cs _ rfl (HZ3.out.row _) Try.underlying24 rfl hy_size _ rfl) rfl ⟨rfl, below_setRow HB3.out (by have := HL.out; omega) _⟩
  | true =>
    rw [chkH_yes hok] at HC
    rw [newH_yes hok]
    clear hok
    simp only [Hy.cs, mkH, nilH] at HX HB HZ HC ⊢
    go_enter Try.func6, Try.ntmps6
    go_wp2_with fail
    rw [HL.out]
    refine (HC.out _).mono ?_
    rintro e w3 ⟨rfl, hb3⟩
    have HX3 := hide (HX.out.keep hb3)
    have HZ3 := hide (HZ.out.keep hb3)
    have HB3 := hide (HB.out.trans (hb3.mono HB.out.size))
    clear hb3 HX HZ HB HC
    go_wp2_with (first
      | (refine wpList_load_blk rfl 24 (.tmp 12) rfl (g + 1) rfl 24 #[.int .i64 b, .int .i64 a, .int .i64 b, .int .i64 lo, .int .i64 hi, .int .i64 q, .int .i64 0] _ HX3.out Try.underlying24 rfl hy_size ?_)
      | (refine wpList_store_blk rfl 24 (.tmp 10) (.tmp 27) rfl g #[.int .i64 b, .int .i64 a, .int .i64 b, .int .i64 lo, .int .i64 hi, .int .i64 q, .int .i64 0] _ 24 rfl rfl HZ3.out hy_size rfl (by simp [Value.oneCell']) ?_))
    exact bodyPost_ret (results_cell_tmp_blk rfl _ _ g 24 #[.int .i64 b, .int .i64 a, .int .i64 b, .int .i64 lo, .int .i64 hi, .int .i64 q, .int .i64 0] _ rfl (HZ3.out.row _) Try.underlying24 rfl hy_size _ rfl) rfl ⟨rfl, below_setRow HB3.out (by have := HL.out; omega) _⟩

set_option maxRecDepth 100000 in
set_option maxHeartbeats 1600000 in
theorem rh_New (a b lo hi q : Int) (w : World) : Calls Try.prog 7 #[.int .i64 a, .int .i64 b, .int .i64 lo, .int .i64 hi, .int .i64 q] w fun e w' => e = .returned (.tuple #[.agg (newH a b lo hi q).1.cs, .int .i64 (newH a b lo hi q).2]) ∧ Below w.heap.size w w' := by
  have HC := hide (fun w => rh_Check (mkH a b lo hi q) w)
  obtain ⟨g, hg⟩ : ∃ g, g = w.heap.size := ⟨_, rfl⟩
  have HL := hide hg.symm
  have HB := hide (bel2 w (.cells nilH.cs 28) (.cells (mkH a b lo hi q).cs 28))
  have HZ := hide (show BlkIs _ g _ _ by rw [hg]; exact (BlkIs.new w 28 nilH.cs).alloc (.cells (mkH a b lo hi q).cs 28))
  have HX := hide (show BlkIs _ (g + 1) _ _ by rw [hg]; exact new2 w (.cells nilH.cs 28) 28 (mkH a b lo hi q).cs)
  clear hg
  cases hok : okH (mkH a b lo hi q) with
  | false =>
    rw [chkH_no hok] at HC
    rw [newH_no hok]
    clear hok
    simp only [Hy.cs, mkH, nilH] at HX HB HZ HC
    go_enter Try.func7, Try.ntmps7
    go_wp2_with fail
    rw [HL.out]
    refine (HC.out _).mono ?_
    rintro e w3 ⟨rfl, hb3⟩
    have HZ3 := hide (HZ.out.keep hb3)
    have HB3 := hide (HB.out.trans (hb3.mono HB.out.size))
    clear hb3 HX HZ HB HC
    go_wp2_with (first
      | (refine wpList_store_blk rfl 28 (.tmp 10) (.tmp 25) rfl g nilH.cs _ 28 rfl rfl HZ3.out rh_size rfl (Hy.cs_one nilH) ?_))
    exact bodyPost_ret (results_cell_tmp_blk rfl _ _ g 28 nilH.cs _ rfl (HZ3.out.row _) Try.underlying28 rfl rh_size _ rfl) rfl ⟨rfl, below_setRow HB3.out (by have := HL.out; omega) _⟩
  | true =>
    rw [chkH_yes hok] at HC
    rw [newH_yes hok]
    clear hok
    simp only [Hy.cs, mkH, nilH] at HX HB HZ HC ⊢
    go_enter Try.func7, Try.ntmps7
    go_wp2_with fail
    rw [HL.out]
    refine (HC.out _).mono ?_
    rintro e w3 ⟨rfl, hb3⟩
    have HX3 := hide (HX.out.keep hb3)
    have HZ3 := hide (HZ.out.keep hb3)
    have HB3 := hide (HB.out.trans (hb3.mono HB.out.size))
    clear hb3 HX HZ HB HC
    go_wp2_with (first
      | (refine wpList_load_blk rfl 28 (.tmp 12) rfl (g + 1) rfl 28 #[.int .i64 b, .int .i64 a, .int .i64 b, .int .i64 lo, .int .i64 hi, .int .i64 q, .int .i64 0] _ HX3.out Try.underlying28 rfl rh_size ?_)
      | (refine wpList_store_blk rfl 28 (.tmp 10) (.tmp 27) rfl g #[.int .i64 b, .int .i64 a, .int .i64 b, .int .i64 lo, .int .i64 hi, .int .i64 q, .int .i64 0] _ 28 rfl rfl HZ3.out rh_size rfl (by simp [Value.oneCell']) ?_))
    exact bodyPost_ret (results_cell_tmp_blk rfl _ _ g 28 #[.int .i64 b, .int .i64 a, .int .i64 b, .int .i64 lo, .int .i64 hi, .int .i64 q, .int .i64 0] _ rfl (HZ3.out.row _) Try.underlying28 rfl rh_size _ rfl) rfl ⟨rfl, below_setRow HB3.out (by have := HL.out; omega) _⟩

set_option maxHeartbeats 1600000 in
theorem hy_Zone (x : Hy) (k : Int) (w : World) : Calls Try.prog 11 #[.agg x.cs, .int .i64 k] w fun e w' => e = .returned (.int .i64 (zonI x k)) ∧ Below w.heap.size w w' := by
  have HB := hide (bel1 w (.cells x.cs 24))
  obtain ⟨l, a, b, lo, hi, q, c⟩ := x
  simp only [Hy.cs] at HB ⊢
  by_cases h1 : hi < k
  · rw [zonI_hi h1]
    have k1 : decide (hi < k) = true := decide_eq_true h1
    go_enter Try.func11, Try.ntmps11
    go_wp2
    go_ret
    exact ⟨rfl, HB.out⟩
  have k1 : decide (hi < k) = false := decide_eq_false h1
  by_cases h2 : k < lo
  · rw [zonI_lo h1 h2]
    have k2 : decide (k < lo) = true := decide_eq_true h2
    go_enter Try.func11, Try.ntmps11
    go_wp2
    go_ret
    exact ⟨rfl, HB.out⟩
  · rw [zonI_mid h1 h2]
    have k2 : decide (k < lo) = false := decide_eq_false h2
    go_enter Try.func11, Try.ntmps11
    go_wp2
    go_ret
    exact ⟨rfl, HB.out⟩
end Go.Proofs.Ytjcibpefbfengaa
