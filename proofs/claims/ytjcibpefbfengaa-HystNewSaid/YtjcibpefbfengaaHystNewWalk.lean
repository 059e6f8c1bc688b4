/-
  HystNew: its walk: for every five numbers the Go text returns true, and leaves what was there as it was.
-/
import Derived.Test.YtjcibpefbfengaaHyAwake
import Derived.BigGuardPart
namespace Go.Proofs.Ytjcibpefbfengaa.hystNew
set_option linter.unusedSimpArgs false
set_option linter.unusedVariables false
open Go.RowKit

set_option maxRecDepth 100000 in
set_option maxHeartbeats 3200000 in
theorem walk (l0 : List Int) (hl0 : l0.length = 5) (w0 : ∀ a ∈ l0, (Lit.int .i64 a).wf = true) (w : World) :
    Calls Try.prog 3 #[.agg (l0.map (Value.int .i64)).toArray] w fun e w' => e = .returned (.bool true) ∧ Below w.heap.size w w' := by
  clear w0
  match l0, hl0 with
  | [a, b, lo, hi, q], _ =>
    simp only [List.map_cons, List.map_nil]
    have N1 := hide (fun w => hy_New a b lo hi q w)
    have N2 := hide (fun w => rh_New a b lo hi q w)
    have HAW := hide aw_hyst
    generalize newH a b lo hi q = n at *
    obtain ⟨x, e0⟩ := n
    obtain ⟨g, hg⟩ : ∃ g, g = w.heap.size := ⟨_, rfl⟩
    have HL := hide hg.symm
    have HA := hide (show BlkIs (w.alloc (.cells #[.int .i64 a, .int .i64 b, .int .i64 lo, .int .i64 hi, .int .i64 q] 22)) g 22 #[.int .i64 a, .int .i64 b, .int .i64 lo, .int .i64 hi, .int .i64 q] by rw [hg]; exact BlkIs.new w _ _)
    have HB := hide (bel1 w (.cells #[.int .i64 a, .int .i64 b, .int .i64 lo, .int .i64 hi, .int .i64 q] 22))
    clear hg
    go_enter Try.func3, Try.ntmps3
    go_upto_region 1 with (fail)
    rw [HL.out]
    generalize w.alloc (.cells #[.int .i64 a, .int .i64 b, .int .i64 lo, .int .i64 hi, .int .i64 q] 22) = w1 at *
    have k0 := (HA.out.cell 0).trans (show _ = some (Value.int .i64 a) from rfl)
    have k1 := (HA.out.cell 1).trans (show _ = some (Value.int .i64 b) from rfl)
    have k2 := (HA.out.cell 2).trans (show _ = some (Value.int .i64 lo) from rfl)
    have k3 := (HA.out.cell 3).trans (show _ = some (Value.int .i64 hi) from rfl)
    have k4 := (HA.out.cell 4).trans (show _ = some (Value.int .i64 q) from rfl)
    go_wp2_with fail
    refine (N1.out _).mono ?_
    rintro e w2 ⟨rfl, hb2⟩
    have HA2 := hide ((HA.out.keep hb2).alloc (.cells x.cs 24))
    have HB2 := hide ((HB.out.trans (hb2.mono HB.out.size)).alloc (by have := HB.out.size; have := hb2.size; omega) (.cells x.cs 24))
    obtain ⟨gx, hgx⟩ : ∃ gx, gx = w2.heap.size := ⟨_, rfl⟩
    have HGX := hide hgx.symm
    have HX2 := hide (show BlkIs _ gx _ _ by rw [hgx]; exact BlkIs.new w2 24 x.cs)
    clear hb2 hgx HA HB k0 k1 k2 k3 k4
    go_upto_region 2 with (refine wpList_store_new rfl 24 (.tmp 3) (.tmp 19) rfl x.cs _ 24 rfl rfl hy_size rfl (Hy.cs_one x) ?_)
    rw [HGX.out]
    generalize w2.alloc (.cells x.cs 24) = w3 at *
    have k0 := (HA2.out.cell 0).trans (show _ = some (Value.int .i64 a) from rfl)
    have k1 := (HA2.out.cell 1).trans (show _ = some (Value.int .i64 b) from rfl)
    have k2 := (HA2.out.cell 2).trans (show _ = some (Value.int .i64 lo) from rfl)
    have k3 := (HA2.out.cell 3).trans (show _ = some (Value.int .i64 hi) from rfl)
    have k4 := (HA2.out.cell 4).trans (show _ = some (Value.int .i64 q) from rfl)
    go_wp2_with fail
    refine (N2.out _).mono ?_
    rintro e w4 ⟨rfl, hb4⟩
    have HX4 := hide ((HX2.out.keep hb4).alloc (.cells x.cs 28))
    have HB4 := hide ((HB2.out.trans (hb4.mono HB2.out.size)).alloc (by have := HB2.out.size; have := hb4.size; omega) (.cells x.cs 28))
    obtain ⟨gy, hgy⟩ : ∃ gy, gy = w4.heap.size := ⟨_, rfl⟩
    have HGY := hide hgy.symm
    have HY4 := hide (show BlkIs _ gy _ _ by rw [hgy]; exact BlkIs.new w4 28 x.cs)
    clear hb4 hgy HA2 HB2 HX2 k0 k1 k2 k3 k4
    go_upto_region 3 with (refine wpList_store_new rfl 28 (.tmp 5) (.tmp 33) rfl x.cs _ 28 rfl rfl rh_size rfl (Hy.cs_one x) ?_)
    rw [HGY.out]
    generalize w4.alloc (.cells x.cs 28) = w5 at *
    obtain ⟨p0, p1, p2, p3, p4, p5, p6⟩ := cells7 HX4.out
    obtain ⟨q0, q1, q2, q3, q4, q5, q6⟩ := cells7 HY4.out
    go_wp2_with fail
    refine (HAW.out _).mono ?_
    rintro e w6 ⟨rfl, hb6⟩
    have HB6 := hide (HB4.out.trans (hb6.mono HB4.out.size))
    clear hb6
    go_wp2
    go_ret
    exact ⟨rfl, HB6.out⟩
end Go.Proofs.Ytjcibpefbfengaa.hystNew
