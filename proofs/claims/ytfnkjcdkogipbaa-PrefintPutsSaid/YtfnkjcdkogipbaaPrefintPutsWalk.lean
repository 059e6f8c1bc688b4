/-
  PrefintPuts: its walk: for every first byte, every bits and every number the Go text returns true, and leaves what was there as it was.
-/
import Derived.Test.YtfnkjcdkogipbaaPiAwake
import Derived.OpenShut
namespace Go.Proofs.Ytfnkjcdkogipbaa.prefintPuts
open Go.RowKit Go.ChangeShapes

theorem walk (a0 : Int) (a1 : Int) (a2 : Int) (w : World) (w0 : (Lit.int .u8 a0).wf = true) (w1 : (Lit.int .i64 a1).wf = true) (w2 : (Lit.int .i64 a2).wf = true) :
    Calls Try.prog 3 #[.int .u8 a0, .int .i64 a1, .int .i64 a2] w fun e w' => e = .returned (.bool true) ∧ Below w.heap.size w w' := by
  obtain ⟨h0, h1⟩ := bounds_u8 w0
  have hk := hide (clampN_eq a1)
  clear w0 w1 w2
  go_enter Try.func3, Try.ntmps3
  go_wp2_with fail
  refine (pi_Put_any a0 h0 h1 a1 a2 _).mono ?_
  rintro e w1 ⟨v1, rfl, hown1, hb1⟩
  go_wp2_with fail
  refine (rf_Put_any a0 h0 h1 a1 a2 _).mono ?_
  rintro e w2 ⟨v2, rfl, hown2, hb2⟩
  have s1 := own_string (own_keep hown1 hb2)
  have s2 := own_string hown2
  have HB := hide (hb1.trans (hb2.mono hb1.size))
  clear hb1 hb2 hown1 hown2
  go_wp2_with fail
  refine (pi_Size_any a1 a2 _).mono ?_
  rintro e w' ⟨rfl, rfl⟩
  go_wp2_with fail
  refine (rf_Size_any a1 a2 _).mono ?_
  rintro e w3 ⟨rfl, hb3⟩
  have HB3 := hide hb3
  clear hb3
  go_wp2_with fail
  refine (pi_Rest a0 h0 h1 a1 _ hk.out _).mono ?_
  rintro e w' ⟨rfl, rfl⟩
  go_wp2_with fail
  refine (pi_refRest a0 h0 h1 a1 _ hk.out _).mono ?_
  rintro e w' ⟨rfl, rfl⟩
  go_wp2_with fail
  refine (aw_awake _).mono ?_
  rintro e w4 ⟨rfl, hb4⟩
  have HB4 := hide hb4
  clear hb4
  go_wp2_with fail
  go_ret
  have b12 := HB.out
  have b3 := HB3.out
  have b4 := HB4.out
  exact ⟨rfl, b12.trans ((b3.mono b12.size).trans (b4.mono (Nat.le_trans b12.size b3.size)))⟩

end Go.Proofs.Ytfnkjcdkogipbaa.prefintPuts
