/-
  BucketNew: its walk: for every three numbers the Go text returns true, and leaves what was there as it was.
-/
import Derived.Test.YtpebbeghjealiaaBuAwake
import Derived.Test.YtpebbeghjealiaaBuRef
import Derived.BigGuardPart
namespace Go.Proofs.Ytpebbeghjealiaa.bucketNew
set_option linter.unusedSimpArgs false
set_option linter.unusedVariables false
open Go.RowKit

set_option maxRecDepth 100000 in
set_option maxHeartbeats 3200000 in
theorem walk (a0 a1 a2 : Int) (w : World) (w0 : (Lit.int .i64 a0).wf = true) (w1 : (Lit.int .i64 a1).wf = true) (w2 : (Lit.int .i64 a2).wf = true) :
    Calls Try.prog 3 #[.int .i64 a0, .int .i64 a1, .int .i64 a2] w fun e w' => e = .returned (.bool true) ∧ Below w.heap.size w w' := by
  clear w0 w1 w2
  have N1 := hide (fun w => bu_New a0 a1 a2 w)
  have N2 := hide (fun w => rb_New a0 a1 a2 w)
  have HAW := hide aw_bucket
  generalize newB a0 a1 a2 = b at *
  obtain ⟨⟨u, r, p, l, n⟩, e0⟩ := b
  simp only [Bu.cs] at N1 N2
  go_enter Try.func3, Try.ntmps3
  go_wp2_with fail
  refine (N1.out _).mono ?_
  rintro e w1 ⟨rfl, hb1⟩
  have HB1 := hide (hb1.alloc hb1.size (.cells #[.int .i64 u, .int .i64 r, .int .i64 p, .int .i64 l, .int .i64 n] 23))
  obtain ⟨g, hg⟩ : ∃ g, g = w1.heap.size := ⟨_, rfl⟩
  have HG := hide hg.symm
  have HK := hide (show BlkIs _ g _ _ by rw [hg]; exact BlkIs.new w1 23 #[.int .i64 u, .int .i64 r, .int .i64 p, .int .i64 l, .int .i64 n])
  clear hb1 hg
  go_wp2_with fail
  rw [HG.out]
  generalize w1.alloc (.cells #[.int .i64 u, .int .i64 r, .int .i64 p, .int .i64 l, .int .i64 n] 23) = w2 at *
  refine (N2.out _).mono ?_
  rintro e w3 ⟨rfl, hb3⟩
  have HB3 := hide ((HB1.out.trans (hb3.mono HB1.out.size)).alloc (by have := HB1.out.size; have := hb3.size; omega) (.cells #[.int .i64 u, .int .i64 r, .int .i64 p, .int .i64 l, .int .i64 n] 27))
  have HK3 := hide ((HK.out.keep hb3).alloc (.cells #[.int .i64 u, .int .i64 r, .int .i64 p, .int .i64 l, .int .i64 n] 27))
  clear hb3
  obtain ⟨d0, d1, d2, d3, d4⟩ := cells5 (b := ⟨u, r, p, l, n⟩) HK3.out
  simp only at d0 d1 d2 d3 d4
  go_wp2_with fail
  refine (HAW.out _).mono ?_
  rintro e w4 ⟨rfl, hb4⟩
  have HB4 := hide (HB3.out.trans (hb4.mono HB3.out.size))
  clear hb4
  go_wp2
  go_ret
  exact ⟨rfl, HB4.out⟩
end Go.Proofs.Ytpebbeghjealiaa.bucketNew
