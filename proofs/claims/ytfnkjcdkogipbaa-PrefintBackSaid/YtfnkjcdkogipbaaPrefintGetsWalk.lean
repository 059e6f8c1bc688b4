/-
  PrefintGets: its walk: for every list of bytes and every bits the Go text returns true, and leaves what was there as it was.
-/
import Derived.Test.YtfnkjcdkogipbaaPiAwake
import Derived.OpenShut
namespace Go.Proofs.Ytfnkjcdkogipbaa
open Go.RowKit Go.ChangeShapes

/-- A slice of bytes that came in reads as a list. -/
theorem rb_of_row {w : World} {a : Option Addr} {len cap : Nat} {zs : List Int} (h : IsRow .u8 w a len cap zs) : RB w a len (zs.take len) ∧ len ≤ cap ∧ cap ≤ 9223372036854775807 := by
  rcases h with ⟨rfl, rfl, rfl, rfl⟩ | ⟨x, rfl, hl, hm, hz, hcell, hwz⟩
  · exact ⟨RB.nothing _ _, by omega, by omega⟩
  · refine ⟨⟨by rw [List.length_take]; omega, fun hp => ?_, fun i => ?_⟩, hl, by unfold maxLen at hm; omega⟩
    · obtain ⟨b, off, spot⟩ := x
      have hc := hcell 0 (by omega)
      have hspot : spot = none := by simpa [Addr.add] using World.cell?_spot hc
      subst hspot
      refine ⟨b, off, rfl, ?_, fun i hi => ?_⟩
      · simpa [Addr.add] using World.block_lt_of_cell? w _ hc
      · have := hcell i (by omega)
        rw [Addr.add_lit] at this
        rw [this]
        simp [List.getD, hi]
    · by_cases hi : i < (zs.take len).length
      · have hm : (zs.take len).getD i 0 ∈ zs := by
          simp only [List.getD, List.getElem?_eq_getElem hi, Option.getD_some]
          exact List.mem_of_mem_take (List.getElem_mem hi)
        exact bounds_u8 (hwz _ hm)
      · simp only [List.getD, List.getElem?_eq_none (show (zs.take len).length ≤ i by omega), Option.getD_none]
        omega
end Go.Proofs.Ytfnkjcdkogipbaa
namespace Go.Proofs.Ytfnkjcdkogipbaa.prefintGets
open Go.RowKit Go.ChangeShapes

theorem walk (a0 : Option Addr) (len0 cap0 : Nat) (z0 : List Int) (a1 : Int) (w : World) (w0 : IsRow .u8 w a0 len0 cap0 z0) (w1 : (Lit.int .i64 a1).wf = true) :
    Calls Try.prog 4 #[.slice a0 len0 cap0, .int .i64 a1] w fun e w' => e = .returned (.bool true) ∧ Below w.heap.size w w' := by
  obtain ⟨hr, hl, hc⟩ := rb_of_row w0
  have G1 := pi_Get_any a0 len0 cap0 _ a1 w hr hl hc
  have G2 := rf_Get_any a0 len0 cap0 _ a1 w hr hl hc
  have H1 := hide G1
  have H2 := hide G2
  clear w0 w1 hr G1 G2
  by_cases h100 : (100 : Int) < (len0 : Int)
  · go_enter Try.func4, Try.ntmps4
    go_wp2_with fail
    refine (aw_awake _).mono ?_
    rintro e w4 ⟨rfl, hb4⟩
    have HB4 := hide hb4
    clear hb4
    go_wp2_with fail
    go_ret
    exact ⟨rfl, HB4.out⟩
  · have h100' : (len0 : Int) ≤ 100 := by omega
    clear h100
    go_enter Try.func4, Try.ntmps4
    go_wp2_with fail
    refine H1.out.mono ?_
    rintro e w' ⟨rfl, rfl⟩
    go_wp2_with fail
    refine H2.out.mono ?_
    rintro e w' ⟨rfl, rfl⟩
    go_wp2_with fail
    refine (aw_awake _).mono ?_
    rintro e w4 ⟨rfl, hb4⟩
    have HB4 := hide hb4
    clear hb4
    go_wp2_with fail
    go_ret
    exact ⟨rfl, HB4.out⟩

end Go.Proofs.Ytfnkjcdkogipbaa.prefintGets
