/-
  StaticFinds: its walk: for every name and value the Go text returns true, and leaves what was there as it was.
-/
import Derived.Test.YtiabijmejdodpaaStAwake
namespace Go.Proofs.Ytiabijmejdodpaa.staticFinds
open Go.RowKit Go.Proofs.Ytiabijmejdodpaa

set_option maxRecDepth 100000 in
set_option maxHeartbeats 1600000 in
theorem walk (n v : ByteArray) (w : World) (_w0 : n.size ≤ maxLen) (_w1 : v.size ≤ maxLen) :
    Calls Try.prog 4 #[.string n, .string v] w fun e w' => e = .returned (.bool true) ∧ Below w.heap.size w w' := by
  by_cases hn : (100 : Int) < (n.size : Int)
  · go_enter Try.func4, Try.ntmps4
    go_wp2_with (go_at_call 6; refine (aw_static _).mono ?_; rintro e w7 ⟨rfl, hb7⟩; have HB7 := hide hb7; clear hb7)
    go_ret
    exact ⟨rfl, HB7.out⟩
  · by_cases hv : (100 : Int) < (v.size : Int)
    · go_enter Try.func4, Try.ntmps4
      go_wp2_with (go_at_call 6; refine (aw_static _).mono ?_; rintro e w7 ⟨rfl, hb7⟩; have HB7 := hide hb7; clear hb7)
      go_ret
      exact ⟨rfl, HB7.out⟩
    · go_enter Try.func4, Try.ntmps4
      go_wp2_with fail
      refine (st_Find n v _).mono ?_
      rintro e w1 ⟨r, b, rfl, hf1, hb1⟩
      have F1 := hide hf1
      have B1 := hide hb1
      clear hf1 hb1
      go_wp2_with fail
      refine (rf_Find n v _).mono ?_
      rintro e w2 ⟨r', b', rfl, hf2, hb2⟩
      obtain ⟨rfl, rfl⟩ := F1.out.one hf2
      have B2 := hide (B1.out.trans (hb2.mono B1.out.size))
      clear hf2 hb2
      go_wp2_with (go_at_call 6; refine (aw_static _).mono ?_; rintro e w7 ⟨rfl, hb7⟩; have HB7 := hide (B2.out.trans (hb7.mono B2.out.size)); clear hb7)
      all_goals go_ret
      all_goals exact ⟨rfl, HB7.out⟩
end Go.Proofs.Ytiabijmejdodpaa.staticFinds
