/-
  RequestTexts: its walk.
-/
import Derived.Test.YtlbhnbloanamfaaDoorRqAwake
import Derived.Test.YtlbhnbloanamfaaDoorRqRank2
import Derived.Test.YtlbhnbloanamfaaDoorRqNum
import Derived.Test.YtlbhnbloanamfaaDoorRqTok
import Derived.BigGuardPart
namespace Go.Proofs.YtlbhnbloanamfaaDoor.requestTexts
set_option linter.unusedSimpArgs false
set_option linter.unusedVariables false
open Go.RowKit

set_option maxRecDepth 100000 in
set_option maxHeartbeats 3200000 in
theorem walk (s : ByteArray) (w : World) (ht : TabOk w) (_hz : s.size ≤ maxLen) :
    Calls Tryd.prog 4 #[.string s] w fun e w' => e = .returned (.bool true) ∧ Below w.heap.size w w' := by
  have HT := hide ht
  clear ht
  by_cases hs : (s.size : Int) ≤ 200
  · have hs' : ¬ (200 : Int) < (s.size : Int) := by omega
    have HN := hide (fun w => rq_Number s (by omega) w)
    have HM := hide (fun w => rg_Number s (by omega) w)
    have HK := hide (fun w => rq_Token s (by omega) w)
    have HL := hide (fun w => rg_Token s (by omega) w)
    have HR := hide (fun w => rq_Rank s (by omega) w)
    have HU := hide (fun w => rg_Rank s (by omega) w)
    go_enter Tryd.func4, Tryd.ntmps4
    unfold numEnd at HN HM
    generalize numI s = n at HN HM
    generalize numB s = b at HN HM
    generalize tokB s = t at HK HL
    generalize rankI s = r at HR HU
    clear hs
    go_wp2_with fail
    refine (HN.out _).mono ?_
    rintro e w1 ⟨rfl, hb1⟩
    have HB1 := hide hb1
    clear hb1 HN
    go_wp2_with fail
    refine (HM.out _).mono ?_
    rintro e w2 ⟨rfl, rfl⟩
    clear HM
    go_wp2_with fail
    refine (HK.out _).mono ?_
    rintro e w2 ⟨rfl, hb⟩
    have HB2 := hide (HB1.out.trans (hb.mono HB1.out.size))
    clear hb HB1 HK
    go_wp2_with fail
    refine (HL.out _).mono ?_
    rintro e w3 ⟨rfl, rfl⟩
    clear HL
    go_wp2_with fail
    refine (HR.out _).mono ?_
    rintro e w3 ⟨rfl, hb⟩
    have HB3 := hide (HB2.out.trans (hb.mono HB2.out.size))
    clear hb HB2 HR
    go_wp2_with fail
    refine (HU.out _).mono ?_
    rintro e w4 ⟨rfl, rfl⟩
    clear HU
    go_wp2_with fail
    refine (aw_awake _ (HT.out.keep HB3.out)).mono ?_
    rintro e w4 ⟨rfl, hb⟩
    have HB4 := hide (HB3.out.trans (hb.mono HB3.out.size))
    clear hb HB3
    go_wp2_with fail
    go_ret
    exact ⟨rfl, HB4.out⟩
  · have hs' : (200 : Int) < (s.size : Int) := by omega
    clear hs
    go_enter Tryd.func4, Tryd.ntmps4
    go_wp2_with fail
    refine (aw_awake _ HT.out).mono ?_
    rintro e w4 ⟨rfl, hb⟩
    have HB4 := hide hb
    clear hb
    go_wp2_with fail
    go_ret
    exact ⟨rfl, HB4.out⟩
end Go.Proofs.YtlbhnbloanamfaaDoor.requestTexts
