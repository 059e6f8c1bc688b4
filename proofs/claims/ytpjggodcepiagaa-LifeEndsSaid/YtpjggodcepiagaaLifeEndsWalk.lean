/-
  LifeEnds: its walk (written by gen16ends.py).
-/
import Derived.Test.YtpjggodcepiagaaLfAwake
import Derived.Test.YtpjggodcepiagaaLfMem
import Derived.Test.YtpjggodcepiagaaLifeEndsMath
import Derived.Test.YtpjggodcepiagaaRegW
import Derived.BigGuardPart
import Derived.Deep.CutRange
namespace Go.Proofs.Ytpjggodcepiagaa.lifeEnds
set_option linter.unusedSimpArgs false
set_option linter.unusedVariables false
open Go.RowKit

set_option maxRecDepth 100000 in
set_option maxHeartbeats 6400000 in
theorem walk_at (A : Option Addr) (m cp : Nat) (l : List Ev) (w : World) (hl : EL w A m cp l) (ha : AllE l) :
    Calls Try.prog 5 #[.slice A m cp] w fun e w' => e = .returned (.bool true) ∧ Below w.heap.size w w' := by
  have HAW := hide (fun w => aw_life w)
  have HL := hide hl
  by_cases hm : (m : Int) ≤ 60
  · have hm' : ¬ (60 : Int) < (m : Int) := by omega
    have HALL := hide ha
    have HM := hide hm
    clear hl ha
    go_enter Try.func5, Try.ntmps5
    go_wp2_with fail
    go_loopw [3, 4, 5, 6] (fun s3 s4 s5 s6 wr => ∃ (i : Nat) (s : Int) (th ou : Bool), i ≤ m ∧ s6 = .int .i64 (i : Int) ∧ s3 = .int .u8 s ∧ s4 = .bool th ∧ s5 = .bool ou ∧ Hid (0 ≤ s ∧ s ≤ 5 ∧ invB s th ou = true) ∧ Below w.heap.size w wr) (fun _ _ _ s6 _ => m - (intOf s6).toNat)
    case atStart => exact ⟨0, 0, false, false, by omega, rfl, rfl, rfl, rfl, hide ⟨by omega, by omega, rfl⟩, Below.refl _ _⟩
    case round =>
      obtain ⟨i, s, th, ou, hi, rfl, rfl, rfl, rfl, HI, hb⟩ := hrel
      have HB := hide hb
      have HLr := hide (HL.out.keep hb)
      clear hb
      by_cases hlt : i < m
      · have hlt' : (i : Int) < (m : Int) := by omega
        obtain ⟨x, bk, off, hx, rfl, hbl, c0, c1⟩ := HLr.out.round hlt
        have hxk : 0 ≤ x.k := (HALL.out x (List.mem_of_getElem? hx)).1
        obtain ⟨k, hk⟩ : ∃ k : Int, k = x.k % 8 := ⟨_, rfl⟩
        have HK := hide (show 0 ≤ k ∧ k ≤ 7 by omega)
        have hkt : x.k.tmod 8 = k := by rw [Int.tmod_eq_emod_of_nonneg hxk, hk]
        have hkw : IntKind.u8.wrap k = k := by rw [IntKind.wrap_u8]; omega
        clear hx hk
        go_upto_region 8 with (fail)
        go_region
        clear hxk hkt hkw c0 c1 hbl
        obtain ⟨b, hxb⟩ : ∃ b, b = x.b := ⟨_, rfl⟩
        rw [← hxb]
        clear hxb
        have HEz := hide (show BlkIs (wr.alloc (.cells #[.int .u8 k, .bool b] 30)).drew wr.heap.size 30 #[.int .u8 k, .bool b] from (BlkIs.new wr 30 #[.int .u8 k, .bool b]).drew)
        have HBz := hide ((HB.out.alloc HB.out.size (.cells #[.int .u8 k, .bool b] 30)).drew)
        obtain ⟨ze, hze⟩ : ∃ ze, ze = wr.heap.size := ⟨_, rfl⟩
        rw [← hze] at HEz ⊢
        generalize (wr.alloc (.cells #[.int .u8 k, .bool b] 30)).drew = wz at HEz HBz ⊢
        clear hze HB HLr
        have HS := hide (fun w => lf_Step s k b w)
        have HF := hide (ends_fine b HI.out.1 HI.out.2.1 HK.out.1 HK.out.2 HI.out.2.2)
        have HW := hide (step_wf (b := b) HI.out.1 HK.out.1)
        have HO := hide (fun w => lf_Over s w)
        generalize stepR s k b = r at *
        obtain ⟨s', c, n, d⟩ := r
        have HTh := hide (show thB k b ⟨s', c, n, d⟩ th = (th || (txB k && cnB ⟨s', c, n, d⟩ && b)) from rfl)
        have HOu := hide (show ouB k b ⟨s', c, n, d⟩ ou = (ou || (mnB k && cnB ⟨s', c, n, d⟩ && b)) from rfl)
        generalize thB k b ⟨s', c, n, d⟩ th = th' at *
        generalize ouB k b ⟨s', c, n, d⟩ ou = ou' at *
        have x0 := HEz.out.cell 0
        have x1 := HEz.out.cell 1
        simp only [List.getElem?_toArray, List.getElem?_cons_zero, List.getElem?_cons_succ] at x0 x1
        go_wp2_with fail
        refine (HS.out _).mono ?_
        rintro e w2 ⟨rfl, hb⟩
        have HE2 := hide ((HEz.out.keep hb).alloc (.cells #[.int .u32 c, .bool n, .bool d] 27))
        have HB2 := hide ((HBz.out.trans (hb.mono HBz.out.size)).alloc (HBz.out.trans (hb.mono HBz.out.size)).size (.cells #[.int .u32 c, .bool n, .bool d] 27))
        have HV2 := hide (BlkIs.new w2 27 #[.int .u32 c, .bool n, .bool d])
        clear hb HEz HBz HS x0 x1
        go_upto_region 11 with (fail)
        obtain ⟨zv, hzv⟩ : ∃ zv, zv = w2.heap.size := ⟨_, rfl⟩
        rw [← hzv] at HV2 ⊢
        generalize w2.alloc (.cells #[.int .u32 c, .bool n, .bool d] 27) = W at HE2 HB2 HV2 ⊢
        clear hzv
        have x0 := HE2.out.cell 0
        have x1 := HE2.out.cell 1
        have v0 := HV2.out.cell 0
        have v1 := HV2.out.cell 1
        have v2 := HV2.out.cell 2
        simp only [List.getElem?_toArray, List.getElem?_cons_zero, List.getElem?_cons_succ] at x0 x1 v0 v1 v2
        clear HE2 HV2
        go_upto_region 12 with (fail)
        obtain ⟨cn, hcn⟩ : ∃ cn, cn = cnB ⟨s', c, n, d⟩ := ⟨_, rfl⟩
        have HCn := hide hcn
        clear hcn
        obtain ⟨tx, htx⟩ : ∃ tx, tx = txB k := ⟨_, rfl⟩
        have HTx := hide htx
        clear htx
        obtain ⟨mn, hmn⟩ : ∃ mn, mn = mnB k := ⟨_, rfl⟩
        have HMn := hide hmn
        clear hmn
        go_cut [11] from 28 to 46 (fun s11 wx => s11 = .bool cn ∧ wx = W)
        case first =>
          clear HAW HL HALL HI HF HW HO HTh HOu HB2 x0 x1 HK HTx HMn
          go_wp2_with fail
          all_goals (go_meet; exact ⟨by have := HCn.out; simp_all [cnB], rfl⟩)
        case rest =>
          obtain ⟨rfl, hw⟩ := hcut
          obtain rfl := hw.symm
          go_upto_region 13 with (fail)
          go_cut [12] from 47 to 54 (fun s12 wx => s12 = .bool tx ∧ wx = W)
          case first =>
            clear HAW HL HALL HI HF HW HO HTh HOu HB2 HCn HK HMn v0 v1 v2
            go_wp2_with fail
            all_goals (go_meet; exact ⟨by have := HTx.out; simp_all [txB], rfl⟩)
          case rest =>
            obtain ⟨rfl, hw⟩ := hcut
            obtain rfl := hw.symm
            go_upto_region 14 with (fail)
            go_cut [13] from 55 to 62 (fun s13 wx => s13 = .bool mn ∧ wx = W)
            case first =>
              clear HAW HL HALL HI HF HW HO HTh HOu HB2 HCn HK HTx v0 v1 v2
              go_wp2_with fail
              all_goals (go_meet; exact ⟨by have := HMn.out; simp_all [mnB], rfl⟩)
            case rest =>
              obtain ⟨rfl, hw⟩ := hcut
              obtain rfl := hw.symm
              have hA := HF.out.1
              unfold badA at hA
              rw [← HTx.out, ← HMn.out, ← HCn.out] at hA
              have HTM := hide (show (tx && mn) = false by rw [HTx.out, HMn.out]; exact tx_mn k)
              simp only at hA
              rw [← HCn.out, ← HTx.out] at HTh
              rw [← HCn.out, ← HMn.out] at HOu
              have hO2 := fun w => lf_Over s' w
              have HTK := hide (fun w => lf_Takes s' w)
              have HSD := hide (fun w => lf_Sends s' w)
              have HO2 := hide hO2
              have HBB := hide HF.out.2.1
              have HCC := hide HF.out.2.2.1
              have HII := hide HF.out.2.2.2
              have HSS := hide (show 0 ≤ s' ∧ s' ≤ 5 by have h1 := HW.out.1; have h2 := HW.out.2.1; have h3 := HI.out.2.1; (try simp only at h1 h2); omega)
              clear hO2 HF HI HW
              generalize ovB s = o at HO hA
              have HA := hide hA
              clear hA
              go_upto_region 15 with (fail)
              go_cut [99] from 63 to 98 (fun s99 wx => s99 = .bool false ∧ wx = W)
              case first =>
                obtain ⟨ha1, ha2⟩ := waysA _ _ _ _ _ _ _ _ HA.out HTM.out
                clear HAW HL HALL HTh HOu HB2 HCn HTx HMn HK HA HTM HTK HSD HO2 HBB HCC HII HSS v0 v1 v2 x0 x1
                rcases ha1 with rfl | ⟨rfl, hne⟩ <;> rcases ha2 with ⟨rfl, rfl⟩ | ⟨rfl, rfl, rfl⟩ | ⟨rfl, rfl, rfl, ho, rfl⟩ | ⟨rfl, rfl, rfl⟩ | ⟨rfl, rfl, rfl, ho, rfl, hz⟩
                all_goals (first | (cases ho; done) | (clear ho) | skip)
                all_goals (
                  go_wp2_with (first | (go_at_call 12; refine (HO.out _).mono ?_; rintro e w4 ⟨rfl, rfl⟩))
                  go_meet
                  exact ⟨rfl, rfl⟩)
              case rest =>
                obtain ⟨rfl, hw⟩ := hcut
                obtain rfl := hw.symm
                go_upto_region 17 with (fail)
                go_cut [116] from 100 to 115 (fun s116 wx => s116 = .bool false ∧ wx = W)
                case first =>
                  have hB := HBB.out
                  unfold badB at hB
                  simp only at hB
                  clear HAW HL HALL HTh HOu HB2 HCn HTx HMn HK HA HTM HTK HSD HO2 HBB HCC HII HSS HO x1
                  rcases waysB _ _ _ _ hB with hp | ⟨hp, rfl⟩ | ⟨hp, rfl, hj⟩ | ⟨hp, rfl, hj, hq⟩
                  all_goals (
                    clear hB
                    go_wp2_with fail
                    go_meet
                    exact ⟨rfl, rfl⟩)
                case rest =>
                  obtain ⟨rfl, hw⟩ := hcut
                  obtain rfl := hw.symm
                  go_upto_region 19 with (fail)
                  go_cut [4] from 117 to 127 (fun s4 wx => s4 = .bool th' ∧ wx = W)
                  case first =>
                    have hT := HTh.out
                    clear HAW HL HALL HTh HOu HB2 HCn HTx HMn HK HA HTM HTK HSD HO2 HBB HCC HII HSS HO x0 v0 v1 v2
                    cases th <;> cases tx <;> cases cn
                    all_goals (
                      obtain rfl := hT
                      go_wp2_with fail
                      go_meet
                      exact ⟨rfl, rfl⟩)
                  case rest =>
                    obtain ⟨rfl, hw⟩ := hcut
                    obtain rfl := hw.symm
                    go_upto_region 20 with (fail)
                    go_cut [5] from 128 to 138 (fun s5 wx => s5 = .bool ou' ∧ wx = W)
                    case first =>
                      have hT := HOu.out
                      clear HAW HL HALL HTh HOu HB2 HCn HTx HMn HK HA HTM HTK HSD HO2 HBB HCC HII HSS HO x0 v0 v1 v2
                      cases ou <;> cases mn <;> cases cn
                      all_goals (
                        obtain rfl := hT
                        go_wp2_with fail
                        go_meet
                        exact ⟨rfl, rfl⟩)
                    case rest =>
                      obtain ⟨rfl, hw⟩ := hcut
                      obtain rfl := hw.symm
                      go_upto_region 21 with (fail)
                      go_cut [157] from 139 to 156 (fun s157 wx => s157 = .bool false ∧ wx = W)
                      case first =>
                        have hC := HCC.out
                        unfold badC at hC
                        simp only at hC
                        clear HAW HL HALL HTh HOu HB2 HCn HTx HMn HK HA HTM HBB HCC HII HSS HO x0 x1 v0 v1 v2
                        generalize ovB s' = o2 at HO2 hC
                        generalize tkB s' = t2 at HTK hC
                        generalize sdB s' = d2 at HSD hC
                        rcases waysC _ _ _ _ hC with rfl | ⟨rfl, hz⟩ | ⟨rfl, hz, hp, hq⟩
                        all_goals (
                          clear hC
                          go_wp2_with (first | (go_at_call 12; refine (HO2.out _).mono ?_; rintro e w4 ⟨rfl, rfl⟩) | (go_at_call 10; refine (HTK.out _).mono ?_; rintro e w4 ⟨rfl, rfl⟩) | (go_at_call 11; refine (HSD.out _).mono ?_; rintro e w4 ⟨rfl, rfl⟩))
                          go_meet
                          exact ⟨rfl, rfl⟩)
                      case rest =>
                        obtain ⟨rfl, hw⟩ := hcut
                        obtain rfl := hw.symm
                        cases n
                        · go_wp2_with fail
                          go_roundw
                          case rel => have hm2 := HM.out; exact ⟨i + 1, s', th', ou', by omega, by go_num, rfl, rfl, rfl, hide ⟨HSS.out.1, HSS.out.2, HII.out⟩, HB2.out⟩
                          case measure => have hm2 := HM.out; simp [intOf]; omega
                        · go_wp2_with fail
                          refine (HAW.out _).mono ?_
                          rintro e w4 ⟨rfl, hb4⟩
                          have HB4 := hide (HB2.out.trans (hb4.mono HB2.out.size))
                          clear hb4
                          go_wp2
                          go_ret
                          exact ⟨rfl, HB4.out⟩
      · have hge : ¬ (i : Int) < (m : Int) := by omega
        go_wp2_with fail
        refine (HAW.out _).mono ?_
        rintro e w4 ⟨rfl, hb4⟩
        have HB4 := hide (HB.out.trans (hb4.mono HB.out.size))
        clear hb4
        go_wp2
        go_ret
        exact ⟨rfl, HB4.out⟩
  · have hm' : (60 : Int) < (m : Int) := by omega
    clear hl ha
    go_enter Try.func5, Try.ntmps5
    go_wp2_with fail
    refine (HAW.out _).mono ?_
    rintro e w4 ⟨rfl, hb4⟩
    have HB4 := hide hb4
    clear hb4
    go_wp2
    go_ret
    exact ⟨rfl, HB4.out⟩
theorem walk (A : Option Addr) (m cp : Nat) (l : List Ev) (w : World) (hl : EL w A m cp l) (ha : AllE l) :
    Calls Try.prog 5 #[.slice A m cp] w fun e w' => e = .returned (.bool true) ∧ Below w.heap.size w w' := walk_at A m cp l w hl ha
end Go.Proofs.Ytpjggodcepiagaa.lifeEnds
