/-
  BucketBound: its walk.
-/
import Derived.Test.YtpebbeghjealiaaBucketBoundMath
import Derived.Test.YtpebbeghjealiaaBuAwake
import Derived.Test.YtpebbeghjealiaaNumRow
import Derived.BigGuardPart
import Derived.Deep.QuietTactic
import Derived.BigQuiet
import Derived.Deep.CutRange
import Derived.Deep.DeepCutAuto
namespace Go.Proofs.Ytpebbeghjealiaa.bucketBound
set_option linter.unusedSimpArgs false
set_option linter.unusedVariables false
open Go.RowKit

/-- What the walk knows of memory: the argument's block, the bucket's variable, the row of ticks. -/
structure BS (w : World) (g : Nat) (c0 : Bu) (wr : World) (x : Bu) (v : Value) (T : List Int) : Prop where
  rf : BlkIs wr g 27 c0.cs
  x : BlkIs wr (g + 1) 23 x.cs
  own : wr.ownsRow (g + 2) 3 1 v T.length (ncs T)
  bel : Below g w wr
section
variable {w wr wr' : World} {g : Nat} {c0 x : Bu} {v : Value} {T : List Int}
theorem BS.keep (h : BS w g c0 wr x v T) (hb : Below wr.heap.size wr wr') : BS w g c0 wr' x v T :=
  ⟨h.rf.keep hb, h.x.keep hb, own_low h.own hb, h.bel.trans (hb.mono (Nat.le_of_lt h.rf.lt))⟩
theorem BS.grown (h : BS w g c0 wr x v T) (hg : wr.grownBy wr' v.ownBlock) {v' : Value} {T' : List Int} (ho : wr'.ownsRow (g + 2) 3 1 v' T'.length (ncs T')) (hw : w.heap.size = g) : BS w g c0 wr' x v' T' :=
  ⟨blk_grown h.rf hg (own_apartx h.own h.rf (by decide)), blk_grown h.x hg (own_apartx h.own h.x (by decide)), ho, own_bel h.own h.bel (by omega) (by omega) hg⟩
theorem BS.put (h : BS w g c0 wr x v T) (y : Bu) : BS w g c0 (wr.setRow (g + 1) y.cs) y v T :=
  ⟨h.rf.row_other (by omega) _, h.x.row _, own_kbx h.own ((KB.refl (· = g + 1) wr).setRow (fun _ => rfl) _) (own_apartx h.own h.x (by decide)), below_setRow h.bel (by omega) _⟩
end
/-- What stands of the numbers at the head of round i. -/
structure IS (u r p n : Int) (T : List Int) (now L : Int) (i : Nat) : Prop where
  inv : Inv u r p T now L
  ok : (Bu.mk u r p L now).Ok
  le : now ≤ n + 65535 * i
  len : T.length ≤ i

set_option maxRecDepth 100000 in
set_option maxHeartbeats 6400000 in
theorem walk_at (u r p l n : Int) (A : Option Addr) (N c : Nat) (G : List Int) (w : World) (hl : NL .u16 w A N c G) :
    Calls Try.prog 4 #[.agg #[.int .i64 u, .int .i64 r, .int .i64 p, .int .i64 l, .int .i64 n], .slice A N c] w fun e w' => e = .returned (.bool true) ∧ Below w.heap.size w w' := by
  have HAW := hide aw_bucket
  have HCK := hide (fun w => bu_Check ⟨u, r, p, l, n⟩ w)
  obtain ⟨g, hg⟩ : ∃ g, g = w.heap.size := ⟨_, rfl⟩
  have HL := hide hg.symm
  obtain ⟨W, hW⟩ : ∃ W, (w.alloc (.cells #[.int .i64 u, .int .i64 r, .int .i64 p, .int .i64 l, .int .i64 n] 27)).alloc (.cells #[.int .i64 u, .int .i64 r, .int .i64 p, .int .i64 l, .int .i64 n] 23) = W := ⟨_, rfl⟩
  have HB := hide (show Below w.heap.size w W by rw [← hW]; exact bel2 w _ _)
  have HR := hide (show BlkIs W g 27 #[.int .i64 u, .int .i64 r, .int .i64 p, .int .i64 l, .int .i64 n] by rw [← hW, hg]; exact (BlkIs.new w _ _).alloc _)
  have HX := hide (show BlkIs W (g + 1) 23 #[.int .i64 u, .int .i64 r, .int .i64 p, .int .i64 l, .int .i64 n] by rw [← hW, hg]; exact new2 w _ _ _)
  have HW := hide hW
  have HG := hide hl
  clear hg hW hl
  by_cases hN : 60 < (N : Int)
  · go_enter Try.func4, Try.ntmps4
    go_wp2_with fail
    rw [HL.out]
    rw [HW.out]
    refine (HAW.out _).mono ?_
    rintro e w9 ⟨rfl, hb⟩
    have HB9 := hide (HB.out.trans (hb.mono HB.out.size))
    clear hb
    go_wp2
    go_ret
    exact ⟨rfl, HB9.out⟩
  · have hN' : decide (60 < (N : Int)) = false := by rw [decide_eq_false_iff_not]; exact hN
    have hN6 : N ≤ 60 := by omega
    clear hN
    cases hok : okB ⟨u, r, p, l, n⟩ with
    | false =>
      rw [chkB_no hok] at HCK
      clear hok
      go_enter Try.func4, Try.ntmps4
      go_wp2_with fail
      rw [HL.out]
      rw [HW.out]
      refine (HCK.out _).mono ?_
      rintro e W1 ⟨rfl, hb⟩
      have HX1 := hide (HX.out.keep hb)
      have HR1 := hide (HR.out.keep hb)
      have HB1 := hide (HB.out.trans (hb.mono HB.out.size))
      clear hb HX HR HB
      obtain ⟨x0, x1, x2, x3, x4⟩ := cells5 (b := ⟨u, r, p, l, n⟩) HX1.out
      simp only at x0 x1 x2 x3 x4
      have HX := hide HX1.out
      have HR := hide HR1.out
      have HB := hide HB1.out
      clear HX1 HR1 HB1
      go_wp2_with fail
      refine (HAW.out _).mono ?_
      rintro e w9 ⟨rfl, hb⟩
      have HB9 := hide (HB.out.trans (hb.mono HB.out.size))
      clear hb
      go_wp2
      go_ret
      exact ⟨rfl, HB9.out⟩
    | true =>
      rw [chkB_yes hok] at HCK
      by_cases hn : 1073741824 < n
      · clear hok
        go_enter Try.func4, Try.ntmps4
        go_wp2_with fail
        rw [HL.out]
        rw [HW.out]
        refine (HCK.out _).mono ?_
        rintro e W1 ⟨rfl, hb⟩
        have HX1 := hide (HX.out.keep hb)
        have HR1 := hide (HR.out.keep hb)
        have HB1 := hide (HB.out.trans (hb.mono HB.out.size))
        clear hb HX HR HB
        obtain ⟨x0, x1, x2, x3, x4⟩ := cells5 (b := ⟨u, r, p, l, n⟩) HX1.out
        simp only at x0 x1 x2 x3 x4
        have HX := hide HX1.out
        have HR := hide HR1.out
        have HB := hide HB1.out
        clear HX1 HR1 HB1
        go_wp2_with fail
        refine (HAW.out _).mono ?_
        rintro e w9 ⟨rfl, hb⟩
        have HB9 := hide (HB.out.trans (hb.mono HB.out.size))
        clear hb
        go_wp2
        go_ret
        exact ⟨rfl, HB9.out⟩
      · have ho := okB_iff.1 hok
        have HO := hide ho
        have hnn : decide (1073741824 < n) = false := by rw [decide_eq_false_iff_not]; exact hn
        have hn1 : n ≤ 1073741824 := by omega
        have HN1 := hide hn1
        have HI0 := hide (show IS u r p n [] n l 0 from ⟨inv_nil _ _ _ _ _, ho, by omega, Nat.le_refl _⟩)
        clear hn hok ho hn1
        go_enter Try.func4, Try.ntmps4
        go_wp2_with fail
        rw [HL.out]
        rw [HW.out]
        refine (HCK.out _).mono ?_
        rintro e W1 ⟨rfl, hb⟩
        have HX1 := hide (HX.out.keep hb)
        have HR1 := hide (HR.out.keep hb)
        have HB1 := hide (HB.out.trans (hb.mono HB.out.size))
        clear hb HX HR HB
        obtain ⟨x0, x1, x2, x3, x4⟩ := cells5 (b := ⟨u, r, p, l, n⟩) HX1.out
        simp only at x0 x1 x2 x3 x4
        have HX := hide HX1.out
        have HR := hide HR1.out
        have HB := hide HB1.out
        clear HX1 HR1 HB1
        have HS0 := hide (show BS w g ⟨u, r, p, l, n⟩ W1 ⟨u, r, p, l, n⟩ (.slice none 0 0) [] from ⟨HR.out, HX.out, ⟨rfl, .inl ⟨rfl, rfl⟩⟩, HL.out ▸ HB.out⟩)
        clear HX HR HB
        go_wp2_with fail
        go_loopw [6, 7, 8] (fun s6 s7 s8 wr => ∃ (i : Nat) (T : List Int) (L now : Int) (A6 : Option Addr) (c6 : Nat), i ≤ N ∧ s8 = .int .i64 (i : Int) ∧ s7 = .int .i64 now ∧ s6 = .slice A6 T.length c6 ∧ Hid (BS w g ⟨u, r, p, l, n⟩ wr ⟨u, r, p, L, now⟩ (.slice A6 T.length c6) T) ∧ Hid (IS u r p n T now L i)) (fun _ _ s8 _ => N - (intOf s8).toNat)
        case atStart => exact ⟨0, [], l, n, none, 0, by omega, rfl, rfl, rfl, HS0.out, HI0.out⟩
        case round =>
          clear HS0 HI0 x0 x1 x2 x3 x4
          obtain ⟨i, T, L, now, A6, c6, hi, rfl, rfl, rfl, HS, HI⟩ := hrel
          by_cases hlt : i < N
          · have hlt' : (i : Int) < (N : Int) := by omega
            obtain ⟨d, b, off, hx, rfl, hbl, c0, hdw⟩ := HG.out.round hlt
            obtain ⟨d0, d1⟩ := bounds_u16 hdw
            have e0 := (HS.out.bel.cell (p := ⟨b, off + i, none⟩) (by rw [← HL.out]; exact hbl)).trans c0
            obtain ⟨L2, is, ht, hk2, hv2⟩ := try_ HI.out.ok HI.out.inv d0 (by have := HI.out.le; have := HN1.out; omega)
            have hnow0 : 0 ≤ now := HI.out.ok.2.2.2.2.2.2.1
            have hnow1 : now ≤ 2000000000 := by have := HI.out.le; have := HN1.out; omega
            have QT := hide (fun w => bu_Take ⟨u, r, p, L, now⟩ (now + d) w)
            rw [ht] at QT
            have QC := hide (fun w => bu_Check ⟨u, r, p, L2, now + d⟩ w)
            rw [chkB_yes (okB_iff.2 hk2)] at QC
            have HLE := hide (show now + d ≤ n + 65535 * ((i + 1 : Nat) : Int) by have := HI.out.le; omega)
            have HLN := hide HI.out.len
            have HK2 := hide hk2
            have HV2 := hide hv2
            have hi6 : i ≤ 60 := by omega
            have HBLK := hide hbl
            clear ht hk2 hv2 hx hdw c0 hbl HI
            simp only [Bu.cs] at QT QC
            obtain ⟨x0, x1, x2, x3, x4⟩ := cells5 (b := ⟨u, r, p, L, now⟩) HS.out.x
            simp only at x0 x1 x2 x3 x4
            go_wp2_with fail
            refine (QT.out _).mono ?_
            rintro e w2 ⟨rfl, hb2⟩
            obtain ⟨gy, hgy⟩ : ∃ gy, gy = w2.heap.size := ⟨_, rfl⟩
            have HS2 := hide ((HS.out.keep hb2).keep (bel1 w2 (.cells #[.int .i64 u, .int .i64 r, .int .i64 p, .int .i64 L2, .int .i64 (now + d)] 23)))
            have HY2 := hide (show BlkIs (w2.alloc (.cells #[.int .i64 u, .int .i64 r, .int .i64 p, .int .i64 L2, .int .i64 (now + d)] 23)) gy 23 #[.int .i64 u, .int .i64 r, .int .i64 p, .int .i64 L2, .int .i64 (now + d)] by rw [hgy]; exact BlkIs.new w2 _ _)
            clear HS hb2 x0 x1 x2 x3 x4 e0 QT
            go_upto_region 11 with (fail)
            rw [← hgy]
            clear hgy
            generalize w2.alloc (.cells #[.int .i64 u, .int .i64 r, .int .i64 p, .int .i64 L2, .int .i64 (now + d)] 23) = w3 at *
            cases is with
            | true =>
              have HBK := hide (BlkIs.new w3 3 #[.int .i64 (now + d)])
              have HNX := hide (nl_blk (l := [now + d]) HBK.out (fun y hy => by rw [List.mem_singleton.1 hy]; exact WalkArith.wf_i64 (by omega)) (by unfold maxLen; simp))
              have HS3 := hide (HS2.out.keep (bel1 _ (.cells #[.int .i64 (now + d)] 3)))
              have HY3 := hide (HY2.out.alloc (.cells #[.int .i64 (now + d)] 3))
              have HZ := hide (show g + 2 ≤ (w3.alloc (.cells #[.int .i64 (now + d)] 3)).heap.size by have := HS2.out.x.lt; rw [World.size_alloc]; omega)
              clear HBK HS2 HY2
              simp only [if_true] at HV2
              go_wp2_with (at_builtin; refine wpList_append_n _ rfl (.tmp 50) (.tmp 52) rfl (g + 2) _ T.length T rfl HS3.out.own ⟨w3.heap.size, 0, none⟩ 1 1 [now + d] rfl HNX.out (by have := HLN.out; omega) HZ.out ?_; intro v4 w4 hown4 hg4; have HO4 := hide (show w4.ownsRow (g + 2) 3 1 v4 (T ++ [now + d]).length (ncs (T ++ [now + d])) by rw [List.length_append]; exact hown4); have HS4 := hide (HS3.out.grown hg4 HO4.out HL.out); have HY4 := hide (blk_grown HY3.out hg4 (own_apartx HS3.out.own HY3.out (by decide))); clear hown4 hg4 HS3 HY3 HNX HZ; obtain ⟨y0, y1, y2, y3, y4⟩ := cells5 (b := ⟨u, r, p, L2, now + d⟩) HY4.out; simp only at y0 y1 y2 y3 y4)
              obtain ⟨A7, c7, hv4⟩ := own_slice HO4.out
              subst hv4
              clear HO4
              have HL2 := hide (show (T ++ [now + d]).length ≤ i + 1 by have := HLN.out; simp; omega)
              refine (QC.out _).mono ?_
              rintro e w5 ⟨rfl, hb5⟩
              have HS5 := hide (HS4.out.keep hb5)
              have HY5 := hide (HY4.out.keep hb5)
              clear hb5 HS4 HY4 y0 y1 y2 y3 y4 QC
              obtain ⟨y0, y1, y2, y3, y4⟩ := cells5 (b := ⟨u, r, p, L2, now + d⟩) HY5.out
              simp only at y0 y1 y2 y3 y4
              have HS6 := hide (HS5.out.put ⟨u, r, p, L2, now + d⟩)
              have HX5 := hide HS5.out.x
              go_wp2_with (refine wpList_store_blk rfl 23 (.tmp 5) (.tmp 63) rfl (g + 1) #[.int .i64 u, .int .i64 r, .int .i64 p, .int .i64 L2, .int .i64 (now + d)] _ 23 rfl rfl HX5.out bu_size rfl (by simp [Value.oneCell']) ?_)
              go_roundw
              case rel => exact ⟨i + 1, T ++ [now + d], L2, now + d, A7, c7, by omega, by go_num, rfl, by simp, HS6.out, ⟨HV2.out, HK2.out, HLE.out, HL2.out⟩⟩
              case measure => simp [intOf]; omega
            | false =>
              simp only [Bool.false_eq_true, if_false] at HV2
              have HL2 := hide (show T.length ≤ i + 1 by have := HLN.out; omega)
              obtain ⟨y0, y1, y2, y3, y4⟩ := cells5 (b := ⟨u, r, p, L2, now + d⟩) HY2.out
              simp only at y0 y1 y2 y3 y4
              go_wp2_with fail
              refine (QC.out _).mono ?_
              rintro e w5 ⟨rfl, hb5⟩
              have HS5 := hide (HS2.out.keep hb5)
              have HY5 := hide (HY2.out.keep hb5)
              clear hb5 HS2 HY2 y0 y1 y2 y3 y4 QC
              obtain ⟨y0, y1, y2, y3, y4⟩ := cells5 (b := ⟨u, r, p, L2, now + d⟩) HY5.out
              simp only at y0 y1 y2 y3 y4
              have HS6 := hide (HS5.out.put ⟨u, r, p, L2, now + d⟩)
              have HX5 := hide HS5.out.x
              go_wp2_with (refine wpList_store_blk rfl 23 (.tmp 5) (.tmp 63) rfl (g + 1) #[.int .i64 u, .int .i64 r, .int .i64 p, .int .i64 L2, .int .i64 (now + d)] _ 23 rfl rfl HX5.out bu_size rfl (by simp [Value.oneCell']) ?_)
              go_roundw
              case rel => exact ⟨i + 1, T, L2, now + d, A6, c6, by omega, by go_num, rfl, rfl, HS6.out, ⟨HV2.out, HK2.out, HLE.out, HL2.out⟩⟩
              case measure => simp [intOf]; omega
          · obtain rfl : i = N := by omega
            have hlt' : ¬ (i : Int) < (i : Int) := by omega
            have hnow1 : now ≤ 2000000000 := by have := HI.out.le; have := HN1.out; omega
            have HFT := hide (fun (j k : Nat) (a b : Int) (hik : j ≤ k) (hk : k ≤ 60) (ha : T[j]? = some a) (hb : T[k]? = some b) => fits HO.out HI.out.inv hnow1 hik hk ha hb)
            have HLN := hide (show T.length ≤ 60 by have := HI.out.len; omega)
            have HCE := hide (fun (wx : World) (h : BS w g ⟨u, r, p, l, n⟩ wx ⟨u, r, p, L, now⟩ (.slice A6 T.length c6) T) => own_num h.own)
            clear HI HO HN1 hnow1 HG HW hnn hN'
            go_wp2_with fail
            go_loopw [11] (fun s11 wr => ∃ a : Nat, a ≤ T.length ∧ s11 = .int .i64 (a : Int) ∧ Hid (BS w g ⟨u, r, p, l, n⟩ wr ⟨u, r, p, L, now⟩ (.slice A6 T.length c6) T)) (fun s11 _ => T.length - (intOf s11).toNat)
            case atStart => exact ⟨0, by omega, rfl, HS.out⟩
            case round =>
              clear HS
              obtain ⟨a, ha, rfl, HS⟩ := hrel
              obtain ⟨wq, rfl⟩ : ∃ wq, wq = wr := ⟨_, rfl⟩
              by_cases hat : a < T.length
              · have hat' : (a : Int) < (T.length : Int) := by omega
                have ha6 : (a : Int) ≤ 60 := by have := HLN.out; omega
                go_wp2_with fail
                go_loopw [12] (fun s12 wr => ∃ k : Nat, a ≤ k ∧ k ≤ T.length ∧ s12 = .int .i64 (k : Int) ∧ Hid (BS w g ⟨u, r, p, l, n⟩ wr ⟨u, r, p, L, now⟩ (.slice A6 T.length c6) T)) (fun s12 _ => T.length - (intOf s12).toNat)
                case atStart => exact ⟨a, by omega, by omega, rfl, HS.out⟩
                case round =>
                  clear HS
                  obtain ⟨k, hak, hk, rfl, HS⟩ := hrel
                  by_cases hkt : k < T.length
                  · have hkt' : (k : Int) < (T.length : Int) := by omega
                    have hk6 : (k : Int) ≤ 60 := by have := HLN.out; omega
                    obtain ⟨ta, hta⟩ : ∃ ta, T[a]? = some ta := ⟨_, List.getElem?_eq_getElem hat⟩
                    obtain ⟨tk, htk⟩ : ∃ tk, T[k]? = some tk := ⟨_, List.getElem?_eq_getElem hkt⟩
                    have HFI := hide (HFT.out a k ta tk hak (by have := HLN.out; omega) hta htk)
                    rcases HCE.out _ HS.out with ⟨h0, _⟩ | ⟨gt, ct, hv, _, hcell⟩
                    · subst h0; simp at hkt
                    · injection hv with e1 e2 e3
                      subst e1 e3
                      have ca := hcell a ta hta
                      have ck := hcell k tk htk
                      have z := (HS.out.rf.cell 0).trans (show _ = some (Value.int .i64 u) from rfl)
                      have z1 := (HS.out.rf.cell 1).trans (show _ = some (Value.int .i64 r) from rfl)
                      have z2 := (HS.out.rf.cell 2).trans (show _ = some (Value.int .i64 p) from rfl)
                      clear hta htk hcell
                      go_upto_region 22 with (fail)
                      obtain ⟨f1, f2, f3, f4, f5, f6, f7, f8⟩ := HFI.out
                      have f9 : decide (u * p + r * (tk - ta) < ((k : Int) - a + 1) * p) = false := by rw [decide_eq_false_iff_not]; omega
                      go_quiet (fail)
                      have HS2 := hide (HS.out.keep (below_drewN (Below.refl _ _) nq))
                      clear ca ck z z1 z2 f1 f2 f3 f4 f5 f6 f7
                      go_wp2_with fail
                      go_roundw
                      case rel => exact ⟨k + 1, by omega, by omega, by go_num, HS2.out⟩
                      case measure => simp [intOf]; omega
                  · obtain rfl : k = T.length := by omega
                    have hkt' : ¬ (T.length : Int) < (T.length : Int) := by omega
                    go_wp2_with fail
                    go_roundw
                    case rel => exact ⟨a + 1, by omega, by go_num, HS.out⟩
                    case measure => simp [intOf]; omega
              · obtain rfl : a = T.length := by omega
                have hat' : ¬ (T.length : Int) < (T.length : Int) := by omega
                have HB := hide (show Below w.heap.size w wq by rw [HL.out]; exact HS.out.bel)
                go_wp2_with fail
                refine (HAW.out _).mono ?_
                rintro e w9 ⟨rfl, hb⟩
                have HB9 := hide (HB.out.trans (hb.mono HB.out.size))
                clear hb
                go_wp2
                go_ret
                exact ⟨rfl, HB9.out⟩

theorem walk (u r p l n : Int) (A : Option Addr) (N c : Nat) (z : List Int) (w : World) (_ : (Lit.int .i64 u).wf = true) (_ : (Lit.int .i64 r).wf = true) (_ : (Lit.int .i64 p).wf = true) (_ : (Lit.int .i64 l).wf = true) (_ : (Lit.int .i64 n).wf = true) (hz : IsRow .u16 w A N c z) :
    Calls Try.prog 4 #[.agg #[.int .i64 u, .int .i64 r, .int .i64 p, .int .i64 l, .int .i64 n], .slice A N c] w fun e w' => e = .returned (.bool true) ∧ Below w.heap.size w w' := walk_at u r p l n A N c _ w (nl_of_row hz)
end Go.Proofs.Ytpebbeghjealiaa.bucketBound
