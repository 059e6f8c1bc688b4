/-
  RequestOrder: its walk (written by gen17order.py).
-/
import Derived.Test.YtlbhnbloanamfaaDoorRqAwake
import Derived.Test.YtlbhnbloanamfaaDoorRqOrder
import Derived.Test.YtlbhnbloanamfaaDoorRgSmall
import Derived.Test.YtlbhnbloanamfaaDoorFdLight
import Derived.Test.YtlbhnbloanamfaaDoorFdSlice
import Derived.BigGuardPart
import Derived.Deep.CutRange
import Derived.OpenShut
namespace Go.Proofs.YtlbhnbloanamfaaDoor.requestOrder
set_option linter.unusedSimpArgs false
set_option linter.unusedVariables false
open Go.RowKit

theorem mod_light {l : List Fd} (h : lightB l = true) : Mod l := by
  unfold lightB at h
  rw [Bool.and_eq_true, decide_eq_true_eq, List.all_eq_true] at h
  refine ⟨by omega, fun f hf => ?_⟩
  have := h.2 f hf
  unfold smallB at this
  rw [Bool.and_eq_true, decide_eq_true_eq, decide_eq_true_eq] at this
  omega
theorem ans_parts (l : List Fd) (en : Bool) : ∃ x0 x1 x2 x3 x4 x5 b, ansV (readR l en) = .tuple #[.agg #[.string x0, .string x1, .string x2, .string x3, .int .i64 x4, .int .i64 x5], .bool b] := ⟨_, _, _, _, _, _, _, rfl⟩
theorem own_not {w : World} {B Q : Nat} {v : Value} {n : Nat} {xs : List Value} {cs : Array Value} (hq : BlkIs w Q 26 cs) (h : w.ownsRow B 42 3 v n xs) (e : some Q = v.ownBlock) : False := by
  rcases h.2 with ⟨rfl, _⟩ | ⟨k, cap, cur, rfl, b, c, d⟩
  · simp [Value.ownBlock] at e
  · simp [Value.ownBlock] at e
    subst e
    unfold BlkIs at hq
    rw [hq] at c
    injection c with c
    injection c with _ ht
    cases ht
/-- What is asked of a name. -/
theorem ps_case (f : Fd) : (f.n.size = 0 ∧ psF f = false) ∨ (∃ hp : 0 < f.n.size, ∃ y : Int, ((f.n[0].toNat : Nat) : Int) = y ∧ (y == 58) = psF f) := by
  by_cases h0 : f.n.size = 0
  · refine .inl ⟨h0, ?_⟩
    have := ba_empty h0
    unfold psF
    rw [this]
    rfl
  · refine .inr ⟨by omega, _, rfl, ?_⟩
    unfold psF bColon
    rw [pref_one 58 (show 0 < f.n.size by omega), bts_get f.n 0 (by omega)]
    by_cases h : ((f.n[0].toNat : Nat) : Int) = 58
    · rw [h]; rfl
    · rw [beq_eq_false_iff_ne.2 h, decide_eq_false (show ¬ ((f.n[0].toNat : Nat) : Int) = (((58 : UInt8).toNat : Nat) : Int) from h)]

set_option maxRecDepth 100000 in
set_option maxHeartbeats 6400000 in
theorem walk (A : Option Addr) (n c : Nat) (l : List Fd) (en : Bool) (tv : Int) (w : World) (ht : TabOk w) (hfl : FL w A n c l) (hwt : (Lit.int .u8 tv).wf = true) :
    Calls Tryd.prog 7 #[.slice A n c, .bool en, .int .u8 tv] w fun e w' => e = .returned (.bool true) ∧ Below w.heap.size w w' := by
  have HT := hide ht
  have HFL := hide hfl
  have HLT := hide (rf_Light A n c l w hfl)
  obtain ⟨lt, hlt⟩ : ∃ x, x = lightB l := ⟨_, rfl⟩
  rw [← hlt] at HLT
  have HLB := hide hlt.symm
  have htv := bounds_u8 hwt
  obtain ⟨tn, rfl⟩ : ∃ tn : Nat, tv = tn := ⟨tv.toNat, by omega⟩
  clear ht hfl hlt hwt
  cases lt with
  | false =>
    go_enter Tryd.func7, Tryd.ntmps7
    go_wp2_with fail
    refine HLT.out.mono ?_
    rintro e w1 ⟨rfl, rfl⟩
    clear HLT HFL
    go_wp2_with fail
    refine (aw_awake _ HT.out).mono ?_
    rintro e w4 ⟨rfl, hb⟩
    have HB4 := hide hb
    clear hb
    go_wp2_with fail
    go_ret
    exact ⟨rfl, HB4.out⟩
  | true =>
    have HM := hide (mod_light HLB.out)
    have hn : (n : Int) ≤ 1000 := by have := HM.out.1; have := HFL.out.len; omega
    have HHD := hide (show l.take (hdL l).length = hdL l from tw_take.symm)
    have HTL := hide (show l.drop (hdL l).length = tlL l from dw_drop.symm)
    have hKn : (hdL l).length ≤ n := by rw [← HFL.out.len]; exact (List.takeWhile_sublist psF).length_le
    have HMP := hide (show Mod (rotL (hdL l) tn ++ tlL l) by
      have hp := (rot_perm (hdL l) tn).append_right (tlL l)
      have e := List.takeWhile_append_dropWhile (p := psF) (l := l)
      rw [show hdL l ++ tlL l = l from e] at hp
      exact ⟨by rw [hp.length_eq]; exact HM.out.1, fun f hf => HM.out.2 f (hp.mem_iff.1 hf)⟩)
    have HRP := hide (read_perm (rot_perm (hdL l) tn) en)
    obtain ⟨x0, x1, x2, x3, x4, x5, b, hq⟩ := ans_parts l en
    have HA := hide (fun w h => rq_Read A n c l en w h HM.out)
    have HP := hide (fun A n c w h => rq_Read A n c (rotL (hdL l) tn ++ tlL l) en w h HMP.out)
    rw [HRP.out, hq] at HP
    rw [hq] at HA
    have s0 := str_same (rfl : x0 = x0)
    have s1 := str_same (rfl : x1 = x1)
    have s2 := str_same (rfl : x2 = x2)
    have s3 := str_same (rfl : x3 = x3)
    clear hq HLB HRP HMP
    obtain ⟨g, hg⟩ : ∃ g, g = w.heap.size := ⟨_, rfl⟩
    have HG := hide hg
    clear hg
    go_enter Tryd.func7, Tryd.ntmps7
    go_wp2_with fail
    refine HLT.out.mono ?_
    rintro e w1 ⟨rfl, rfl⟩
    clear HLT
    obtain ⟨K, hK0⟩ : ∃ K, K = (hdL l).length := ⟨_, rfl⟩
    rw [← hK0] at HHD HTL hKn
    have HK := hide hK0
    clear hK0
    go_wp2_with fail
    go_loopw [7] (fun k wr => ∃ i : Nat, i ≤ n ∧ k = .int .i64 (i : Int) ∧ Hid (NoneYet (fun f => !psF f) l i) ∧ wr = w) (fun k _ => n - (intOf k).toNat)
    case atStart => exact ⟨0, by omega, rfl, hide (.zero _ _), by first | rfl | trivial⟩
    case round =>
      obtain ⟨i, hi, rfl, HNO, hwr⟩ := hrel
      subst hwr
      go_upto_region 4 with (fail)
      go_cut [39] from 18 to 39 (fun s39 wx => ∃ d, s39 = .bool d ∧ Hid ((d = true → i < n ∧ NoneYet (fun f => !psF f) l (i + 1)) ∧ (d = false → i = K)) ∧ wx = wr)
      case first =>
        by_cases hlt : i < n
        · have hlt' : (i : Int) < (n : Int) := by omega
          obtain ⟨f, bb, off, hfd, rfl, hbl, c0, c1, c2⟩ := HFL.out.round hlt
          have HFD := hide hfd
          obtain ⟨v, hv⟩ : ∃ v, v = psF f := ⟨_, rfl⟩
          have hcase := ps_case f
          rw [← hv] at hcase
          have HV := hide hv.symm
          clear hfd hv
          cases v with
          | true =>
            rcases hcase with ⟨h0, hx⟩ | ⟨hp, y, hy, hy58⟩
            · cases hx
            · have hpos : (0 : Int) < (f.n.size : Int) := by omega
              have HNX := hide (HNO.out.succ HFD.out (by simp [HV.out]))
              have HLT := hide hlt
              go_wp2_with fail
              go_meet
              exact ⟨true, rfl, hide ⟨fun _ => ⟨HLT.out, HNX.out⟩, fun z => by cases z⟩, rfl⟩
          | false =>
            have hp := parted_idx (l := l) (r := (i : Int)) (.inr ⟨i, f, rfl, HFD.out, by simp [HV.out], HNO.out⟩)
            have HKI := hide (show i = K by rw [HK.out, hdL]; rcases hp with h | h <;> omega)
            clear hp
            rcases hcase with ⟨h0, hx⟩ | ⟨hp, y, hy, hy58⟩
            · have hpos : ¬ (0 : Int) < (f.n.size : Int) := by omega
              clear hx h0
              go_wp2_with fail
              go_meet
              exact ⟨false, rfl, hide ⟨fun z => (by cases z), fun _ => HKI.out⟩, rfl⟩
            · have hpos : (0 : Int) < (f.n.size : Int) := by omega
              go_wp2_with fail
              go_meet
              exact ⟨false, rfl, hide ⟨fun z => (by cases z), fun _ => HKI.out⟩, rfl⟩
        · have hge : ¬ (i : Int) < (n : Int) := by omega
          have HKI := hide (show i = K by
            obtain rfl : i = n := by omega
            rw [HK.out, hdL, tw_all (fun f hf => by have := NoneYet.all (p := fun f => !psF f) (by rw [HFL.out.len]; exact HNO.out) f hf; simpa using this), HFL.out.len])
          go_wp2_with fail
          go_meet
          exact ⟨false, rfl, hide ⟨fun z => (by cases z), fun _ => HKI.out⟩, rfl⟩
      case rest =>
        obtain ⟨d, rfl, HD, hwc⟩ := hcut
        subst hwc
        cases d with
        | true =>
          have HD1 := hide (HD.out.1 rfl)
          clear HD
          go_wp2_with fail
          go_roundw
          case rel => exact ⟨i + 1, by have := HD1.out.1; omega, by go_num, hide HD1.out.2, by first | rfl | trivial⟩
          case measure => have := HD1.out.1; simp [intOf]; omega
        | false =>
          have hik := HD.out.2 rfl
          subst hik
          clear HD HNO
          go_wp2_with fail
          go_loopw [8, 9] (fun s8 s9 wy => ∃ j : Nat, j ≤ i ∧ s9 = .int .i64 (j : Int) ∧ Hid (wy.ownsRow g 42 3 s8 j (fcs ((rotL (hdL l) tn).take j))) ∧ Hid (Below g wc wy)) (fun _ s9 _ => i - (intOf s9).toNat)
          case atStart => exact ⟨0, by omega, rfl, hide (World.ownsRow_nil _ _ _ _), hide (Below.refl _ _)⟩
          case round =>
            obtain ⟨j, hj, rfl, HO, HB⟩ := hrel
            have HZ := hide (show g ≤ wr.heap.size by rw [HG.out]; exact (show Below wc.heap.size wc wr by rw [← HG.out]; exact HB.out).size)
            have HLr := hide (HFL.out.keep (show Below wc.heap.size wc wr by rw [← HG.out]; exact HB.out))
            by_cases hlt : j < i
            · have hlt' : (j : Int) < (i : Int) := by omega
              obtain ⟨p, hp⟩ : ∃ p, p = (j + tn) % i := ⟨_, rfl⟩
              have hpi : p < i := by rw [hp]; exact Nat.mod_lt _ (by omega)
              obtain ⟨f, bb, off, hfd, rfl, hbl, c0, c1, c2⟩ := HLr.out.round (k := p) (by omega)
              have hrot : (rotL (hdL l) tn)[j]? = some f := by
                rw [rot_get (by rw [← HK.out]; exact hlt), ← HK.out, ← hp, ← HHD.out, List.getElem?_take, if_pos hpi]
                exact hfd
              have HTK := hide (show (rotL (hdL l) tn).take j ++ [f] = (rotL (hdL l) tn).take (j + 1) by rw [List.take_add_one, hrot]; rfl)
              have hrem : ((j : Int) + (tn : Int)).tmod (i : Int) = (p : Int) := by
                rw [Int.tmod_eq_emod_of_nonneg (by omega), hp]
                simp
              have hi0 : ((i : Int) == 0) = false := beq_eq_false_iff_ne.2 (by omega)
              have hi1 : ¬ (i : Int) = 0 := by omega
              have hpn : (p : Int) < (n : Int) := by omega
              have HY := hide (fl_new1 wr f.n f.v f.x)
              have HB2 := hide (HB.out.alloc HZ.out (.cells #[.string f.n, .string f.v, .bool f.x] 42))
              have HO2 := hide (HO.out.alloc (.cells #[.string f.n, .string f.v, .bool f.x] 42))
              have HS := hide (show g ≤ (wr.alloc (.cells #[.string f.n, .string f.v, .bool f.x] 42)).heap.size by have := HZ.out; simp; omega)
              clear hfd hrot HO HB hp
              go_wp2_with (at_builtin; refine wpList_append_fl _ rfl (.tmp 47) (.tmp 57) rfl g _ j ((rotL (hdL l) tn).take j) rfl HO2.out (some ⟨wr.heap.size, 0, none⟩) 1 1 [f] rfl HY.out (by omega) HS.out ?_; intro v1 w1 hown1 hg1; have HO1 := hide hown1; have HG1 := hide hg1; clear hown1 hg1)
              go_roundw
              case rel => exact ⟨j + 1, by omega, by go_num, hide (by have h := HO1.out; rw [HTK.out] at h; exact h), hide (own_below_f HO2.out HB2.out (Nat.le_refl _) (by have := HG.out; omega) HG1.out)⟩
              case measure => simp [intOf]; omega
            · have hge : ¬ (j : Int) < (i : Int) := by omega
              obtain rfl : j = i := by omega
              have HE := hide (show (rotL (hdL l) tn).take j = rotL (hdL l) tn by rw [HK.out, ← rot_len (hdL l) tn, List.take_length])
              rw [HE.out] at HO
              go_wp2_with fail
              refine (HA.out _ HLr.out).mono ?_
              rintro e w2 ⟨rfl, hb2⟩
              have hb2' := hb2.trans ((bel1 w2 (.cells #[.string x0, .string x1, .string x2, .string x3, .int .i64 x4, .int .i64 x5] 26)).mono hb2.size)
              have HB3 := hide (HB.out.trans (hb2'.mono HZ.out))
              have HO3 := hide (own_lowF HO.out hb2')
              have HL3 := hide (HLr.out.keep hb2')
              have HQ3 := hide (BlkIs.new w2 26 #[.string x0, .string x1, .string x2, .string x3, .int .i64 x4, .int .i64 x5])
              have HZ3 := hide (Nat.le_trans HZ.out hb2'.size)
              clear hb2 hb2' HA HB HO HLr HZ
              go_upto_region 12 with (fail)
              obtain ⟨W3, hW⟩ : ∃ W, W = w2.alloc (.cells #[.string x0, .string x1, .string x2, .string x3, .int .i64 x4, .int .i64 x5] 26) := ⟨_, rfl⟩
              obtain ⟨Q1, hg⟩ : ∃ g, g = w2.heap.size := ⟨_, rfl⟩
              rw [← hW] at HB3 HO3 HL3 HQ3 HZ3 ⊢
              rw [← hg] at HQ3 ⊢
              clear hW hg
              obtain ⟨TA, tc, htail, htl⟩ := fl_tail HL3.out j hKn
              rw [HTL.out] at htl
              have HT3 := hide htl
              clear htl
              obtain ⟨m, hm⟩ : ∃ m, m = n - j := ⟨_, rfl⟩
              rw [← hm] at HT3 htail
              have hml : m ≤ 1000 := by omega
              clear hm
              go_wp2_with (at_builtin; refine wpList_append_fl _ rfl (.tmp 66) (.tmp 69) rfl g _ j (rotL (hdL l) tn) rfl HO3.out TA m tc (tlL l) rfl HT3.out (by omega) HZ3.out ?_; intro v4 w4 hown4 hg4; have HQ4 := hide (HQ3.out.grown hg4 (fun e => by have hq := HQ3.out; have ho := HO3.out; exact own_not hq ho e)); have HB4 := hide (own_below_f HO3.out HB3.out (Nat.le_refl _) (by have := HG.out; omega) hg4); obtain ⟨A4, c4, rfl, hfl4⟩ := own_fields hown4; have HFL4 := hide hfl4; clear hown4 hg4 hfl4)
              have HZ4 := hide (show g ≤ w4.heap.size by have h1 := HB4.out.size; have h2 := HG.out; omega)
              clear HO3 HL3 HQ3 HT3 htail
              refine (HP.out _ _ _ _ HFL4.out).mono ?_
              rintro e w5 ⟨rfl, hb5⟩
              have hb5' := hb5.trans ((bel1 w5 (.cells #[.string x0, .string x1, .string x2, .string x3, .int .i64 x4, .int .i64 x5] 26)).mono hb5.size)
              have HB5 := hide (HB4.out.trans (hb5'.mono HZ4.out))
              have HQ5 := hide (HQ4.out.keep hb5')
              have HP5 := hide (BlkIs.new w5 26 #[.string x0, .string x1, .string x2, .string x3, .int .i64 x4, .int .i64 x5])
              clear hb5 hb5' HP HB4 HQ4 HFL4 HZ4 HB3 HZ3
              go_upto_region 13 with (fail)
              obtain ⟨W5, hW⟩ : ∃ W, W = w5.alloc (.cells #[.string x0, .string x1, .string x2, .string x3, .int .i64 x4, .int .i64 x5] 26) := ⟨_, rfl⟩
              obtain ⟨Q2, hg⟩ : ∃ g, g = w5.heap.size := ⟨_, rfl⟩
              rw [← hW] at HB5 HQ5 HP5 ⊢
              rw [← hg] at HP5 ⊢
              clear hW hg
              have k0 := HQ5.out.cell 0
              have k1 := HQ5.out.cell 1
              have k2 := HQ5.out.cell 2
              have k3 := HQ5.out.cell 3
              have k4 := HQ5.out.cell 4
              have k5 := HQ5.out.cell 5
              have j0 := HP5.out.cell 0
              have j1 := HP5.out.cell 1
              have j2 := HP5.out.cell 2
              have j3 := HP5.out.cell 3
              have j4 := HP5.out.cell 4
              have j5 := HP5.out.cell 5
              simp only [List.getElem?_toArray, List.getElem?_cons_zero, List.getElem?_cons_succ] at k0 k1 k2 k3 k4 k5 j0 j1 j2 j3 j4 j5
              have HB6 := hide (show Below wc.heap.size wc W5 by rw [← HG.out]; exact HB5.out)
              go_wp2_with fail
              refine (aw_awake _ (HT.out.keep HB6.out)).mono ?_
              rintro e w7 ⟨rfl, hb⟩
              have HB7 := hide (HB6.out.trans (hb.mono HB6.out.size))
              clear hb
              go_wp2_with fail
              go_ret
              exact ⟨rfl, HB7.out⟩
end Go.Proofs.YtlbhnbloanamfaaDoor.requestOrder
