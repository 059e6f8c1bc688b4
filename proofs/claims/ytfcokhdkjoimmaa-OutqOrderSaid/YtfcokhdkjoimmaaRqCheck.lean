/-
  Layer 19: the document's Check (written by gen19small.py).
-/
import Derived.Test.YtfcokhdkjoimmaaOqCheck
import Derived.Test.YtfcokhdkjoimmaaRegW
import Derived.Deep.CutRange
import Derived.BigRegion
namespace Go.Proofs.Ytfcokhdkjoimmaa
set_option linter.unusedSimpArgs false
set_option linter.unusedVariables false
open Go.RowKit
set_option maxRecDepth 100000 in
set_option maxHeartbeats 1600000 in
theorem rq_Check (q : Qu) (A : Option Addr) (n c : Nat) (w : World) (hl : QL w q A n c) :
    Calls Try.prog 15 #[.agg #[.slice A n c, .int .i64 q.m, .int .i64 q.g]] w fun e w' => e = .returned (.int .i64 (chkQ q)) ∧ Below w.heap.size w w' := by
  have HB1 := hide (bel1 w (.cells #[.slice A n c, .int .i64 q.m, .int .i64 q.g] 24))
  have HX1 := hide (BlkIs.new w 24 #[.slice A n c, .int .i64 q.m, .int .i64 q.g])
  obtain ⟨k0, k1, k2⟩ := qcells HX1.out
  have HL := hide (hl.tx.keep HB1.out)
  have HN := hide hl.few
  have HLN := hide (fun w' (h : Below (w.alloc (.cells #[.slice A n c, .int .i64 q.m, .int .i64 q.g] 24)).heap.size (w.alloc (.cells #[.slice A n c, .int .i64 q.m, .int .i64 q.g] 24)) w') => rq_Len q A n c w' (hl.keep (HB1.out.trans (h.mono HB1.out.size))))
  have HCM := hide (fun w' => rq_in q.m w')
  have HCG := hide (fun w' => rq_in q.g w')
  have hSM : (lenL q.ps : Int) ≤ 100000000 := by have := hl.sum; omega
  have HG := hide (show isC q.g = true → 0 ≤ q.g ∧ q.g ≤ 1099511627776 from fun h => (isC_iff _).1 h)
  have HH4 := hide (@chk_4 q)
  have HH7 := hide (@chk_7 q)
  have HH8 := hide (@chk_8 q)
  have HHG := hide (@chk_8g q)
  have HHX := hide (@chk_10 q)
  have HH0 := hide (fun a b c d e => (chk_ok q).2 ⟨a, b, ((isC_iff _).1 c).1, ((isC_iff _).1 c).2, ((isC_iff _).1 d).1, ((isC_iff _).1 d).2, e⟩)
  have HNO := hide (fun h => @noneE_all q.ps h)
  have HYE := hide (fun i s => @noneE_no q.ps i s)
  obtain ⟨r, hr⟩ : ∃ r, r = chkQ q := ⟨_, rfl⟩
  rw [← hr] at HH4 HH7 HH8 HHG HHX HH0 ⊢
  generalize lenL q.ps = L at *
  generalize noneE q.ps = E at *
  generalize q.m = m at *
  generalize q.g = g at *
  generalize q.ps = l at *
  clear hr hl
  have h0 : (0 : Int) ≤ (L : Int) := by omega
  go_enter Try.func15, Try.ntmps15
  go_wp2_with fail
  go_loop [3] (fun k => ∃ i : Nat, i ≤ n ∧ k = .int .i64 (i : Int) ∧ Hid (∀ j s, j < i → l[j]? = some s → s.size ≠ 0)) (fun k => n - (intOf k).toNat)
  case atStart => exact ⟨0, by omega, rfl, fun j y hj => by omega⟩
  case round =>
    obtain ⟨i, hi, rfl, HO⟩ := hrel
    have hn := HN.out
    by_cases hlt : i < n
    · have hlt' : (i : Int) < (n : Int) := by omega
      obtain ⟨s, b, off, hs, rfl, hbl, c0⟩ := HL.out.round hlt
      have HX := hide hs
      have he := lit_eq s []
      have he2 : ((⟨#[]⟩ : ByteArray).toList == s.toList) = decide (s = ⟨#[]⟩) := by rw [str_eq]; exact decide_eq_decide.2 eq_comm
      have he3 : (([] : List UInt8) == s.toList) = decide (s = ⟨#[]⟩) := by rw [BEq.comm]; exact lit_eq s []
      clear hs
      by_cases hz : s = ⟨#[]⟩
      · have HR := hide (HH4.out (HYE.out i s HX.out (by rw [hz]; rfl)))
        rw [decide_eq_true hz] at he2 he3
        rw [decide_eq_true (by rw [hz])] at he
        clear hz HH4 HH7 HH8 HHG HHX HH0
        go_wp2
        go_ret
        exact ⟨by rw [HR.out]; rfl, HB1.out⟩
      · have HZ := hide (show s.size ≠ 0 from fun e => hz (ba_empty e))
        rw [decide_eq_false hz] at he2 he3
        rw [decide_eq_false hz] at he
        clear hz
        go_wp2
        go_round
        case rel => exact ⟨i + 1, by omega, by go_num, fun j y hj hy => by
          by_cases e : j = i
          · subst e
            rw [HX.out] at hy
            injection hy with hy
            rw [← hy]; exact HZ.out
          · exact HO.out j y (by omega) hy⟩
        case measure => simp [intOf]; omega
    · have hge : ¬ (i : Int) < (n : Int) := by omega
      obtain rfl : n = i := by omega
      have HE := hide (HNO.out fun j s hj hs => HO.out j s (by have h2 := HL.out.len; omega) hs)
      have HL1 := hide (HLN.out _ (Below.refl _ _))
      clear hi hlt
      go_wp2_with fail
      refine HL1.out.mono ?_
      rintro e w2 ⟨rfl, hb⟩
      have HB2 := hide (HB1.out.trans (hb.mono HB1.out.size))
      have HX2 := hide (HX1.out.keep hb)
      have HLN := hide (fun w' (h : Below w2.heap.size w2 w') => HLN.out w' (hb.trans (h.mono hb.size)))
      clear k0 k1 k2
      obtain ⟨k0, k1, k2⟩ := qcells HX2.out
      clear hb HL1
      rcases Int.lt_or_le 65536 (L : Int) with h1 | h1
      · have HR := hide (HH7.out HE.out (by omega))
        clear HH4 HH7 HH8 HHG HHX HH0
        go_wp2
        all_goals first | (exfalso; omega) | (go_ret; exact ⟨by rw [HR.out]; rfl, HB2.out⟩)
      · have HLE := hide (show L ≤ 65536 by omega)
        cases hcm : isC m with
        | false =>
          have HR := hide (HH8.out HE.out HLE.out hcm)
          rw [hcm] at HCM
          clear HH4 HH7 HH8 HHG HHX HH0
          go_wp2_with (go_at_call 25; refine (HCM.out _).mono ?_; rintro e w3 ⟨rfl, rfl⟩)
          all_goals first | (exfalso; omega) | (go_ret; exact ⟨by rw [HR.out]; rfl, HB2.out⟩)
        | true =>
          cases hcg : isC g with
          | false =>
            have HR := hide (HHG.out HE.out HLE.out hcm hcg)
            rw [hcm] at HCM
            rw [hcg] at HCG
            clear HH4 HH7 HH8 HHG HHX HH0
            go_wp2_with fail
            refine (HCM.out _).mono ?_
            rintro e w3 ⟨rfl, rfl⟩
            go_wp2_with fail
            refine (HCG.out _).mono ?_
            rintro e w3 ⟨rfl, rfl⟩
            go_wp2
            all_goals first | (exfalso; omega) | (go_ret; exact ⟨by rw [HR.out]; rfl, HB2.out⟩)
          | true =>
            obtain ⟨g0, g1⟩ := HG.out hcg
            have hg1 : g + (L : Int) ≤ 1099511693312 := by omega
            have hg0 : 0 ≤ g + (L : Int) := by omega
            rw [hcm] at HCM
            rw [hcg] at HCG
            have HR := hide (show r = if m = g + (L : Int) then 0 else 10 by
              split
              · exact HH0.out HE.out HLE.out hcm hcg (by assumption)
              · exact HHX.out HE.out HLE.out hcm hcg (by assumption))
            clear HH4 HH7 HH8 HHG HHX HH0 hcm hcg
            go_wp2_with fail
            refine (HCM.out _).mono ?_
            rintro e w3 ⟨rfl, rfl⟩
            go_wp2_with fail
            refine (HCG.out _).mono ?_
            rintro e w3 ⟨rfl, rfl⟩
            go_upto_region 10 with (fail)
            go_cut [32] from 33 to 40 (fun s32 wx => s32 = .bool (!decide (m = g + (L : Int))) ∧ Hid (Below w.heap.size w wx))
            case first =>
              refine wp_region_noPanic ?_
              refine wp_region_held_drew (S := fun w' => Below w2.heap.size w2 w') (by kernel_rfl) (Below.refl _ _).drew (fun hS => ?_)
              generalize w2.drew = wd at hS ⊢
              refine wpAnyH_take (i := 0) (v := ?_) (by simp only [List.getElem?_toArray, List.getElem?_cons_succ, List.getElem?_cons_zero] <;> exact rfl) (by kernel_rfl) (by kernel_rfl) (by kernel_rfl) (fun _ _ _ h => h) (Or.inl ⟨by rfl, ?_⟩) hS ?_
              rotate_left
              focus (intro w' hw'; go_simp; all_goals with_reducible rfl)
              try simp only [Act.put, List.setIfInBounds_toArray, List.set_cons_zero, List.set_cons_succ]
              refine wpAnyH_take (i := 1) (v := ?_) (by simp only [List.getElem?_toArray, List.getElem?_cons_succ, List.getElem?_cons_zero] <;> exact rfl) (by kernel_rfl) (by kernel_rfl) (by kernel_rfl) (fun _ _ _ h => h) (Or.inl ⟨by rfl, ?_⟩) hS ?_
              rotate_left
              focus (intro w' hw'; have kk := (HX2.out.keep hw').cell 1; simp only [List.getElem?_toArray, List.getElem?_cons_zero, List.getElem?_cons_succ] at kk; go_simp; all_goals with_reducible rfl)
              try simp only [Act.put, List.setIfInBounds_toArray, List.set_cons_zero, List.set_cons_succ]
              refine wpAnyH_take (i := 2) (v := ?_) (by simp only [List.getElem?_toArray, List.getElem?_cons_succ, List.getElem?_cons_zero] <;> exact rfl) (by kernel_rfl) (by kernel_rfl) (by kernel_rfl) (fun _ _ _ h => h) (Or.inl ⟨by rfl, ?_⟩) hS ?_
              rotate_left
              focus (intro w' hw'; go_simp; all_goals with_reducible rfl)
              try simp only [Act.put, List.setIfInBounds_toArray, List.set_cons_zero, List.set_cons_succ]
              refine wpAnyH_take (i := 3) (v := ?_) (by simp only [List.getElem?_toArray, List.getElem?_cons_succ, List.getElem?_cons_zero] <;> exact rfl) (by kernel_rfl) (by kernel_rfl) (by kernel_rfl) (fun _ _ _ h => h) (Or.inl ⟨by rfl, ?_⟩) hS ?_
              rotate_left
              focus (intro w' hw'; have kk := (HX2.out.keep hw').cell 2; simp only [List.getElem?_toArray, List.getElem?_cons_zero, List.getElem?_cons_succ] at kk; go_simp; all_goals with_reducible rfl)
              try simp only [Act.put, List.setIfInBounds_toArray, List.set_cons_zero, List.set_cons_succ]
              refine wpAnyH_take (i := 4) (by simp only [List.getElem?_toArray, List.getElem?_cons_succ, List.getElem?_cons_zero] <;> exact rfl) (by kernel_rfl) (by kernel_rfl) (by kernel_rfl) (fun _ _ _ h => h) (rgs_yields_blk (by rfl) 24 (.tmp 1) (by rfl) w.heap.size (by rfl) 24 #[.slice A n c, .int .i64 m, .int .i64 g] _ (fun w' hw' => HX2.out.keep hw') Try.underlying24 rfl (by kernel_rfl)) hS ?_
              try simp only [Act.put, List.setIfInBounds_toArray, List.set_cons_zero, List.set_cons_succ]
              refine wpAnyH_ready (rs := [5]) (by kernel_rfl) (by simp) ?_
              refine AllReadyH.cons (o := _) (by simp only [List.getElem?_toArray, List.getElem?_cons_succ, List.getElem?_cons_zero] <;> exact rfl) (fun K hK => ?_) ?_
              focus (
                go_simp
                go_at_call 17
                refine (HLN.out _ hS).mono ?_
                rintro e wc1 ⟨rfl, hb⟩
                have hS := hS.trans (hb.mono hS.size)
                clear hb
                go_wp2_with fail
                refine hK.out _ _ hS (fun _ => ?_)
                clear hK K
                try simp only [Act.put, List.setIfInBounds_toArray, List.set_cons_zero, List.set_cons_succ]
                refine wpAnyH_take (i := 6) (v := ?_) (by simp only [List.getElem?_toArray, List.getElem?_cons_succ, List.getElem?_cons_zero] <;> exact rfl) (by kernel_rfl) (by kernel_rfl) (by kernel_rfl) (fun _ _ _ h => h) (Or.inl ⟨by rfl, ?_⟩) hS ?_
                rotate_left
                focus (intro w' hw'; go_simp; all_goals with_reducible rfl)
                try simp only [Act.put, List.setIfInBounds_toArray, List.set_cons_zero, List.set_cons_succ]
                refine wpAnyH_take (i := 7) (v := ?_) (by simp only [List.getElem?_toArray, List.getElem?_cons_succ, List.getElem?_cons_zero] <;> exact rfl) (by kernel_rfl) (by kernel_rfl) (by kernel_rfl) (fun _ _ _ h => h) (Or.inl ⟨by rfl, ?_⟩) hS ?_
                rotate_left
                focus (intro w' hw'; go_simp; all_goals with_reducible rfl)
                try simp only [Act.put, List.setIfInBounds_toArray, List.set_cons_zero, List.set_cons_succ]
                refine wpAnyH_take (i := 8) (v := ?_) (by simp only [List.getElem?_toArray, List.getElem?_cons_succ, List.getElem?_cons_zero] <;> exact rfl) (by kernel_rfl) (by kernel_rfl) (by kernel_rfl) (fun _ _ _ h => h) (Or.inl ⟨by rfl, ?_⟩) hS ?_
                rotate_left
                focus (intro w' hw'; go_simp; all_goals with_reducible rfl)
                try simp only [Act.put, List.setIfInBounds_toArray, List.set_cons_zero, List.set_cons_succ]
                refine wpAnyH_done (by kernel_rfl) ?_ _
                refine NoPanic.normal ?_
                have HB3 := hide (HB2.out.trans (hS.mono HB2.out.size))
                clear hS
                go_wp2_with fail
                go_meet
                refine ⟨?_, HB3.out⟩
                rw [show IntKind.i64.wrap (g + (L : Int)) = g + (L : Int) from IntWalk.i64_in _ (by omega)]
                by_cases hs : m = g + (L : Int)
                · rw [decide_eq_true hs, hs]; simp
                · rw [decide_eq_false hs, show (m != g + (L : Int)) = true by simpa using hs]; rfl)
              exact AllReadyH.nil
            case rest =>
              obtain ⟨rfl, HB3⟩ := hcut
              by_cases hs : m = g + (L : Int)
              · rw [if_pos hs] at HR
                rw [decide_eq_true hs]
                clear hs
                go_wp2
                go_ret
                exact ⟨by rw [HR.out]; rfl, HB3.out⟩
              · rw [if_neg hs] at HR
                rw [decide_eq_false hs]
                clear hs
                go_wp2
                go_ret
                exact ⟨by rw [HR.out]; rfl, HB3.out⟩
end Go.Proofs.Ytfcokhdkjoimmaa
