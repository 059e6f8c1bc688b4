/-
  Layer 12: Pairs: the document's.
-/
import Derived.Test.YtlcnenkfineddaaSsPairs
import Derived.Test.YtlcnenkfineddaaRsCheck
namespace Go.Proofs.Ytlcnenkfineddaa
set_option linter.unusedSimpArgs false
set_option linter.unusedVariables false
open Go.RowKit

set_option maxRecDepth 100000 in
set_option maxHeartbeats 6400000 in
theorem rs_Pairs (v u : Vs) (w : World) : Calls Try.prog 16 #[.agg v.cs, .agg u.cs] w (GivesPrs (pairsS v u) w) := by
  have HA1 := hide (fun w => rs_all v w)
  have HA2 := hide (fun w => rs_all u w)
  have HM1 := hide (fun w => rs_Check v w)
  have HM2 := hide (fun w => rs_Check u w)
  obtain ⟨g, hg⟩ : ∃ g, g = w.heap.size := ⟨_, rfl⟩
  have HG := hide hg
  have HV0 := hide (show BlkIs ((w.alloc (.cells v.cs 23)).alloc (.cells u.cs 23)) g 23 v.cs by rw [hg]; exact (BlkIs.new w _ _).alloc _)
  have HU0 := hide (show BlkIs ((w.alloc (.cells v.cs 23)).alloc (.cells u.cs 23)) (g + 1) 23 u.cs by rw [hg]; exact new2 w _ _ _)
  have HBA := hide (bel2 w (.cells v.cs 23) (.cells u.cs 23))
  clear hg
  have HE := hide (show okB v = false ∨ okB u = false → pairsS v u = [] from fun h => by unfold pairsS; rw [if_neg (by rcases h with h | h <;> simp [h])])
  have HL := hide (show okB v = true → okB u = true → pairsS v u = dif v u 6 from fun h h' => by unfold pairsS; rw [if_pos ⟨h, h'⟩])
  go_enter Try.func16, Try.ntmps16
  go_upto_region 1 with (fail)
  rw [← HG.out]
  generalize (w.alloc (.cells v.cs 23)).alloc (.cells u.cs 23) = wa at *
  go_wp2_with (refine wpList_load_blk rfl 23 (.tmp 2) rfl g rfl 23 v.cs _ HV0.out Try.underlying23 rfl rs_size ?_)
  refine (HM1.out _).mono ?_
  rintro e wb ⟨rfl, hb1⟩
  have HV1 := hide (HV0.out.keep hb1)
  have HU1 := hide (HU0.out.keep hb1)
  have HBB := hide (HBA.out.trans (hb1.mono HBA.out.size))
  clear hb1 HV0 HU0 HBA HM1
  cases hov : okB v with
  | false =>
    have HX := hide (HE.out (.inl hov))
    rw [chkV_no hov]
    clear HE HL hov HM2
    go_wp2_with fail
    go_ret
    exact ⟨none, 0, by rw [HX.out]; rfl, by rw [HX.out]; exact PL.none_ _, HBB.out⟩
  | true =>
    rw [chkV_yes hov]
    go_wp2_with (refine rgs_load_want (by rfl) 23 (.tmp 3) (by rfl) (g + 1) (by rfl) 23 u.cs _ HU1.out Try.underlying23 rfl rs_size ?_)
    refine (HM2.out _).mono ?_
    rintro e w0 ⟨rfl, hb2⟩
    have HV := hide (HV1.out.keep hb2)
    have HU := hide (HU1.out.keep hb2)
    have HB0 := hide (HBB.out.trans (hb2.mono HBB.out.size))
    clear hb2 HV1 HU1 HBB HM2
    cases hou : okB u with
    | false =>
      have HX := hide (HE.out (.inr hou))
      rw [chkV_no hou]
      clear HE HL hov hou
      go_wp2_with fail
      go_ret
      exact ⟨none, 0, by rw [HX.out]; rfl, by rw [HX.out]; exact PL.none_ _, HB0.out⟩
    | true =>
      have HX := hide (HL.out hov hou)
      have HOA := hide (ok_at hou)
      rw [chkV_yes hou]
      clear HE HL hov hou
      go_upto_region 3 with (fail)
      refine wp_region_noPanic ?_
      refine wp_region_held_drew (S := fun w' => Below w0.heap.size w0 w') (by kernel_rfl) (Below.refl _ _).drew (fun hS => ?_)
      generalize w0.drew = wd at hS ⊢
      refine wpAnyH_take (i := 0) (by simp only [List.getElem?_toArray, List.getElem?_cons_zero] <;> exact rfl) (by kernel_rfl) (by kernel_rfl) (by kernel_rfl) (fun _ _ _ h => h) (rgs_yields_blk (by rfl) 23 (.tmp 2) (by rfl) g (by rfl) 23 v.cs _ (fun w' hw' => HV.out.keep hw') Try.underlying23 rfl rs_size) hS ?_
      try simp only [Act.put, List.setIfInBounds_toArray, List.set_cons_zero, List.set_cons_succ]
      refine wpAnyH_take (i := 2) (by simp only [List.getElem?_toArray, List.getElem?_cons_succ, List.getElem?_cons_zero] <;> exact rfl) (by kernel_rfl) (by kernel_rfl) (by kernel_rfl) (fun _ _ _ h => h) (rgs_yields_blk (by rfl) 23 (.tmp 3) (by rfl) (g + 1) (by rfl) 23 u.cs _ (fun w' hw' => HU.out.keep hw') Try.underlying23 rfl rs_size) hS ?_
      try simp only [Act.put, List.setIfInBounds_toArray, List.set_cons_zero, List.set_cons_succ]
      refine wpAnyH_ready (rs := [1]) (by kernel_rfl) (by simp) ?_
      refine AllReadyH.cons (o := _) (by simp only [List.getElem?_toArray, List.getElem?_cons_succ, List.getElem?_cons_zero] <;> exact rfl) (fun K hK => ?_) ?_
      focus (
        go_simp
        go_at_call 26
        refine (HA1.out _).mono ?_
        rintro e wr1 ⟨ga, rfl, hka, hla, hb⟩
        have hS := hS.trans (hb.mono hS.size)
        clear hb
        go_wp2_with fail
        refine hK.out _ _ hS (fun _ => ?_)
        clear hK K
        try simp only [Act.put, List.setIfInBounds_toArray, List.set_cons_zero, List.set_cons_succ]
        refine wpAnyH_ready (rs := [3]) (by kernel_rfl) (by simp) ?_
        refine AllReadyH.cons (o := _) (by simp only [List.getElem?_toArray, List.getElem?_cons_succ, List.getElem?_cons_zero] <;> exact rfl) (fun K hK => ?_) ?_
        focus (
          go_simp
          go_at_call 26
          refine (HA2.out _).mono ?_
          rintro e wr2 ⟨gb, rfl, hkb, hlb, hb⟩
          have hS := hS.trans (hb.mono hS.size)
          have ea := hka.keep hb
          clear hb
          go_wp2_with fail
          refine hK.out _ _ hS (fun _ => ?_)
          clear hK K
          try simp only [Act.put, List.setIfInBounds_toArray, List.set_cons_zero, List.set_cons_succ]
          refine wpAnyH_take (i := 4) (v := ?_) (by simp only [List.getElem?_toArray, List.getElem?_cons_succ, List.getElem?_cons_zero] <;> exact rfl) (by kernel_rfl) (by kernel_rfl) (by kernel_rfl) (fun _ _ _ h => h) (Or.inl ⟨by rfl, ?_⟩) hS ?_
          rotate_left
          focus (intro w' hw'; go_simp; all_goals with_reducible rfl)
          try simp only [Act.put, List.setIfInBounds_toArray, List.set_cons_zero, List.set_cons_succ]
          refine wpAnyH_take (i := 5) (v := ?_) (by simp only [List.getElem?_toArray, List.getElem?_cons_succ, List.getElem?_cons_zero] <;> exact rfl) (by kernel_rfl) (by kernel_rfl) (by kernel_rfl) (fun _ _ _ h => h) (Or.inl ⟨by rfl, ?_⟩) hS ?_
          rotate_left
          focus (intro w' hw'; go_simp; all_goals with_reducible rfl)
          try simp only [Act.put, List.setIfInBounds_toArray, List.set_cons_zero, List.set_cons_succ]
          refine wpAnyH_done (by kernel_rfl) ?_ _
          refine NoPanic.normal ?_
          have KA := hide ea
          have KB' := hide hkb
          have HB := hide (HB0.out.trans (hS.mono HB0.out.size))
          clear hS ea hkb
          go_wp2_with fail
          go_loopw [7, 8] (fun s7 s8 wr => ∃ j : Nat, j ≤ 6 ∧ s8 = .int .i64 (j : Int) ∧ wr.ownsRow w.heap.size 47 2 s7 (dif v u j).length (pcs (dif v u j)) ∧ BlkIs wr ga 3 v.cs ∧ BlkIs wr gb 3 u.cs ∧ Below w.heap.size w wr) (fun _ k _ => 6 - (intOf k).toNat)
          case atStart => exact ⟨0, by omega, rfl, World.ownsRow_nil _ _ _ _, KA.out, KB'.out, HB.out⟩
          case round =>
            clear KA KB' HB
            obtain ⟨j, hj, rfl, hown, hka, hkb, hb⟩ := hrel
            have HO := hide hown
            have HKA := hide hka
            have HKB := hide hkb
            have HB := hide hb
            clear hown hka hkb hb
            by_cases hlt : j < 6
            · have hlt' : (j : Int) < 6 := by omega
              have c5 := (HKA.out.cell j).trans (v.cs_at j (by omega))
              have c6 := (HKB.out.cell j).trans (u.cs_at j (by omega))
              by_cases hv : v.at (j + 1) = u.at (j + 1)
              · have HD := hide (dif_same hv)
                rw [hv] at c5
                clear hv
                generalize u.at (j + 1) = a at *
                go_wp2_with fail
                go_quiet (fail)
                go_wp2
                go_roundw
                case rel => exact ⟨j + 1, by omega, by go_num, by rw [HD.out]; exact own_low HO.out (below_drewN (Below.refl _ _) _), HKA.out.drewN _, HKB.out.drewN _, below_drewN HB.out _⟩
                case measure => simp [intOf]; omega
              · have HD := hide (dif_more hv)
                have hne : (v.at (j + 1) == u.at (j + 1)) = false := by simpa using hv
                obtain ⟨a0, a1⟩ := HOA.out (j + 1)
                have HLN := hide (show (dif v u j).length ≤ 6 from Nat.le_trans (dif_len v u j) (by omega))
                clear hv
                generalize u.at (j + 1) = a at *
                generalize v.at (j + 1) = av at *
                obtain ⟨k, hk⟩ : ∃ k : Int, k = (j : Int) + 1 := ⟨_, rfl⟩
                have HK := hide hk
                have e1 : IntKind.u32.wrap a = a := IntWalk.u32_in _ (by omega)
                have e2 : IntKind.u16.wrap ((j : Int) + 1) = k := by rw [hk]; exact IntWalk.u16_in _ (by omega)
                have HCK := hide (show (((j + 1 : Nat) : Int)) = k by rw [hk]; simp)
                clear hk
                go_wp2_with fail
                go_quiet (fail)
                have HO2 := hide (own_low HO.out (below_drewN (Below.refl wr.heap.size wr) nq))
                have HKA2 := hide (HKA.out.drewN nq)
                have HKB2 := hide (HKB.out.drewN nq)
                have HB2 := hide (below_drewN HB.out nq)
                have d6 : (wr.drewN nq).cell? ⟨gb, j, none⟩ = some (.int .i64 a) := c6
                clear HO HKA HKB HB c5 c6
                generalize wr.drewN nq = wq at *
                have HP := hide (pl_blk (l := [⟨k, a⟩]) (BlkIs.new wq 47 #[.int .u16 k, .int .u32 a]) (by unfold maxLen; simp))
                have HO3 := hide (own_low HO2.out (bel1 wq (.cells #[.int .u16 k, .int .u32 a] 47)))
                have HB3 := hide (HB2.out.alloc HB2.out.size (.cells #[.int .u16 k, .int .u32 a] 47))
                have HAX := hide (own_apart HO2.out HKA2.out (by decide))
                have HAY := hide (own_apart HO2.out HKB2.out (by decide))
                go_wp2_with (at_builtin; refine wpList_append_pl _ rfl (.tmp 36) (.tmp 46) rfl w.heap.size u7 (dif v u j).length (dif v u j) (by rfl) HO3.out (some ⟨wq.heap.size, 0, none⟩) 1 1 [⟨k, a⟩] (by rfl) HP.out (by have := HLN.out; omega) HB3.out.size ?_; intro v1 w1 hown1 hg1; have HB4 := hide (own_bel HO3.out HB3.out (Nat.le_refl _) (Nat.le_refl _) hg1); have HO4 := hide hown1; have HKA4 := hide (blk_grown (HKA2.out.alloc _) hg1 HAX.out); have HKB4 := hide (blk_grown (HKB2.out.alloc _) hg1 HAY.out); clear hown1 hg1 e2)
                rw [HCK.out] at HD
                rw [← HD.out] at HO4
                go_roundw
                case rel => exact ⟨j + 1, by omega, by go_num, by rw [show (dif v u (j + 1)).length = (dif v u j).length + 1 by rw [HD.out]; simp]; exact HO4.out, HKA4.out, HKB4.out, HB4.out⟩
                case measure => simp [intOf]; omega
            · obtain rfl : j = 6 := by omega
              have HO2 := HO.out
              rw [← HX.out] at HO2
              go_wp2
              obtain ⟨A, c, rfl, hpl⟩ := own_prs HO2
              go_ret
              exact ⟨A, c, rfl, hpl, HB.out⟩)
        exact AllReadyH.nil)
      exact AllReadyH.nil
end Go.Proofs.Ytlcnenkfineddaa
