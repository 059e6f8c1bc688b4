/-
  WindowRuns: its walk: for every window, list of acts and three numbers the Go text returns true, and leaves what was there as it was.
-/
import Derived.Test.YtkigclbmkifbbaaWiAwake
import Derived.Test.YtkigclbmkifbbaaRwRun
import Derived.StillTailTactics
import Derived.BigGuardPart
namespace Go.Proofs.Ytkigclbmkifbbaa.windowRuns
set_option linter.unusedSimpArgs false
set_option linter.unusedVariables false
open Go.RowKit

theorem own_new14 {w : World} {B n s : Nat} {e : TypeId} {v : Value} {xs : List Value} (h : w.ownsRow B e s v n xs) : v.ownBlock = none ∨ v.ownBlock ≠ some w.heap.size := by
  refine .inr fun he => ?_
  have := (h.lt _ he).2
  omega

set_option maxRecDepth 100000 in
set_option maxHeartbeats 3200000 in
theorem walk_at (a0 : Int) (A : Option Addr) (n c : Nat) (l : List Wa) (m0 m1 m2 : Int) (w : World) (hl : WL w A n c l) :
    Calls Try.prog 4 #[.int .i64 a0, .slice A n c, .agg #[.int .i64 m0, .int .i64 m1, .int .i64 m2]] w fun e w' => e = .returned (.bool true) ∧ Below w.heap.size w w' := by
  have HAW := hide aw_window
  obtain ⟨g, hg⟩ : ∃ g, g = w.heap.size := ⟨_, rfl⟩
  obtain ⟨wa, hwa⟩ : ∃ wa, wa = w.alloc (.cells #[.int .i64 m0, .int .i64 m1, .int .i64 m2] 38) := ⟨_, rfl⟩
  have HK0 := hide (show BlkIs wa g 38 #[.int .i64 m0, .int .i64 m1, .int .i64 m2] by rw [hwa, hg]; exact BlkIs.new w _ _)
  have HB0 := hide (show Below g w wa by rw [hwa, hg]; exact bel1 w _)
  have HZ0 := hide (show wa.heap.size = g + 1 by rw [hwa, hg]; simp)
  have HWA := hide hwa
  have HG := hide hg
  have HL := hide hl
  clear hwa hl
  rw [← hg]
  clear hg
  by_cases hn : (n : Int) ≤ 60
  · have hn' : ¬ (60 : Int) < (n : Int) := by omega
    have HR1 := hide (fun w' A' c' (h : WL w' A' n c' l) => wi_Run A' n c' l a0 w' h (by omega))
    have HR2 := hide (fun w' (h : WL w' A n c l) => rw_Run A n c l a0 w' h (by omega))
    have hcd : 0 ≤ (runR a0 l).2 ∧ (runR a0 l).2 ≤ 3 := by
      have key : ∀ (l : List Wa) (v : Int), 0 ≤ (runR v l).2 ∧ (runR v l).2 ≤ 3 := by
        intro l
        induction l with
        | nil => intro v; exact ⟨Int.le_refl 0, by show (0 : Int) ≤ 3; decide⟩
        | cons x l ih =>
          intro v
          unfold runR
          have := actR_code x.k v x.n
          split
          · exact ih _
          · simp only; omega
      exact key l a0
    generalize runR a0 l = r at *
    obtain ⟨r1, r2⟩ := r
    simp only at hcd HR1 HR2
    obtain ⟨r20, r23⟩ := hcd
    have M1 := hide (fun W => (wi_May a0 m0 m1 m2 W).mono (fun _ _ (h : _ ∧ _) => (⟨h.1, h.2.symm⟩ : _ ∧ _)))
    have M2 := hide (fun W => (rw_May a0 m0 m1 m2 W).mono (fun _ _ (h : _ ∧ _) => (⟨h.1, h.2.symm⟩ : _ ∧ _)))
    generalize mayR a0 m0 m1 m2 = y at *
    go_enter Try.func4, Try.ntmps4
    go_upto_region 1 with (fail)
    rw [← HG.out, ← HWA.out]
    go_wp2_with fail
    go_loopw [7, 8] (fun s7 s8 wr => ∃ i : Nat, i ≤ n ∧ s8 = .int .i64 (i : Int) ∧ wr.ownsRow (g + 1) 41 2 s7 i (wcs (l.take i)) ∧ BlkIs wr g 38 #[.int .i64 m0, .int .i64 m1, .int .i64 m2] ∧ Below g w wr ∧ g + 1 ≤ wr.heap.size) (fun _ s8 _ => n - (intOf s8).toNat)
    case atStart => exact ⟨0, by omega, rfl, World.ownsRow_nil _ _ _ _, HK0.out, HB0.out, by have := HZ0.out; omega⟩
    case round =>
      clear HK0 HB0 HZ0 HWA
      obtain ⟨i, hi, rfl, ho, hk, hb, hz⟩ := hrel
      have HO := hide ho
      have HK := hide hk
      have HB := hide hb
      have HZ := hide hz
      have HLr := hide (HL.out.keep (show Below w.heap.size w wr by rw [← HG.out]; exact hb))
      clear ho hk hb hz
      by_cases hlt : i < n
      · have hlt' : (i : Int) < (n : Int) := by omega
        obtain ⟨x, b, off, hx, rfl, hbl, c0, c1⟩ := HLr.out.round hlt
        have HTK := hide (show l.take i ++ [x] = l.take (i + 1) by rw [List.take_add_one, hx]; rfl)
        have HB2 := hide (HB.out.alloc (by have := HZ.out; omega) (.cells #[.int .u8 x.k, .int .i64 x.n] 41))
        have HK2 := hide (HK.out.alloc (.cells #[.int .u8 x.k, .int .i64 x.n] 41))
        have HO2 := hide (HO.out.alloc (.cells #[.int .u8 x.k, .int .i64 x.n] 41))
        have HY := hide (wl_blk (l := [x]) (BlkIs.new wr 41 #[.int .u8 x.k, .int .i64 x.n]) (by unfold maxLen; simp))
        have HS := hide (show g + 1 ≤ (wr.alloc (.cells #[.int .u8 x.k, .int .i64 x.n] 41)).heap.size by have := HZ.out; simp; omega)
        clear hx HO HK HB HZ
        go_wp2_with (at_builtin; refine wpList_append_wl _ rfl (.tmp 23) (.tmp 28) rfl (g + 1) _ i (l.take i) rfl HO2.out ⟨wr.heap.size, 0, none⟩ 1 1 [x] rfl HY.out (by omega) HS.out ?_; intro v1 w1 hown1 hg1; have HO1 := hide hown1; have HG1 := hide hg1; clear hown1 hg1)
        go_roundw
        case rel => exact ⟨i + 1, by omega, by go_num, by have h := HO1.out; rw [HTK.out] at h; exact h, blk_grown HK2.out HG1.out (by
          refine .inr fun he => ?_
          have := (HO2.out.lt _ he).1
          omega), own_bel HO2.out HB2.out (by omega) (by have := HG.out; omega) HG1.out, Nat.le_trans HS.out HG1.out.size⟩
        case measure => simp [intOf]; omega
      · have hge : ¬ (i : Int) < (n : Int) := by omega
        obtain rfl : i = n := by omega
        have HE := hide (show l.take i = l by rw [← HLr.out.len, List.take_length])
        rw [HE.out] at HO
        obtain ⟨A7, c7, e7, hw7⟩ := own_was HO.out
        subst e7
        have HW7 := hide hw7
        have HBg := hide (show Below w.heap.size w wr by rw [← HG.out]; exact HB.out)
        clear hw7 HO HE HB
        go_wp2_with fail
        refine (HR1.out _ _ _ HW7.out).mono ?_
        rintro e w2 ⟨rfl, hb2⟩
        have HL2 := hide (HLr.out.keep hb2)
        have HK2 := hide (HK.out.keep hb2)
        have HB2 := hide (HBg.out.trans (hb2.mono HBg.out.size))
        clear hb2 HLr HK HBg HW7 HR1
        go_wp2_with fail
        refine (HR2.out _ HL2.out).mono ?_
        rintro e w3 ⟨rfl, rfl⟩
        have k0 := HK2.out.cell 0
        have k1 := HK2.out.cell 1
        have k2 := HK2.out.cell 2
        simp only [List.getElem?_toArray, List.getElem?_cons_zero, List.getElem?_cons_succ] at k0 k1 k2
        have hee : (r1 == r1) = true := beq_self_eq_true r1
        have he2 : (r2 == r2) = true := beq_self_eq_true r2
        have hwr : IntKind.i64.wrap r2 = r2 := by rw [IntKind.wrap_i64]; omega
        have hyy : (y == y) = true := beq_self_eq_true y
        go_wp2_with fail
        refine wp_region_still_tail 29 (by kernel_rfl) (by kernel_rfl) ?_
        simp only [List.take_succ_cons, List.take_zero, List.drop_succ_cons, List.drop_zero]
        have HM1 := hide (M1.out w2.drew)
        have HM2 := hide (M2.out w2.drew)
        clear M1 M2
        repeat still_step
        still_call (HM1.out)
        repeat still_step
        still_call (HM2.out)
        repeat still_step
        refine wpStill_nil ?_
        change wpList _ _ _ _ _ w2.drew
        have HF := hide HB2.out.drew
        clear k0 k1 k2
        go_wp2_with fail
        refine (HAW.out _).mono ?_
        rintro e w4 ⟨rfl, hb4⟩
        have HB4 := hide hb4
        clear hb4
        go_wp2_with fail
        go_ret
        exact ⟨rfl, by rw [HG.out]; exact HF.out.trans (HB4.out.mono HF.out.size)⟩
  · have hn' : (60 : Int) < (n : Int) := by omega
    go_enter Try.func4, Try.ntmps4
    go_upto_region 1 with (fail)
    rw [← HG.out, ← HWA.out]
    go_wp2_with fail
    refine (HAW.out _).mono ?_
    rintro e w4 ⟨rfl, hb4⟩
    have HB4 := hide (HB0.out.trans (hb4.mono (by have := HZ0.out; omega)))
    clear hb4
    go_wp2
    go_ret
    exact ⟨rfl, HB4.out⟩

theorem walk (a0 : Int) (A : Option Addr) (n c : Nat) (l : List Wa) (l2 : List Int) (hl2 : l2.length = 3) (w2 : ∀ a ∈ l2, (Lit.int .i64 a).wf = true) (w : World) (w0 : (Lit.int .i64 a0).wf = true) (hl : WL w A n c l) (ha : AllW l) :
    Calls Try.prog 4 #[.int .i64 a0, .slice A n c, .agg (l2.map (Value.int .i64)).toArray] w fun e w' => e = .returned (.bool true) ∧ Below w.heap.size w w' := by
  match l2, hl2 with
  | [m0, m1, m2], _ => exact walk_at a0 A n c l m0 m1 m2 w hl
end Go.Proofs.Ytkigclbmkifbbaa.windowRuns
