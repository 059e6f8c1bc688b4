/-
  Layer 15: the document's Check, where something began (written by gen15rcheck.py).
-/
import Derived.Test.YtjjgnhdaaicmeaaRdKnown
import Derived.Deep.QuietTactic
import Derived.BigQuiet
import Derived.Deep.Cut
import Derived.Deep.CutRange
import Derived.Deep.DeepCutAuto
import Derived.StillTailTactics
namespace Go.Proofs.Ytjjgnhdaaicmeaa
set_option linter.unusedSimpArgs false
set_option linter.unusedVariables false
open Go.RowKit

set_option maxRecDepth 100000 in
set_option maxHeartbeats 6400000 in
theorem rd_chk_odd (L : Int) (op cu : List Int) (A : Option Addr) (n c : Nat) (B : Option Addr) (m d : Nat) (ck : Int) (w : World) (hl : TL w ⟨L, op, cu⟩ A n c B m d) (h0 : ¬ L = 0) (ho : oddB L = true) (hk : Known L op cu ck) (hf : ¬ 16 < (n : Int)) (hf2 : ¬ 8 < (m : Int)) :
    Calls Try.prog 10 #[.agg #[.int .i64 L, .slice A n c, .slice B m d]] w fun e w' => e = .returned (.int .i64 ck) ∧ Below w.heap.size w w' := by
  have HK := hide hk
  have HB1 := hide (bel1 w (.cells #[.int .i64 L, .slice A n c, .slice B m d] 24))
  have HBK := hide (BlkIs.new w 24 #[.int .i64 L, .slice A n c, .slice B m d])
  have HL1 := hide (hl.keep HB1.out)
  have HN := hide (show (n : Int) ≤ 1000000 by omega)
  have HM := hide (show (m : Int) ≤ 1000000 by omega)
  have HNM := hide (show (n : Int) ≤ 16 ∧ (m : Int) ≤ 8 by omega)
  have HC := hide (fun w => rd_odd L w)
  rw [ho] at HC
  clear ho
  have HLN : Hid (op.length = n) := hl.op.len
  have HLM : Hid (cu.length = m) := hl.cu.len
  clear hl hk
  go_enter Try.func10, Try.ntmps10
  go_wp2_with (go_at_call 18; refine (HC.out _).mono ?_; rintro e w2 ⟨rfl, rfl⟩)
  clear hf hf2
  go_loopw [3] (fun s wr => ∃ i : Nat, s = .int .i64 (i : Int) ∧ Hid (1 ≤ i ∧ (i ≤ n ∨ i = 1) ∧ ∀ q x y, q + 1 < i → op[q]? = some x → op[q + 1]? = some y → x < y) ∧ Hid (Below (w.alloc (.cells #[.int .i64 L, .slice A n c, .slice B m d] 24)).heap.size (w.alloc (.cells #[.int .i64 L, .slice A n c, .slice B m d] 24)) wr)) (fun s _ => 17 - (intOf s).toNat)
  case atStart => exact ⟨1, rfl, ⟨by omega, .inr rfl, fun q x y hq => by omega⟩, Below.refl _ _⟩
  case round =>
    obtain ⟨i, rfl, HO, HB⟩ := hrel
    obtain ⟨k0, k1, k2⟩ := cells3 (HBK.out.keep HB.out)
    have HL2 := hide (HL1.out.keep HB.out)
    have HBW := hide (HB1.out.trans (HB.out.mono HB1.out.size))
    by_cases hlt : i < n
    · obtain ⟨j, rfl⟩ : ∃ j, i = j + 1 := ⟨i - 1, by have := HO.out.1; omega⟩
      obtain ⟨y, b, off, hy, rfl, hbl, c1, -⟩ := HL2.out.op.round hlt
      obtain ⟨x, b', off', hx, e, -, c0, -⟩ := HL2.out.op.round (show j < n by omega)
      injection e with e
      injection e with e1 e2
      subst e1 e2
      have HX := hide hx
      have HY := hide hy
      have HJ := hide hlt
      clear hx hy
      obtain ⟨z, hz⟩ : ∃ z : Int, z = ((j + 1 : Nat) : Int) := ⟨_, rfl⟩
      have hz1 : z - 1 = (j : Int) := by omega
      have hzn : z < (n : Int) := by omega
      have hz0 : 0 < z := by omega
      have hzt : z.toNat = j + 1 := by omega
      have hn16 : (n : Int) ≤ 16 := HNM.out.1
      have HZ := hide hz
      rw [← hz]
      clear hlt hz
      by_cases hyx : y ≤ x
      · have HE := hide (HK.out.r10 (rise_no HX.out HY.out hyx))
        go_wp2_with fail
        go_quiet (fail)
        go_wp2
        go_ret
        exact ⟨by rw [HE.out]; rfl, by simpa using below_drewN HBW.out _⟩
      · go_wp2_with fail
        go_quiet (fail)
        go_wp2
        go_roundw
        case rel => exact ⟨j + 1 + 1, by rw [HZ.out]; go_num, ⟨by omega, .inl HJ.out, fun q a d hq ha hd => by
          by_cases e : q = j
          · subst e
            rw [HX.out] at ha; rw [HY.out] at hd
            injection ha with ha; injection hd with hd
            omega
          · exact HO.out.2.2 q a d (by omega) ha hd⟩, by simpa [Hid] using below_drewN HB.out _⟩
        case measure => have h1 := HNM.out.1; have h2 := HZ.out; simp [intOf]; omega
    · have hge : ¬ (i : Int) < (n : Int) := by omega
      have HRI := hide (show riseB op = true from rise_yes (fun k x y hx hy => HO.out.2.2 k x y (by have h1 := (List.getElem?_eq_some_iff.1 hy).1; have h2 := HLN.out; omega) hx hy))
      have HG1 := hide (rd_began A n c op L _ HL2.out.op HN.out)
      have HG2 := hide (rd_began B m d cu L _ HL2.out.cu HM.out)
      clear HO
      cases hg1 : begunB op L with
      | false =>
        have HE := hide (HK.out.r4a HRI.out hg1)
        rw [hg1] at HG1
        clear hg1 HG2
        go_wp2_with (go_at_call 23; refine HG1.out.mono ?_; rintro e w2 ⟨rfl, rfl⟩)
        go_ret
        exact ⟨by rw [HE.out]; rfl, HBW.out⟩
      | true =>
        rw [hg1] at HG1
        cases hg2 : begunB cu L with
        | false =>
          have HE := hide (HK.out.r4b HRI.out hg1 hg2)
          rw [hg2] at HG2
          clear hg1 hg2
          go_wp2_with fail
          refine HG1.out.mono ?_
          rintro e w2 ⟨rfl, rfl⟩
          go_wp2_with fail
          refine HG2.out.mono ?_
          rintro e w2 ⟨rfl, rfl⟩
          go_wp2
          go_ret
          exact ⟨by rw [HE.out]; rfl, HBW.out⟩
        | true =>
          have H12 := hide (HK.out.r12 HRI.out hg1 hg2)
          have H00 := hide (HK.out.r0 HRI.out hg1 hg2)
          rw [hg2] at HG2
          clear hg1 hg2
          go_wp2_with fail
          refine HG1.out.mono ?_
          rintro e w2 ⟨rfl, rfl⟩
          go_wp2_with fail
          refine HG2.out.mono ?_
          rintro e w2 ⟨rfl, rfl⟩
          go_wp2_with fail
          clear k0 k1 k2 HG1 HG2 hge
          obtain ⟨w5, rfl⟩ : ∃ w5, w5 = wr := ⟨_, rfl⟩
          obtain ⟨i0, rfl⟩ : ∃ i0, i0 = i := ⟨_, rfl⟩
          have HBK5 := hide (HBK.out.keep HB.out)
          go_loopw [4] (fun s wr => ∃ i : Nat, i ≤ m ∧ s = .int .i64 (i : Int) ∧ Hid (∀ q x, q < i → cu[q]? = some x → x ∉ op ∧ x ∉ cu.take q) ∧ Hid (Below w5.heap.size w5 wr)) (fun s _ => m - (intOf s).toNat)
          case atStart => exact ⟨0, by omega, rfl, fun q x hq => by omega, Below.refl _ _⟩
          case round =>
            obtain ⟨i, hi, rfl, HO, HB6⟩ := hrel
            obtain ⟨k0, k1, k2⟩ := cells3 (HBK5.out.keep HB6.out)
            have HL6 := hide (HL2.out.keep HB6.out)
            have HBW6 := hide (HBW.out.trans (HB6.out.mono HBW.out.size))
            by_cases hlt : i < m
            · have hlt' : (i : Int) < (m : Int) := by omega
              obtain ⟨x, b, off, hx, rfl, hbl, c1, -⟩ := HL6.out.cu.round hlt
              have HX := hide hx
              clear hx
              have hm8 : (m : Int) ≤ 8 := HNM.out.2
              have HI1 := hide (fun k => rd_In2 A n c op x (wr.drewN k) (HL6.out.op.keep (below_drewN (Below.refl _ _) k)) HN.out)
              have HI2 := hide (fun k => rd_In2 (some ⟨b, off, none⟩) i d (cu.take i) x (wr.drewN k) ((HL6.out.cu.take hi).keep (below_drewN (Below.refl _ _) k)) (by omega))
              have HCM := hide (Nat.le_trans hi HL6.out.cu.le)
              have hcd : (i : Int) ≤ (d : Int) := by have := HCM.out; omega
              cases h1 : decide (x ∈ op) with
              | true =>
                have HE := hide (H12.out (tw_hit HX.out (.inl (by simpa using h1))))
                rw [h1] at HI1
                clear h1 HI2
                go_wp2_with fail
                go_quiet (first | (go_at_call 19; with_reducible exact Calls.quiet_of_same (HI1.out _)))
                go_wp2
                go_ret
                exact ⟨by rw [HE.out]; rfl, by simpa using below_drewN HBW6.out _⟩
              | false =>
                have HN1 := hide (show x ∉ op by simpa using h1)
                rw [h1] at HI1
                clear h1
                cases h2 : decide (x ∈ cu.take i) with
                | true =>
                  have HE := hide (H12.out (tw_hit HX.out (.inr (by simpa using h2))))
                  rw [h2] at HI2
                  clear h2
                  go_wp2_with fail
                  go_quiet (first | (go_at_call 19; with_reducible exact Calls.quiet_of_same (HI1.out _)) | (go_at_call 19; with_reducible exact Calls.quiet_of_same (HI2.out _)))
                  go_wp2
                  go_ret
                  exact ⟨by rw [HE.out]; rfl, by simpa using below_drewN HBW6.out _⟩
                | false =>
                  have HN2 := hide (show x ∉ cu.take i by simpa using h2)
                  rw [h2] at HI2
                  clear h2
                  go_wp2_with fail
                  go_quiet (first | (go_at_call 19; with_reducible exact Calls.quiet_of_same (HI1.out _)) | (go_at_call 19; with_reducible exact Calls.quiet_of_same (HI2.out _)))
                  go_wp2
                  go_roundw
                  case rel => exact ⟨i + 1, by omega, by go_num, fun q y hq hy => by
                    by_cases e : q = i
                    · subst e
                      have hx : cu[q]? = some x := HX.out
                      rw [hy] at hx
                      injection hx with hx
                      rw [hx]
                      exact ⟨HN1.out, HN2.out⟩
                    · exact HO.out q y (by omega) hy, by simpa [Hid] using below_drewN HB6.out _⟩
                  case measure => simp [intOf]; omega
            · have hge : ¬ (i : Int) < (m : Int) := by omega
              have HE := hide (H00.out (tw_none HRI.out (fun q x hx => HO.out q x (by have h1 := (List.getElem?_eq_some_iff.1 hx).1; have h2 := HLM.out; omega) hx)))
              go_wp2
              go_ret
              exact ⟨by rw [HE.out]; rfl, HBW6.out⟩
end Go.Proofs.Ytjjgnhdaaicmeaa
