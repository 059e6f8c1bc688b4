/-
  WindowThere: its walk: for every window and three numbers the Go text returns true, and leaves what was there as it was.
-/
import Derived.Test.YtkigclbmkifbbaaWiAwake
import Derived.BigGuardPart
import Derived.Deep.QuietTactic
import Derived.BigQuiet
import Derived.Deep.CutRange
import Derived.Deep.DeepCutAuto
import Derived.StillTailTactics
namespace Go.Proofs.Ytkigclbmkifbbaa.windowThere
set_option linter.unusedSimpArgs false
set_option linter.unusedVariables false
open Go.RowKit

set_option maxRecDepth 100000 in
set_option maxHeartbeats 3200000 in
theorem walk_at (x n0 n1 n2 : Int) (a b c : Nat) (w : World) (hx0 : -2147483648 ≤ x) (hx1 : x ≤ 2147483647) (hn0 : 0 ≤ n0 ∧ n0 ≤ 4294967295) (hn1 : 0 ≤ n1 ∧ n1 ≤ 4294967295) (hn2 : 0 ≤ n2 ∧ n2 ≤ 4294967295)
    (ha : n0 % 2147483648 = a) (hb : n1 % 2147483648 = b) (hc : n2 % 2147483648 = c) :
    Calls Try.prog 6 #[.int .i32 x, .agg #[.int .u32 n0, .int .u32 n1, .int .u32 n2]] w fun e w' => e = .returned (.bool true) ∧ Below w.heap.size w w' := by
  have ha1 : (a : Int) ≤ 2147483647 := by omega
  have hb1 : (b : Int) ≤ 2147483647 := by omega
  have hc1 : (c : Int) ≤ 2147483647 := by omega
  obtain ⟨n00, n01⟩ := hn0
  obtain ⟨n10, n11⟩ := hn1
  obtain ⟨n20, n21⟩ := hn2
  have HAW := hide aw_window
  have HBK := hide (BlkIs.new w 50 #[.int .u32 n0, .int .u32 n1, .int .u32 n2])
  have HB0 := hide (bel1 w (.cells #[.int .u32 n0, .int .u32 n1, .int .u32 n2] 50))
  have C1 := hide (fun w => wi_Check x w)
  have S1 := hide (fun w => wi_Shift x a b w)
  have fa : isF (a : Int) = true := isF_yes.2 ⟨by omega, by omega⟩
  have fb : isF (b : Int) = true := isF_yes.2 ⟨by omega, by omega⟩
  have fc : isF (c : Int) = true := isF_yes.2 ⟨by omega, by omega⟩
  obtain ⟨wa, hwa⟩ : ∃ wa, wa = w.alloc (.cells #[.int .u32 n0, .int .u32 n1, .int .u32 n2] 50) := ⟨_, rfl⟩
  rw [← hwa] at HBK HB0
  have HWA := hide hwa
  clear hwa
  have k0 := HBK.out.cell 0
  have k1 := HBK.out.cell 1
  have k2 := HBK.out.cell 2
  simp only [List.getElem?_toArray, List.getElem?_cons_zero, List.getElem?_cons_succ] at k0 k1 k2
  cases hxw : isW x with
  | false =>
    rw [show chkW x = 8 by rw [chkW, hxw]; rfl] at C1
    clear S1 fa fb fc hxw
    go_enter Try.func6, Try.ntmps6
    go_upto_region 1 with (fail)
    rw [← HWA.out]
    go_quiet (fail)
    have HB1 := hide (below_drewN HB0.out nq)
    go_wp2_with fail
    refine (C1.out _).mono ?_
    rintro e w' ⟨rfl, rfl⟩
    go_wp2_with fail
    refine (HAW.out _).mono ?_
    rintro e w2 ⟨rfl, hb2⟩
    have HB2 := hide (HB1.out.trans (hb2.mono HB1.out.size))
    clear hb2
    go_wp2
    go_ret
    exact ⟨rfl, HB2.out⟩
  | true =>
    rw [show chkW x = 0 by rw [chkW, hxw]; rfl] at C1
    rw [shiftR_mov hxw fa fb] at S1
    cases hyw : isW (x + ((b : Int) - a)) with
    | false =>
      rw [movR_no hyw] at S1
      clear fa fb fc hxw hyw
      go_enter Try.func6, Try.ntmps6
      go_upto_region 1 with (fail)
      rw [← HWA.out]
      go_quiet (fail)
      have HB1 := hide (below_drewN HB0.out nq)
      go_wp2_with fail
      refine (C1.out _).mono ?_
      rintro e w' ⟨rfl, rfl⟩
      go_wp2_with fail
      refine (S1.out _).mono ?_
      rintro e w' ⟨rfl, rfl⟩
      go_wp2_with fail
      refine (HAW.out _).mono ?_
      rintro e w2 ⟨rfl, hb2⟩
      have HB2 := hide (HB1.out.trans (hb2.mono HB1.out.size))
      clear hb2
      go_wp2
      go_ret
      exact ⟨rfl, HB2.out⟩
    | true =>
      rw [movR_yes hyw] at S1
      obtain ⟨y, hy⟩ : ∃ y, y = x + ((b : Int) - a) := ⟨_, rfl⟩
      rw [← hy] at S1 hyw
      have hyx : y - x = (b : Int) - a := by omega
      obtain ⟨y0, y1⟩ := isW_yes.1 hyw
      have S2 := hide (fun w => wi_Shift y b a w)
      rw [shiftR_mov hyw fb fa, movR_yes (by rw [show y + ((a : Int) - b) = x by omega]; exact hxw), show y + ((a : Int) - b) = x by omega] at S2
      have S3 := hide (fun w => wi_Shift y b c w)
      have S4 := hide (fun w => wi_Shift x a c w)
      rw [shiftR_mov hyw fb fc] at S3
      rw [shiftR_mov hxw fa fc] at S4
      have he : y + ((c : Int) - b) = x + ((c : Int) - a) := by omega
      cases hvw : isW (x + ((c : Int) - a)) with
      | false =>
        rw [movR_no (by rw [he]; exact hvw)] at S3
        rw [movR_no hvw] at S4
        clear fa fb fc hxw hyw hvw he hy
        go_enter Try.func6, Try.ntmps6
        go_upto_region 1 with (fail)
        rw [← HWA.out]
        go_quiet (fail)
        have HB1 := hide (below_drewN HB0.out nq)
        go_wp2_with fail
        refine (C1.out _).mono ?_
        rintro e w' ⟨rfl, rfl⟩
        go_wp2_with fail
        refine (S1.out _).mono ?_
        rintro e w' ⟨rfl, rfl⟩
        go_wp2_with fail
        refine (S2.out _).mono ?_
        rintro e w' ⟨rfl, rfl⟩
        go_wp2_with fail
        refine (S3.out _).mono ?_
        rintro e w' ⟨rfl, rfl⟩
        go_wp2_with fail
        refine (S4.out _).mono ?_
        rintro e w' ⟨rfl, rfl⟩
        go_wp2_with fail
        refine (HAW.out _).mono ?_
        rintro e w2 ⟨rfl, hb2⟩
        have HB2 := hide (HB1.out.trans (hb2.mono HB1.out.size))
        clear hb2
        go_wp2
        go_ret
        exact ⟨rfl, HB2.out⟩
      | true =>
        rw [movR_yes (by rw [he]; exact hvw), he] at S3
        rw [movR_yes hvw] at S4
        obtain ⟨v, hv⟩ : ∃ v, v = x + ((c : Int) - a) := ⟨_, rfl⟩
        rw [← hv] at S3 S4
        clear fa fb fc hxw hyw hvw he hy hv
        go_enter Try.func6, Try.ntmps6
        go_upto_region 1 with (fail)
        rw [← HWA.out]
        go_quiet (fail)
        have HB1 := hide (below_drewN HB0.out nq)
        go_wp2_with fail
        refine (C1.out _).mono ?_
        rintro e w' ⟨rfl, rfl⟩
        go_wp2_with fail
        refine (S1.out _).mono ?_
        rintro e w' ⟨rfl, rfl⟩
        go_wp2_with fail
        refine (S2.out _).mono ?_
        rintro e w' ⟨rfl, rfl⟩
        go_wp2_with fail
        refine (S3.out _).mono ?_
        rintro e w' ⟨rfl, rfl⟩
        go_wp2_with fail
        refine (S4.out _).mono ?_
        rintro e w' ⟨rfl, rfl⟩
        go_wp2_with fail
        refine (HAW.out _).mono ?_
        rintro e w2 ⟨rfl, hb2⟩
        have HB2 := hide (HB1.out.trans (hb2.mono HB1.out.size))
        clear hb2
        go_wp2
        go_ret
        exact ⟨rfl, HB2.out⟩

theorem walk (a0 : Int) (l : List Int) (hl : l.length = 3) (w1 : ∀ a ∈ l, (Lit.int .u32 a).wf = true) (w : World) (w0 : (Lit.int .i32 a0).wf = true) :
    Calls Try.prog 6 #[.int .i32 a0, .agg (l.map (Value.int .u32)).toArray] w fun e w' => e = .returned (.bool true) ∧ Below w.heap.size w w' := by
  have hw := bounds_i32 w0
  match l, hl with
  | [n0, n1, n2], _ =>
    have h0 := bounds_u32 (w1 n0 (by simp))
    have h1 := bounds_u32 (w1 n1 (by simp))
    have h2 := bounds_u32 (w1 n2 (by simp))
    exact walk_at a0 n0 n1 n2 (n0 % 2147483648).toNat (n1 % 2147483648).toNat (n2 % 2147483648).toNat w hw.1 hw.2 h0 h1 h2 (by omega) (by omega) (by omega)
end Go.Proofs.Ytkigclbmkifbbaa.windowThere
