/-
  Layer 19: the program's Check: Index, Contains, isCount (written by gen19small.py).
-/
import Derived.Test.YtfcokhdkjoimmaaOqLen
namespace Go.Proofs.Ytfcokhdkjoimmaa
set_option linter.unusedSimpArgs false
set_option linter.unusedVariables false
open Go.RowKit
set_option maxRecDepth 100000 in
set_option maxHeartbeats 1600000 in
theorem oq_isCount (n : Int) (w : World) : Calls Try.prog 21 #[.int .i64 n] w fun e w' => e = .returned (.bool (isC n)) ∧ w = w' := by
  unfold isC
  rcases Int.lt_or_le n 0 with h1 | h1
  · rw [decide_eq_false (by omega), Bool.false_and]
    go_enter Try.func21, Try.ntmps21
    go_wp2
    all_goals first | (exfalso; omega) | (go_ret; exact ⟨rfl, rfl⟩)
  · rw [decide_eq_true h1, Bool.true_and]
    go_enter Try.func21, Try.ntmps21
    go_wp2
    all_goals first | (exfalso; omega) | (go_ret; exact ⟨rfl, rfl⟩)
set_option maxRecDepth 100000 in
set_option maxHeartbeats 1600000 in
theorem rq_in (n : Int) (w : World) : Calls Try.prog 25 #[.int .i64 n] w fun e w' => e = .returned (.bool (isC n)) ∧ w = w' := by
  unfold isC
  rcases Int.lt_or_le n 0 with h1 | h1
  · rw [decide_eq_false (by omega), Bool.false_and]
    go_enter Try.func25, Try.ntmps25
    go_wp2
    all_goals first | (exfalso; omega) | (go_ret; exact ⟨rfl, rfl⟩)
  · rw [decide_eq_true h1, Bool.true_and]
    go_enter Try.func25, Try.ntmps25
    go_wp2
    all_goals first | (exfalso; omega) | (go_ret; exact ⟨rfl, rfl⟩)

/-- What Index answers of the empty text. -/
def IdxE (E : Bool) (r : Int) : Prop := (r = -1 ∧ E = true) ∨ (0 ≤ r ∧ r ≤ 10000 ∧ E = false)
set_option maxRecDepth 100000 in
set_option maxHeartbeats 1600000 in
theorem oq_Index (A : Option Addr) (n c : Nat) (l : List ByteArray) (w : World) (hl : TX w A n c l) (hn : (n : Int) ≤ 10000) :
    Calls Try.prog 27 #[.slice A n c, .string ⟨#[]⟩] w fun e w' => ∃ r, e = .returned (.int .i64 r) ∧ IdxE (noneE l) r ∧ w = w' := by
  have HL := hide hl
  clear hl
  go_enter Try.func27, Try.ntmps27
  go_wp2_with fail
  go_loop [8] (fun k => ∃ i : Nat, i ≤ n ∧ k = .int .i64 (i : Int) ∧ Hid (∀ j s, j < i → l[j]? = some s → s.size ≠ 0)) (fun k => n - (intOf k).toNat)
  case atStart => exact ⟨0, by omega, rfl, fun j y hj => by omega⟩
  case round =>
    obtain ⟨i, hi, rfl, HO⟩ := hrel
    by_cases hlt : i < n
    · have hlt' : (i : Int) < (n : Int) := by omega
      obtain ⟨s, b, off, hs, rfl, hbl, c0⟩ := HL.out.round hlt
      have HX := hide hs
      have he := lit_eq s []
      have he2 : ((⟨#[]⟩ : ByteArray).toList == s.toList) = decide (s = ⟨#[]⟩) := by rw [str_eq]; exact decide_eq_decide.2 eq_comm
      have he3 : (([] : List UInt8) == s.toList) = decide (s = ⟨#[]⟩) := by rw [BEq.comm]; exact lit_eq s []
      clear hs
      by_cases hz : s = ⟨#[]⟩
      · have HZ := hide (show s.size = 0 by rw [hz]; rfl)
        rw [decide_eq_true hz] at he2 he3
        rw [decide_eq_true (by rw [hz])] at he
        clear hz
        go_wp2
        go_ret
        exact ⟨(i : Int), rfl, Or.inr ⟨by omega, by omega, noneE_no HX.out HZ.out⟩, rfl⟩
      · have HZ := hide (show s.size ≠ 0 from fun e => hz (ba_empty e))
        rw [decide_eq_false hz] at he2 he3
        rw [decide_eq_false hz] at he
        clear hz
        go_wp2
        go_round
        case rel => exact ⟨i + 1, by omega, by go_num, fun j y hj hy => by
          by_cases e : j = i
          · subst e
            rw [HX.out] at hy
            injection hy with hy
            rw [← hy]; exact HZ.out
          · exact HO.out j y (by omega) hy⟩
        case measure => simp [intOf]; omega
    · have hge : ¬ (i : Int) < (n : Int) := by omega
      obtain rfl : i = n := by omega
      go_wp2
      go_ret
      exact ⟨-1, rfl, Or.inl ⟨rfl, noneE_all fun j s hj hs => HO.out j s (by have h2 := HL.out.len; omega) hs⟩, rfl⟩
set_option maxRecDepth 100000 in
set_option maxHeartbeats 1600000 in
theorem oq_Contains (A : Option Addr) (n c : Nat) (l : List ByteArray) (w : World) (hl : TX w A n c l) (hn : (n : Int) ≤ 10000) :
    Calls Try.prog 24 #[.slice A n c, .string ⟨#[]⟩] w fun e w' => e = .returned (.bool (!noneE l)) ∧ w = w' := by
  have HC := hide (oq_Index A n c l w hl hn)
  clear hl
  generalize noneE l = E at HC ⊢
  go_enter Try.func24, Try.ntmps24
  go_wp2_with fail
  refine HC.out.mono ?_
  rintro e w2 ⟨r, rfl, hr, rfl⟩
  rcases hr with ⟨rfl, rfl⟩ | ⟨h1, h2, rfl⟩
  · go_wp2
    go_ret
    exact ⟨rfl, rfl⟩
  · have hge : (0 : Int) ≤ r := h1
    go_wp2
    all_goals first | (exfalso; omega) | (go_ret; exact ⟨rfl, rfl⟩)

set_option maxRecDepth 100000 in
set_option maxHeartbeats 1600000 in
theorem oq_Check (q : Qu) (A : Option Addr) (n c : Nat) (w : World) (hl : QL w q A n c) :
    Calls Try.prog 14 #[.agg #[.slice A n c, .int .i64 q.m, .int .i64 q.g]] w fun e w' => e = .returned (.int .i64 (chkQ q)) ∧ Below w.heap.size w w' := by
  have HB1 := hide (bel1 w (.cells #[.slice A n c, .int .i64 q.m, .int .i64 q.g] 28))
  have HX1 := hide (BlkIs.new w 28 #[.slice A n c, .int .i64 q.m, .int .i64 q.g])
  obtain ⟨k0, k1, k2⟩ := qcells HX1.out
  have HLN := hide (oq_Len q A n c _ (hl.keep HB1.out))
  have HCO := hide (fun w' (h : Below w.heap.size w w') => oq_Contains A n c q.ps w' (hl.tx.keep h) (by have := hl.few; omega))
  have HCM := hide (fun w' => oq_isCount q.m w')
  have HCG := hide (fun w' => oq_isCount q.g w')
  have hSM : (lenL q.ps : Int) ≤ 100000000 := by have := hl.sum; omega
  have HG := hide (show isC q.g = true → 0 ≤ q.g ∧ q.g ≤ 1099511627776 from fun h => (isC_iff _).1 h)
  have HH4 := hide (@chk_4 q)
  have HH7 := hide (@chk_7 q)
  have HH8 := hide (@chk_8 q)
  have HHG := hide (@chk_8g q)
  have HHX := hide (@chk_10 q)
  have HH0 := hide (fun a b c d e => (chk_ok q).2 ⟨a, b, ((isC_iff _).1 c).1, ((isC_iff _).1 c).2, ((isC_iff _).1 d).1, ((isC_iff _).1 d).2, e⟩)
  obtain ⟨r, hr⟩ : ∃ r, r = chkQ q := ⟨_, rfl⟩
  rw [← hr] at HH4 HH7 HH8 HHG HHX HH0 ⊢
  generalize lenL q.ps = L at *
  generalize noneE q.ps = E at *
  generalize q.m = m at *
  generalize q.g = g at *
  clear hr hl
  have h0 : (0 : Int) ≤ (L : Int) := by omega
  go_enter Try.func14, Try.ntmps14
  go_wp2_with fail
  refine HLN.out.mono ?_
  rintro e w2 ⟨rfl, hb⟩
  have HB2 := hide (HB1.out.trans (hb.mono HB1.out.size))
  clear k0 k1 k2
  obtain ⟨k0, k1, k2⟩ := qcells (HX1.out.keep hb)
  clear hb HLN
  go_wp2_with fail
  refine (HCO.out w2 HB2.out).mono ?_
  rintro e w3 ⟨rfl, rfl⟩
  clear HCO
  cases E with
  | false =>
    have HR := hide (HH4.out rfl)
    clear HH4 HH7 HH8 HHG HHX HH0
    go_wp2
    go_ret
    exact ⟨by rw [HR.out]; rfl, HB2.out⟩
  | true =>
    rcases Int.lt_or_le 65536 (L : Int) with h1 | h1
    · have HR := hide (HH7.out rfl (by omega))
      clear HH4 HH7 HH8 HHG HHX HH0
      go_wp2
      all_goals first | (exfalso; omega) | (go_ret; exact ⟨by rw [HR.out]; rfl, HB2.out⟩)
    · have HLE := hide (show L ≤ 65536 by omega)
      cases hcm : isC m with
      | false =>
        have HR := hide (HH8.out rfl HLE.out hcm)
        rw [hcm] at HCM
        clear HH4 HH7 HH8 HHG HHX HH0
        go_wp2_with (go_at_call 21; refine (HCM.out _).mono ?_; rintro e w3 ⟨rfl, rfl⟩)
        all_goals first | (exfalso; omega) | (go_ret; exact ⟨by rw [HR.out]; rfl, HB2.out⟩)
      | true =>
        cases hcg : isC g with
        | false =>
          have HR := hide (HHG.out rfl HLE.out hcm hcg)
          rw [hcm] at HCM
          rw [hcg] at HCG
          clear HH4 HH7 HH8 HHG HHX HH0
          go_wp2_with fail
          refine (HCM.out _).mono ?_
          rintro e w3 ⟨rfl, rfl⟩
          go_wp2_with fail
          refine (HCG.out _).mono ?_
          rintro e w3 ⟨rfl, rfl⟩
          go_wp2
          all_goals first | (exfalso; omega) | (go_ret; exact ⟨by rw [HR.out]; rfl, HB2.out⟩)
        | true =>
          obtain ⟨g0, g1⟩ := HG.out hcg
          by_cases hs : m = g + (L : Int)
          · have HR := hide (HH0.out rfl HLE.out hcm hcg hs)
            have hs' : (m == g + (L : Int)) = true := by simpa using hs
            rw [hcm] at HCM
            rw [hcg] at HCG
            clear HH4 HH7 HH8 HHG HHX HH0 hs
            go_wp2_with fail
            refine (HCM.out _).mono ?_
            rintro e w3 ⟨rfl, rfl⟩
            go_wp2_with fail
            refine (HCG.out _).mono ?_
            rintro e w3 ⟨rfl, rfl⟩
            go_wp2
            all_goals first | (exfalso; omega) | (go_ret; exact ⟨by rw [HR.out]; rfl, HB2.out⟩)
          · have HR := hide (HHX.out rfl HLE.out hcm hcg hs)
            have hs' : (m == g + (L : Int)) = false := by simpa using hs
            rw [hcm] at HCM
            rw [hcg] at HCG
            clear HH4 HH7 HH8 HHG HHX HH0 hs
            go_wp2_with fail
            refine (HCM.out _).mono ?_
            rintro e w3 ⟨rfl, rfl⟩
            go_wp2_with fail
            refine (HCG.out _).mono ?_
            rintro e w3 ⟨rfl, rfl⟩
            go_wp2
            all_goals first | (exfalso; omega) | (go_ret; exact ⟨by rw [HR.out]; rfl, HB2.out⟩)
end Go.Proofs.Ytfcokhdkjoimmaa
