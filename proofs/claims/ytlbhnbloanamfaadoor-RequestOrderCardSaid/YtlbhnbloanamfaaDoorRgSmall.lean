/-
  Layer 17: the document's pseudo, front.
-/
import Derived.Test.YtlbhnbloanamfaaDoorRqRight
import Derived.Test.YtlbhnbloanamfaaDoorRqNum
namespace Go.Proofs.YtlbhnbloanamfaaDoor
set_option linter.unusedSimpArgs false
set_option linter.unusedVariables false
open Go.RowKit

theorem pref_one (c : UInt8) {s : ByteArray} (h : 0 < s.size) : prefB ⟨#[c]⟩ s = decide ((bts s).getD 0 0 = (c.toNat : Int)) := by
  unfold prefB
  have h1 : (⟨#[c]⟩ : ByteArray).size = 1 := rfl
  rw [h1, decide_eq_true (show 1 ≤ s.size by omega), Bool.true_and]
  refine decide_eq_decide.2 ⟨fun e => ?_, fun e => ?_⟩
  · have := congrArg bts e
    rw [bts_extract, List.drop_zero] at this
    have h2 : (bts s).length = s.size := bts_len s
    cases hb : bts s with
    | nil => rw [hb] at h2; simp at h2; omega
    | cons a r =>
      rw [hb] at this
      simp [bts] at this
      simp [this]
  · refine bts_inj ?_
    rw [bts_extract, List.drop_zero]
    have h2 : (bts s).length = s.size := bts_len s
    cases hb : bts s with
    | nil => rw [hb] at h2; simp at h2; omega
    | cons a r =>
      rw [hb] at e
      simp [bts] at e ⊢
      exact e

set_option maxRecDepth 100000 in
set_option maxHeartbeats 1600000 in
theorem rg_pseudo (f : Fd) (hs : (f.n.size : Int) ≤ 100000) (w : World) :
    Calls Tryd.prog 56 #[.agg #[.string f.n, .string f.v, .bool f.x]] w fun e w' => e = .returned (.bool (psF f)) ∧ Below w.heap.size w w' := by
  obtain ⟨n, v, x⟩ := f
  obtain ⟨C, hC⟩ : ∃ C, C = psF ⟨n, v, x⟩ := ⟨_, rfl⟩
  rw [← hC]
  have HC := hide hC
  clear hC
  simp only at hs ⊢
  have HB := hide (bel1 w (.cells #[.string n, .string v, .bool x] 42))
  by_cases h0 : n.size = 0
  · obtain rfl := ba_empty h0
    have HT := hide (show psF ⟨⟨#[]⟩, v, x⟩ = false by rfl)
    clear h0 hs
    go_enter Tryd.func56, Tryd.ntmps56
    go_wp2
    go_ret
    exact ⟨by rw [HC.out, HT.out]; rfl, HB.out⟩
  · have hp : 0 < n.size := by omega
    have he := empty_no (s := n) (by omega)
    have heq : (n.toList == []) = false := by cases h : n.toList with | nil => (rw [h] at he; cases he) | cons a r => rfl
    have hen : (n.toList != []) = true := by rw [bne, heq]; rfl
    have HB0 := bts_get n 0 hp
    obtain ⟨y, hy⟩ : ∃ y, y = ((n[0].toNat : Nat) : Int) := ⟨_, rfl⟩
    rw [← hy] at HB0
    have hy' := hy.symm
    have HT := hide (show psF ⟨n, v, x⟩ = decide (y = 58) by unfold psF bColon; rw [pref_one 58 hp, HB0]; rfl)
    clear hy HB0 h0
    by_cases hy58 : y = 58
    · have d0 : (y == 58) = true := by simpa using hy58
      rw [decide_eq_true hy58] at HT
      clear hy58
      go_enter Tryd.func56, Tryd.ntmps56
      go_wp2
      go_ret
      exact ⟨by rw [HC.out, HT.out]; rfl, HB.out⟩
    · have d0 : (y == 58) = false := by simpa using hy58
      rw [decide_eq_false hy58] at HT
      clear hy58
      go_enter Tryd.func56, Tryd.ntmps56
      go_wp2
      go_ret
      exact ⟨by rw [HC.out, HT.out]; rfl, HB.out⟩

set_option maxRecDepth 100000 in
set_option maxHeartbeats 1600000 in
theorem rg_front (A : Option Addr) (n c : Nat) (l : List Fd) (w : World) (hfl : FL w A n c l) (hm : Mod l) :
    Calls Tryd.prog 31 #[.slice A n c] w fun e w' => e = .returned (.int .i64 ((hdL l).length : Int)) ∧ Below w.heap.size w w' := by
  have hn : (n : Int) ≤ 1000 := by have := hm.1; have := hfl.len; omega
  have HFL := hide hfl
  have HM := hide hm
  clear hfl hm
  obtain ⟨K, hK⟩ : ∃ K : Nat, K = (hdL l).length := ⟨_, rfl⟩
  rw [← hK]
  have HK := hide hK
  clear hK
  go_enter Tryd.func31, Tryd.ntmps31
  go_wp2_with fail
  go_loopw [3] (fun k wr => ∃ i : Nat, i ≤ n ∧ k = .int .i64 (i : Int) ∧ NoneYet (fun f => !psF f) l i ∧ Below w.heap.size w wr) (fun k _ => n - (intOf k).toNat)
  case atStart => exact ⟨0, by omega, rfl, .zero _ _, Below.refl _ _⟩
  case round =>
    obtain ⟨i, hi, rfl, hno, hb⟩ := hrel
    have HB := hide hb
    have HNO := hide hno
    clear hb hno
    by_cases hlt : i < n
    · have hlt' : (i : Int) < (n : Int) := by omega
      obtain ⟨f, b, off, hfd, rfl, hbl, c0, c1, c2⟩ := (HFL.out.keep HB.out).round hlt
      have HFD := hide hfd
      have hsz := HM.out.at hfd
      have HC := hide (rg_pseudo f hsz.1 wr)
      obtain ⟨v, hv⟩ : ∃ v, v = psF f := ⟨_, rfl⟩
      rw [← hv] at HC
      have HV := hide hv.symm
      clear hfd hv hsz
      cases v with
      | false =>
        go_wp2_with (go_at_call 56; refine HC.out.mono ?_; rintro e w2 ⟨rfl, hb2⟩; have HB2 := hide hb2; clear hb2)
        go_ret
        have hp := parted_idx (l := l) (r := (i : Int)) (.inr ⟨i, f, rfl, HFD.out, by simp [HV.out], HNO.out⟩)
        have hk : K = i := by rw [HK.out, hdL]; rcases hp with h | h <;> omega
        exact ⟨by rw [hk]; rfl, HB.out.trans (HB2.out.mono HB.out.size)⟩
      | true =>
        go_wp2_with (go_at_call 56; refine HC.out.mono ?_; rintro e w2 ⟨rfl, hb2⟩; have HB2 := hide hb2; clear hb2)
        go_roundw
        case rel => exact ⟨i + 1, by omega, by go_num, HNO.out.succ HFD.out (by simp [HV.out]), HB.out.trans (HB2.out.mono HB.out.size)⟩
        case measure => simp [intOf]; omega
    · have hge : ¬ (i : Int) < (n : Int) := by omega
      obtain rfl : i = n := by omega
      go_wp2
      go_ret
      have hk : K = i := by rw [HK.out, hdL, tw_all (fun f hf => by have := NoneYet.all (p := fun f => !psF f) (by rw [HFL.out.len]; exact HNO.out) f hf; simpa using this), HFL.out.len]
      exact ⟨by rw [hk]; rfl, HB.out⟩
end Go.Proofs.YtlbhnbloanamfaaDoor
