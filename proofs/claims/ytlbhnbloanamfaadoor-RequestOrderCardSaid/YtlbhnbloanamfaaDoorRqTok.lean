/-
  Layer 17: isMadeOf, Token (both), the document's method.
-/
import Derived.Test.YtlbhnbloanamfaaDoorRqBytes
import Derived.Test.YtlbhnbloanamfaaDoorStrRow
import Derived.WalkMore
import Derived.Shelf.Abstract
namespace Go.Proofs.YtlbhnbloanamfaaDoor
set_option linter.unusedSimpArgs false
set_option linter.unusedVariables false
open Go.RowKit

theorem rq_enters {fn : FuncId} {f : Func} (hf : Tryd.prog.funcs[fn]? = some f) (h0 : (f.name == "runtime.NumGoroutine") = false) (h1 : f.body.isNone = false) (args : Array Value) (w : World) : (callFunc fn args).run Tryd.prog w = .ok (.enter fn args) w := by
  cases hb : f.body with
  | none => rw [hb] at h1; cases h1
  | some c => exact enters_of hf h0 hb args w

/-- A function value that says of each byte whether it may stand there. -/
structure MayIs (fn : FuncId) (p : Int → Bool) : Prop where
  ent : ∀ args w, (callFunc fn args).run Tryd.prog w = .ok (.enter fn args) w
  step : ∀ z w, 0 ≤ z → z ≤ 255 → Calls Tryd.prog fn #[.int .u8 z] w fun e w' => e = .returned (.bool (p z)) ∧ w = w'

theorem may_name : MayIs 40 nameI where
  ent := rq_enters Tryd.func40 (by kernel_rfl) (by kernel_rfl)
  step := fun z w h0 h1 => rq_isOfName z h0 h1 w
theorem may_method : MayIs 51 methI where
  ent := rq_enters Tryd.func51 (by kernel_rfl) (by kernel_rfl)
  step := fun z w h0 h1 => rq_isOfMethod z h0 h1 w

theorem empty_no {s : ByteArray} (h : 0 < s.size) : s.toList.isEmpty = false := by rw [is_empty, decide_eq_false (by omega)]
theorem toList_no {s : ByteArray} (h : 0 < s.size) : (s.toList == []) = false := by
  have := empty_no h
  cases e : s.toList with
  | nil => rw [e] at this; simp at this
  | cons a l => rfl

set_option maxRecDepth 100000 in
set_option maxHeartbeats 3200000 in
theorem rq_isMadeOf (s : ByteArray) (fn : FuncId) (p : Int → Bool) (hm : MayIs fn p) (hs : (s.size : Int) ≤ 1000000) (w : World) :
    Calls Tryd.prog 39 #[.string s, .func (.func fn) #[] #[]] w fun e w' => e = .returned (.bool (madeB p s)) ∧ Below w.heap.size w w' := by
  obtain ⟨C, hC⟩ : ∃ C, C = madeB p s := ⟨_, rfl⟩
  rw [← hC]
  have HC := hide hC
  have HM := hide hm
  have eg := hm.ent
  clear hC hm
  by_cases h0 : s.size = 0
  · obtain rfl := ba_empty h0
    clear h0 hs
    go_enter Tryd.func39, Tryd.ntmps39
    go_wp2
    go_ret
    exact ⟨by rw [HC.out, madeB_nil]; rfl, Below.refl _ _⟩
  · have he := empty_no (s := s) (by omega)
    have HP := hide (show 0 < s.size by omega)
    clear h0
    by_cases h64 : (s.size : Int) ≤ 64
    · obtain ⟨cap, w1, hcv, hrb, hb, hcap, -, -⟩ := str_row w s
      have HRB := hide hrb
      have HB := hide hb
      obtain ⟨g, hg⟩ : ∃ g, g = w.heap.size := ⟨_, rfl⟩
      rw [← hg] at hcv HRB
      have HL := hide (bts_len s)
      clear hrb hb hg
      go_enter Tryd.func39, Tryd.ntmps39
      go_wp2
      clear hcv he
      go_loopw [6, 17] (fun _ k wr => ∃ i : Nat, i ≤ s.size ∧ k = .int .i64 (i : Int) ∧ wr = w1 ∧ AllTo p (bts s) i) (fun _ k _ => s.size - (intOf k).toNat)
      case atStart => exact ⟨0, by omega, rfl, rfl, .zero _ _⟩
      case round =>
        obtain ⟨i, hi, rfl, rfl, hno⟩ := hrel
        have HN := hide hno
        clear hno
        by_cases hlt : i < s.size
        · have hlt' : (i : Int) < (s.size : Int) := by omega
          obtain ⟨b, off, hbo, hbl, hc⟩ := HRB.out.2.1 (by omega)
          obtain ⟨rfl, rfl⟩ : g = b ∧ 0 = off := by injection hbo with hbo; injection hbo with e1 e2; exact ⟨e1, e2⟩
          have hci := hc i hlt
          have hbd := HRB.out.2.2 i
          obtain ⟨z, hz⟩ : ∃ z, z = (bts s).getD i 0 := ⟨_, rfl⟩
          rw [← hz] at hci hbd
          rw [Nat.zero_add] at hci
          have HZ := hide hz
          clear hz hc hbo
          obtain ⟨hz0, hz1⟩ := hbd
          obtain ⟨v, hv⟩ : ∃ v, v = p z := ⟨_, rfl⟩
          have HT := hide (fun w => HM.out.step z w hz0 hz1)
          rw [← hv] at HT
          have HV := hide hv.symm
          clear hv
          cases v with
          | true =>
            go_wp2_with (go_at_fn fn; refine (HT.out _).mono ?_; rintro e w3 ⟨rfl, rfl⟩)
            go_roundw
            case rel => exact ⟨i + 1, by omega, by go_num, (by first | rfl | trivial), HN.out.succ (by rw [← HZ.out]; exact HV.out)⟩
            case measure => simp [intOf]; omega
          | false =>
            go_wp2_with (go_at_fn fn; refine (HT.out _).mono ?_; rintro e w3 ⟨rfl, rfl⟩)
            go_ret
            exact ⟨by rw [HC.out, madeB_no hlt (by rw [← HZ.out]; exact HV.out)]; rfl, HB.out⟩
        · have hge : ¬ (i : Int) < (s.size : Int) := by omega
          obtain rfl : i = s.size := by omega
          go_wp2
          go_ret
          exact ⟨by rw [HC.out, madeB_yes HP.out (by omega) HN.out]; rfl, HB.out⟩
    · go_enter Tryd.func39, Tryd.ntmps39
      go_wp2
      go_ret
      exact ⟨by rw [HC.out, madeB_long (by omega)]; rfl, Below.refl _ _⟩

theorem rq_Token (s : ByteArray) (hs : (s.size : Int) ≤ 1000000) (w : World) :
    Calls Tryd.prog 16 #[.string s] w fun e w' => e = .returned (.bool (tokB s)) ∧ Below w.heap.size w w' := by
  have HM := hide (rq_isMadeOf s _ _ may_name hs w)
  obtain ⟨C, hC⟩ : ∃ C, C = tokB s := ⟨_, rfl⟩
  rw [show madeB nameI s = C from hC.symm] at HM
  rw [← hC]
  clear hC hs
  go_enter Tryd.func16, Tryd.ntmps16
  go_wp2_with fail
  refine HM.out.mono ?_
  rintro e w2 ⟨rfl, hb⟩
  have HB := hide hb
  clear hb
  go_wp2
  go_ret
  first | exact ⟨rfl, HB.out⟩ | exact ⟨trivial, HB.out⟩

theorem tok_no {s : ByteArray} {k : Nat} (hk : k < s.size) (h : nameI ((bts s).getD k 0) = false) : tokB s = false := madeB_no hk h

set_option maxRecDepth 100000 in
set_option maxHeartbeats 3200000 in
theorem rg_Token (s : ByteArray) (hs : (s.size : Int) ≤ 1000000) (w : World) :
    Calls Tryd.prog 17 #[.string s] w fun e w' => e = .returned (.bool (tokB s)) ∧ w = w' := by
  obtain ⟨C, hC⟩ : ∃ C, C = tokB s := ⟨_, rfl⟩
  rw [← hC]
  have HC := hide hC
  have HL := hide (bts_len s)
  clear hC
  go_enter Tryd.func17, Tryd.ntmps17
  go_wp2_with fail
  go_loop [3] (fun k => ∃ i : Nat, i ≤ s.size ∧ k = .int .i64 (i : Int) ∧ AllTo nameI (bts s) i) (fun k => s.size - (intOf k).toNat)
  case atStart => exact ⟨0, by omega, rfl, .zero _ _⟩
  case round =>
    obtain ⟨i, hi, rfl, hno⟩ := hrel
    have HN := hide hno
    clear hno
    by_cases hlt : i < s.size
    · have hlt' : (i : Int) < (s.size : Int) := by omega
      have HB := hide (bts_get s i hlt)
      obtain ⟨z, hz⟩ : ∃ z, z = ((s[i].toNat : Nat) : Int) := ⟨_, rfl⟩
      rw [← hz] at HB
      have hz' := hz.symm
      clear hz
      have HT := hide (rg_sign z)
      obtain ⟨v, hv⟩ : ∃ v, v = nameI z := ⟨_, rfl⟩
      rw [← hv] at HT
      have HV := hide hv.symm
      clear hv
      cases v with
      | true =>
        go_wp2_with (go_at_call 41; refine (HT.out _).mono ?_; rintro e w3 ⟨rfl, rfl⟩)
        go_round
        case rel => exact ⟨i + 1, by omega, by go_num, HN.out.succ (by rw [HB.out]; exact HV.out)⟩
        case measure => simp [intOf]; omega
      | false =>
        go_wp2_with (go_at_call 41; refine (HT.out _).mono ?_; rintro e w3 ⟨rfl, rfl⟩)
        go_ret
        exact ⟨by rw [HC.out, tok_no hlt (by rw [HB.out]; exact HV.out)]; rfl, rfl⟩
    · have hge : ¬ (i : Int) < (s.size : Int) := by omega
      obtain rfl : i = s.size := by omega
      by_cases h0 : s.size = 0
      · obtain rfl := ba_empty h0
        clear h0 hs hge hlt hi
        go_wp2
        go_ret
        exact ⟨by rw [HC.out]; rfl, rfl⟩
      · have he := empty_no (s := s) (by omega)
        have HP := hide (show 0 < s.size by omega)
        clear h0
        by_cases h64 : (s.size : Int) ≤ 64
        · go_wp2
          go_ret
          exact ⟨by rw [HC.out, show tokB s = true from madeB_yes HP.out (by omega) HN.out]; rfl, rfl⟩
        · go_wp2
          go_ret
          exact ⟨by rw [HC.out, show tokB s = false from madeB_long (by omega)]; rfl, rfl⟩
end Go.Proofs.YtlbhnbloanamfaaDoor
