/-
  Layer 18: the one field of a name: only, the document's one.
-/
import Derived.Test.YtdnopjopdklelaaDoorRnTold
import Derived.Test.YtdnopjopdklelaaDoorRqNum
import Derived.Test.YtdnopjopdklelaaDoorRgValues
namespace Go.Proofs.YtdnopjopdklelaaDoor
set_option linter.unusedSimpArgs false
set_option linter.unusedVariables false
open Go.RowKit

def onlyEnd (r : Option Int) : Ending := .returned (.tuple #[.int .i64 (r.getD 0), .bool r.isSome])
/-- What only has met so far. -/
def OnlyS (vs : List ByteArray) (m : Int) (b : Bool) : Prop := (b = false ∧ vs = [] ∧ m = 0) ∨ (b = true ∧ ∃ v, vs = [v] ∧ numB v = true ∧ m = numI v)
theorem OnlyS.start : OnlyS [] 0 false := .inl ⟨rfl, rfl, rfl⟩
theorem OnlyS.last {vs : List ByteArray} {m : Int} {b : Bool} (h : OnlyS vs m b) : onlyV vs = some m := by
  rcases h with ⟨-, rfl, rfl⟩ | ⟨-, v, rfl, hb, rfl⟩
  · rfl
  · rw [onlyV_one, if_pos hb]
theorem only_split {nm : ByteArray} {l : List Fd} {i : Nat} {f : Fd} (h : l[i]? = some f) (hf : f.n = nm) : vals nm l = vals nm (l.take i) ++ (f.v :: vals nm (l.drop (i + 1))) := by
  conv => lhs; rw [take_split h, vals_app, vals_app, vals_one_yes hf]
  rfl
theorem OnlyS.skip {nm : ByteArray} {l : List Fd} {i : Nat} {f : Fd} {m : Int} {b : Bool} (h : OnlyS (vals nm (l.take i)) m b) (hl : l[i]? = some f) (hf : f.n ≠ nm) : OnlyS (vals nm (l.take (i + 1))) m b := by
  rw [vals_succ hl, if_neg hf, List.append_nil]
  exact h
theorem OnlyS.first {nm : ByteArray} {l : List Fd} {i : Nat} {f : Fd} {m : Int} (h : OnlyS (vals nm (l.take i)) m false) (hl : l[i]? = some f) (hf : f.n = nm) (hb : numB f.v = true) : OnlyS (vals nm (l.take (i + 1))) (numI f.v) true := by
  rcases h with ⟨-, h, -⟩ | ⟨h, -⟩
  · rw [vals_succ hl, if_pos hf, h]
    exact .inr ⟨rfl, f.v, rfl, hb, rfl⟩
  · cases h
theorem OnlyS.bad {nm : ByteArray} {l : List Fd} {i : Nat} {f : Fd} {m : Int} (h : OnlyS (vals nm (l.take i)) m false) (hl : l[i]? = some f) (hf : f.n = nm) (hb : numB f.v = false) : onlyP nm l = none := by
  unfold onlyP
  rcases h with ⟨-, h, -⟩ | ⟨h, -⟩
  · rw [only_split hl hf, h]
    exact onlyV_bad _ hb
  · cases h
theorem OnlyS.two {nm : ByteArray} {l : List Fd} {i : Nat} {f : Fd} {m : Int} (h : OnlyS (vals nm (l.take i)) m true) (hl : l[i]? = some f) (hf : f.n = nm) : onlyP nm l = none := by
  unfold onlyP
  rcases h with ⟨h, -⟩ | ⟨-, v, h, -⟩
  · cases h
  · rw [only_split hl hf, h]
    rfl

set_option maxRecDepth 100000 in
set_option maxHeartbeats 3200000 in
theorem rn_only (A : Option Addr) (n c : Nat) (l : List Fd) (nm : ByteArray) (w : World) (hfl : FL w A n c l) (hm : Mod l) :
    Calls Tryd.prog 26 #[.slice A n c, .string nm] w fun e w' => e = onlyEnd (onlyP nm l) ∧ Below w.heap.size w w' := by
  have HFL := hide hfl
  have HM := hide hm
  have hn : (n : Int) ≤ 1000 := by have := hm.1; have := hfl.len; omega
  obtain ⟨R, hR⟩ : ∃ R, R = onlyP nm l := ⟨_, rfl⟩
  rw [← hR]
  have HR := hide hR
  clear hfl hm hR
  go_enter Tryd.func26, Tryd.ntmps26
  go_wp2_with fail
  go_loopw [6, 7, 9, 10, 11, 14] (fun s6 s7 _ _ _ k wr => ∃ (i : Nat) (m : Int) (b : Bool), i ≤ n ∧ k = .int .i64 (i : Int) ∧ s6 = .int .i64 m ∧ s7 = .bool b ∧ Hid (OnlyS (vals nm (l.take i)) m b) ∧ Hid (Below w.heap.size w wr)) (fun _ _ _ _ _ k _ => n - (intOf k).toNat)
  case atStart => exact ⟨0, 0, false, by omega, rfl, rfl, rfl, OnlyS.start, Below.refl _ _⟩
  case round =>
    obtain ⟨i, m, b, hi, rfl, rfl, rfl, HS, HB⟩ := hrel
    by_cases hlt : i < n
    · have hlt' : (i : Int) < (n : Int) := by omega
      obtain ⟨f, g, off, hfd, rfl, hbl, c0, c1, c2⟩ := (HFL.out.keep HB.out).round hlt
      have HFD := hide hfd
      have hsz := HM.out.at hfd
      have HB1 := hide (HB.out.trans ((bel1 wr (.cells #[.string f.n, .string f.v, .bool f.x] 51)).mono HB.out.size))
      clear hfd
      by_cases hf : f.n = nm
      · have e1 := str_same hf
        have e1' : (f.n.toList != nm.toList) = false := by rw [bne, e1]; rfl
        have HF := hide hf
        have HC := hide (fun w => rq_Number f.v (by omega) w)
        unfold numEnd at HC
        by_cases hb : numB f.v = true
        · have HBY := hide hb
          obtain ⟨k, hkk⟩ : ∃ k, k = numI f.v := ⟨_, rfl⟩
          rw [← hkk, hb] at HC
          have HKK := hide hkk
          clear hkk hb hf
          cases b with
          | false =>
            have HN := hide (HS.out.first HFD.out HF.out HBY.out)
            go_wp2_with (go_at_call 25; refine (HC.out _).mono ?_; rintro e w2 ⟨rfl, hb2⟩; have HB2 := hide (HB1.out.trans (hb2.mono HB1.out.size)); clear hb2)
            go_roundw
            case rel => exact ⟨i + 1, k, true, by omega, by go_num, rfl, rfl, by rw [HKK.out]; exact HN.out, HB2.out⟩
            case measure => simp [intOf]; omega
          | true =>
            have HN := hide (HS.out.two HFD.out HF.out)
            go_wp2_with (go_at_call 25; refine (HC.out _).mono ?_; rintro e w2 ⟨rfl, hb2⟩; have HB2 := hide (HB1.out.trans (hb2.mono HB1.out.size)); clear hb2)
            go_ret2
            exact ⟨by rw [HR.out, HN.out]; rfl, HB2.out⟩
        · have hb' : numB f.v = false := by simpa using hb
          have HN := hide (show onlyP nm l = none by
            cases b with
            | false => exact HS.out.bad HFD.out HF.out hb'
            | true => exact HS.out.two HFD.out HF.out)
          rw [hb', numI_no hb'] at HC
          clear hb hb' hf
          cases b
          all_goals
            go_wp2_with (go_at_call 25; refine (HC.out _).mono ?_; rintro e w2 ⟨rfl, hb2⟩; have HB2 := hide (HB1.out.trans (hb2.mono HB1.out.size)); clear hb2)
            go_ret2
            exact ⟨by rw [HR.out, HN.out]; rfl, HB2.out⟩
      · have e1 := str_not hf
        have e1' : (f.n.toList != nm.toList) = true := by rw [bne, e1]; rfl
        have HN := hide (HS.out.skip HFD.out hf)
        clear hf
        go_wp2_with fail
        go_roundw
        case rel => exact ⟨i + 1, m, b, by omega, by go_num, rfl, rfl, HN.out, HB1.out⟩
        case measure => simp [intOf]; omega
    · have hge : ¬ (i : Int) < (n : Int) := by omega
      obtain rfl : i = n := by omega
      have HN := hide (show onlyP nm l = some m by
        have := HS.out
        rw [← HFL.out.len, List.take_length] at this
        exact this.last)
      go_wp2
      go_ret2
      exact ⟨by rw [HR.out, HN.out]; rfl, HB.out⟩

set_option maxRecDepth 100000 in
set_option maxHeartbeats 1600000 in
theorem rm_one (A : Option Addr) (n c : Nat) (l : List Fd) (nm : ByteArray) (w : World) (hfl : FL w A n c l) (hm : Mod l) :
    Calls Tryd.prog 28 #[.slice A n c, .string nm] w fun e w' => e = onlyEnd (onlyP nm l) ∧ Below w.heap.size w w' := by
  have hn : (n : Int) ≤ 1000 := by have := hm.1; have := hfl.len; omega
  have HC := hide (rg_Values A n c l nm w hfl (by omega))
  have HVB := hide (fun v (hv : v ∈ vals nm l) => hm.val hv)
  obtain ⟨R, hR⟩ : ∃ R, R = onlyP nm l := ⟨_, rfl⟩
  rw [← hR]
  have HR := hide (show R = onlyV (vals nm l) from hR)
  have hle := vals_le nm l
  have hln := hfl.len
  generalize vals nm l = vs at HC HR HVB hle
  have hvl : (vs.length : Int) ≤ 1000 := by omega
  clear hfl hm hR hle hln
  match vs, HC, HR, HVB, hvl with
  | [], HC, HR, _, _ =>
    go_enter Tryd.func28, Tryd.ntmps28
    go_wp2_with fail
    refine HC.out.mono ?_
    rintro e w2 ⟨r, rfl, hown, hb⟩
    obtain ⟨A2, c2, rfl, htx⟩ := own_texts hown
    have HB := hide hb
    clear hown hb htx HC
    simp only [List.length_nil]
    go_wp2
    go_ret2
    exact ⟨by rw [HR.out]; rfl, HB.out⟩
  | [v], HC, HR, HVB, _ =>
    have hsz := HVB.out v (by simp)
    have HN := hide (fun w => rg_Number v (by omega) w)
    have HE := hide (show numEnd v = onlyEnd R by
      rw [HR.out, onlyV_one]
      unfold numEnd onlyEnd
      by_cases h : numB v = true
      · rw [if_pos h, h]; rfl
      · have h' : numB v = false := by simpa using h
        rw [if_neg h, h', numI_no h']; rfl)
    rw [HE.out] at HN
    unfold onlyEnd at HN ⊢
    clear hsz HE HR
    go_enter Tryd.func28, Tryd.ntmps28
    go_wp2_with fail
    refine HC.out.mono ?_
    rintro e w2 ⟨r, rfl, hown, hb⟩
    obtain ⟨A2, c2, rfl, htx⟩ := own_texts hown
    obtain ⟨b2, off, e2, hlt, c0⟩ := htx.at_ 0 v rfl
    subst e2
    have HB := hide hb
    rw [Nat.add_zero] at c0
    clear hown hb htx HC
    simp only [List.length_cons, List.length_nil]
    go_wp2_with (go_at_call 27; refine (HN.out _).mono ?_; rintro e w3 ⟨rfl, rfl⟩)
    go_ret2
    exact ⟨rfl, HB.out⟩
  | a :: b :: vs, HC, HR, _, hvl =>
    obtain ⟨q, hq⟩ : ∃ q, q = (a :: b :: vs).length := ⟨_, rfl⟩
    rw [← hq] at hvl
    have d0 : ((q : Int) == 0) = false := beq_eq_false_iff_ne.2 (by rw [hq]; simp only [List.length_cons]; omega)
    have d1 : ((q : Int) == 1) = false := beq_eq_false_iff_ne.2 (by rw [hq]; simp only [List.length_cons]; omega)
    unfold GivesTx at HC
    rw [← hq] at HC
    clear hq
    go_enter Tryd.func28, Tryd.ntmps28
    go_wp2_with fail
    refine HC.out.mono ?_
    rintro e w2 ⟨r, rfl, hown, hb⟩
    obtain ⟨A2, c2, rfl, htx⟩ := own_texts hown
    have HB := hide hb
    clear hown hb htx HC
    go_wp2
    go_ret2
    exact ⟨by rw [HR.out]; rfl, HB.out⟩
end Go.Proofs.YtdnopjopdklelaaDoor
