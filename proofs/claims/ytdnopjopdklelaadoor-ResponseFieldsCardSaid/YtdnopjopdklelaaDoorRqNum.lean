/-
  Layer 17: Number, the program's and the document's.
-/
import Derived.Test.YtdnopjopdklelaaDoorRqDigit
import Derived.Test.YtdnopjopdklelaaDoorRqWords
namespace Go.Proofs.YtdnopjopdklelaaDoor
set_option linter.unusedSimpArgs false
set_option linter.unusedVariables false
open Go.RowKit

/-- What Number answers. -/
def numEnd (s : ByteArray) : Ending := .returned (.tuple #[.int .i64 (numI s), .bool (numB s)])
theorem numEnd_no {s : ByteArray} (h : numB s = false) : numEnd s = .returned (.tuple #[.int .i64 0, .bool false]) := by
  unfold numEnd; rw [numI_no h, h]
theorem numEnd_yes {s : ByteArray} {v : Int} (h : numB s = true) (hv : numV ((bts s).take s.size) = v) : numEnd s = .returned (.tuple #[.int .i64 v, .bool true]) := by
  unfold numEnd
  rw [List.take_of_length_le (by rw [bts_len]; exact Nat.le_refl _)] at hv
  rw [numI_yes h, h, hv]
theorem one_zero {s : ByteArray} (h : s.size = 1) (h' : (bts s).getD 0 0 = 48) : s = ⟨#[48]⟩ := by
  apply bts_inj
  have hl := bts_len s
  match hb : bts s with
  | [] => rw [hb] at hl; simp at hl; omega
  | [z] => rw [hb] at h'; simp at h'; rw [h']; rfl
  | a :: b :: l => rw [hb] at hl; simp at hl; omega
theorem not_zero {s : ByteArray} (h : 1 < s.size) : (s.toList == [48]) = false := by
  rw [beq_eq_false_iff_ne]
  intro e
  rw [ByteArray.toList_eq] at e
  have := congrArg List.length e
  have hl : s.data.toList.length = s.size := by simp
  simp only [List.length_cons, List.length_nil] at this
  omega

set_option maxRecDepth 100000 in
set_option maxHeartbeats 3200000 in
theorem rq_Number (s : ByteArray) (hs : (s.size : Int) ≤ 1000000) (w : World) :
    Calls Tryd.prog 25 #[.string s] w fun e w' => e = numEnd s ∧ Below w.heap.size w w' := by
  have HL := hide (bts_len s)
  by_cases h0 : s.size = 0
  · obtain rfl := ba_empty h0
    clear h0 hs
    go_enter Tryd.func25, Tryd.ntmps25
    go_wp2
    go_ret2
    exact ⟨by rw [numEnd_no numB_nil]; rfl, Below.refl _ _⟩
  · have he := empty_no (s := s) (by omega)
    have hp : 0 < s.size := by omega
    clear h0
    by_cases h9 : (s.size : Int) ≤ 9
    · have HB0 := hide (bts_get s 0 hp)
      obtain ⟨y, hy⟩ : ∃ y, y = ((s[0].toNat : Nat) : Int) := ⟨_, rfl⟩
      rw [← hy] at HB0
      have hy' := hy.symm
      clear hy
      by_cases hz : 1 < s.size ∧ y = 48
      · obtain ⟨h1, rfl⟩ := hz
        have hn := not_zero h1
        have hz1 : ¬ (s.size : Int) ≤ 1 := by omega
        go_enter Tryd.func25, Tryd.ntmps25
        go_wp2
        go_ret2
        exact ⟨by rw [numEnd_no (numB_zero h1 HB0.out)]; rfl, Below.refl _ _⟩
      · have HH := hide (show s.size = 1 ∨ (bts s).getD 0 0 ≠ 48 by rw [HB0.out]; omega)
        obtain ⟨cap, w1, hcv, hrb, hb, hcap, -, -⟩ := str_row w s
        have HRB := hide hrb
        have HB := hide hb
        obtain ⟨g, hg⟩ : ∃ g, g = w.heap.size := ⟨_, rfl⟩
        rw [← hg] at hcv HRB
        have HP := hide hp
        have hcase : (y = 48 ∧ (s.toList == [48]) = true) ∨ (y == 48) = false := by
          by_cases e : y = 48
          · exact .inl ⟨e, by rw [one_zero (s := s) (by omega) (by rw [HB0.out, e]), ByteArray.toList_eq]; rfl⟩
          · exact .inr (by simpa using e)
        clear hrb hb hg hz
        rcases hcase with ⟨rfl, hone⟩ | hy48
        all_goals
          go_enter Tryd.func25, Tryd.ntmps25
          go_wp2_with fail
          clear hcv he
          go_loopw [4, 6, 26] (fun n _ k wr => ∃ (i : Nat) (v : Int), i ≤ s.size ∧ k = .int .i64 (i : Int) ∧ n = .int .i64 v ∧ numV ((bts s).take i) = v ∧ wr = w1 ∧ AllTo digI (bts s) i) (fun _ _ k _ => s.size - (intOf k).toNat)
          case atStart => exact ⟨0, 0, by omega, rfl, rfl, rfl, rfl, .zero _ _⟩
          case round =>
            obtain ⟨i, v, hi, rfl, rfl, hnv, rfl, hno⟩ := hrel
            have HN := hide hno
            have HV := hide hnv
            clear hno hnv
            by_cases hlt : i < s.size
            · have hlt' : (i : Int) < (s.size : Int) := by omega
              have hvb := numV_9 HN.out (by rw [HL.out]; exact hi) (by omega)
              rw [HV.out] at hvb
              obtain ⟨hv0, hv9⟩ := hvb
              obtain ⟨b, off, hbo, hbl, hc⟩ := HRB.out.2.1 (by omega)
              obtain ⟨rfl, rfl⟩ : g = b ∧ 0 = off := by injection hbo with hbo; injection hbo with e1 e2; exact ⟨e1, e2⟩
              have hci := hc i hlt
              obtain ⟨z, hz⟩ : ∃ z, z = (bts s).getD i 0 := ⟨_, rfl⟩
              rw [← hz] at hci
              rw [Nat.zero_add] at hci
              have HZ := hide hz
              clear hz hc hbo
              have HT := hide (fun w => rq_isDigit z w)
              by_cases hd : digI z = true
              · obtain ⟨hd1, hd2⟩ := digI_bd hd
                have HD := hide hd
                rw [hd] at HT
                clear hd
                go_wp2_with (go_at_call 33; refine (HT.out _).mono ?_; rintro e w3 ⟨rfl, rfl⟩)
                go_roundw
                case rel => exact ⟨i + 1, v * 10 + (z - 48), by omega, by go_num, rfl, by rw [numV_take (by rw [HL.out]; exact hlt), HV.out, ← HZ.out], (by first | rfl | trivial), HN.out.succ (by rw [← HZ.out]; exact HD.out)⟩
                case measure => simp [intOf]; omega
              · have hd' : digI z = false := by simpa using hd
                have HD := hide hd'
                rw [hd'] at HT
                clear hd hd'
                go_wp2_with (go_at_call 33; refine (HT.out _).mono ?_; rintro e w3 ⟨rfl, rfl⟩)
                go_ret2
                exact ⟨by rw [numEnd_no (numB_no hlt (by rw [← HZ.out]; exact HD.out))]; rfl, HB.out⟩
            · have hge : ¬ (i : Int) < (s.size : Int) := by omega
              obtain rfl : i = s.size := by omega
              go_wp2
              go_ret2
              exact ⟨by rw [numEnd_yes (numB_yes HP.out (by omega) HH.out HN.out) HV.out]; rfl, HB.out⟩
    · go_enter Tryd.func25, Tryd.ntmps25
      go_wp2
      go_ret2
      exact ⟨by rw [numEnd_no (numB_long (by omega))]; rfl, Below.refl _ _⟩

set_option maxRecDepth 100000 in
set_option maxHeartbeats 3200000 in
theorem rg_Number (s : ByteArray) (hs : (s.size : Int) ≤ 1000000) (w : World) :
    Calls Tryd.prog 27 #[.string s] w fun e w' => e = numEnd s ∧ w = w' := by
  have HL := hide (bts_len s)
  by_cases h0 : s.size = 0
  · obtain rfl := ba_empty h0
    clear h0 hs
    go_enter Tryd.func27, Tryd.ntmps27
    go_wp2
    go_ret2
    exact ⟨by rw [numEnd_no numB_nil]; rfl, rfl⟩
  · have he := empty_no (s := s) (by omega)
    have hp : 0 < s.size := by omega
    clear h0
    by_cases h9 : (s.size : Int) ≤ 9
    · have HB0 := hide (bts_get s 0 hp)
      obtain ⟨y, hy⟩ : ∃ y, y = ((s[0].toNat : Nat) : Int) := ⟨_, rfl⟩
      rw [← hy] at HB0
      have hy' := hy.symm
      clear hy
      by_cases hz : 1 < s.size ∧ y = 48
      · obtain ⟨h1, rfl⟩ := hz
        have hz1 : (1 : Int) < (s.size : Int) := by omega
        go_enter Tryd.func27, Tryd.ntmps27
        go_wp2
        go_ret2
        exact ⟨by rw [numEnd_no (numB_zero h1 HB0.out)]; rfl, rfl⟩
      · have HH := hide (show s.size = 1 ∨ (bts s).getD 0 0 ≠ 48 by rw [HB0.out]; omega)
        have HP := hide hp
        have hcase : ¬ (1 : Int) < (s.size : Int) ∨ ((1 : Int) < (s.size : Int) ∧ (y == 48) = false) := by
          by_cases e : (1 : Int) < (s.size : Int)
          · refine .inr ⟨e, ?_⟩
            simp
            omega
          · exact .inl e
        clear hz
        rcases hcase with hy48 | ⟨hs1, hy48⟩
        all_goals
          go_enter Tryd.func27, Tryd.ntmps27
          go_wp2_with fail
          clear he hy48 hy'
          go_loop [4, 5] (fun n k => ∃ (i : Nat) (v : Int), i ≤ s.size ∧ k = .int .i64 (i : Int) ∧ n = .int .i64 v ∧ numV ((bts s).take i) = v ∧ AllTo digI (bts s) i) (fun _ k => s.size - (intOf k).toNat)
          case atStart => exact ⟨0, 0, by omega, rfl, rfl, rfl, .zero _ _⟩
          case round =>
            obtain ⟨i, v, hi, rfl, rfl, hnv, hno⟩ := hrel
            have HN := hide hno
            have HV := hide hnv
            clear hno hnv
            by_cases hlt : i < s.size
            · have hlt' : (i : Int) < (s.size : Int) := by omega
              have hvb := numV_9 HN.out (by rw [HL.out]; exact hi) (by omega)
              rw [HV.out] at hvb
              obtain ⟨hv0, hv9⟩ := hvb
              have HZ := hide (bts_get s i hlt)
              obtain ⟨z, hz⟩ : ∃ z, z = ((s[i].toNat : Nat) : Int) := ⟨_, rfl⟩
              rw [← hz] at HZ
              have hz' := hz.symm
              clear hz
              by_cases hd : digI z = true
              · obtain ⟨hd1, hd2⟩ := digI_bd hd
                have HD := hide hd
                clear hd
                go_wp2
                go_round
                case rel => exact ⟨i + 1, 10 * v + (z - 48), by omega, by go_num, rfl, by rw [numV_take (by rw [HL.out]; exact hlt), HV.out, HZ.out]; omega, HN.out.succ (by rw [HZ.out]; exact HD.out)⟩
                case measure => simp [intOf]; omega
              · have HD := hide (show digI z = false by simpa using hd)
                have hcz : ¬ 48 ≤ z ∨ (48 ≤ z ∧ ¬ z ≤ 57) := by
                  by_cases e : 48 ≤ z
                  · refine .inr ⟨e, fun e2 => hd (digI_yes e e2)⟩
                  · exact .inl e
                clear hd
                rcases hcz with hz1 | ⟨hz1, hz2⟩
                all_goals
                  go_wp2
                  go_ret2
                  exact ⟨by rw [numEnd_no (numB_no hlt (by rw [HZ.out]; exact HD.out))]; rfl, rfl⟩
            · have hge : ¬ (i : Int) < (s.size : Int) := by omega
              obtain rfl : i = s.size := by omega
              go_wp2
              go_ret2
              exact ⟨by rw [numEnd_yes (numB_yes HP.out (by omega) HH.out HN.out) HV.out]; rfl, rfl⟩
    · go_enter Tryd.func27, Tryd.ntmps27
      go_wp2
      go_ret2
      exact ⟨by rw [numEnd_no (numB_long (by omega))]; rfl, rfl⟩
end Go.Proofs.YtdnopjopdklelaaDoor
