/-
  Layer 17: length, the content's; Trailers.
-/
import Derived.Test.YtlbhnbloanamfaaDoorRqCount
import Derived.Test.YtlbhnbloanamfaaDoorRqNum
namespace Go.Proofs.YtlbhnbloanamfaaDoor
set_option linter.unusedSimpArgs false
set_option linter.unusedVariables false
open Go.RowKit

/-- What length answers. -/
def lenEnd (r : Option Int) : Ending := match r with
  | none => .returned (.tuple #[.int .i64 0, .bool false])
  | some n => .returned (.tuple #[.int .i64 n, .bool true])
theorem lenK_app (n : Int) (a b : List ByteArray) : lenK n (a ++ b) = (lenK n a).bind fun m => lenK m b := by
  induction a generalizing n with
  | nil => rfl
  | cons v a ih =>
    rw [List.cons_append, lenK, lenK]
    split
    · exact ih _
    · rfl
theorem vals_app (nm : ByteArray) (a b : List Fd) : vals nm (a ++ b) = vals nm a ++ vals nm b := by unfold vals; rw [List.filter_append, List.map_append]
theorem vals_one_yes {nm : ByteArray} {f : Fd} (h : f.n = nm) : vals nm [f] = [f.v] := by
  unfold vals
  rw [List.filter_cons_of_pos (by unfold isN; rw [decide_eq_true h])]
  rfl
theorem vals_one_no {nm : ByteArray} {f : Fd} (h : f.n ≠ nm) : vals nm [f] = [] := by
  unfold vals
  rw [List.filter_cons_of_neg (by unfold isN; rw [decide_eq_false h]; simp)]
  rfl
theorem take_split {l : List Fd} {i : Nat} {f : Fd} (h : l[i]? = some f) : l = l.take i ++ ([f] ++ l.drop (i + 1)) := by
  have hi : i < l.length := (List.getElem?_eq_some_iff.1 h).1
  have hg : l[i] = f := by rw [List.getElem?_eq_getElem hi] at h; exact Option.some.inj h
  conv => lhs; rw [← List.take_append_drop i l, List.drop_eq_getElem_cons hi, hg]
  rfl
theorem lenR_bad {l : List Fd} {i : Nat} {f : Fd} {m : Int} (h : l[i]? = some f) (hm : lenK (-1) (vals nLen (l.take i)) = some m) (hf : f.n = nLen) (hb : lenK m [f.v] = none) : lenR l = none := by
  unfold lenR
  rw [take_split h, vals_app, vals_app, vals_one_yes hf, lenK_app, hm]
  show lenK m ([f.v] ++ _) = none
  rw [lenK_app, hb]
  rfl
theorem lenK_step {l : List Fd} {i : Nat} {f : Fd} {m k : Int} (h : l[i]? = some f) (hm : lenK (-1) (vals nLen (l.take i)) = some m) (hf : f.n = nLen) (hb : lenK m [f.v] = some k) : lenK (-1) (vals nLen (l.take (i + 1))) = some k := by
  rw [List.take_add_one, h, vals_app, lenK_app, hm]
  show lenK m (vals nLen [f]) = some k
  rw [vals_one_yes hf, hb]
theorem lenK_skip {l : List Fd} {i : Nat} {f : Fd} {m : Int} (h : l[i]? = some f) (hm : lenK (-1) (vals nLen (l.take i)) = some m) (hf : f.n ≠ nLen) : lenK (-1) (vals nLen (l.take (i + 1))) = some m := by
  rw [List.take_add_one, h, vals_app, lenK_app, hm]
  show lenK m (vals nLen [f]) = some m
  rw [vals_one_no hf]
  rfl
theorem lenK_bd {n : Int} {vs : List ByteArray} {m : Int} (h : lenK n vs = some m) (h0 : -1 ≤ n ∧ n ≤ 999999999) : -1 ≤ m ∧ m ≤ 999999999 := by
  induction vs generalizing n with
  | nil => injection h with h; omega
  | cons v vs ih =>
    rw [lenK] at h
    split at h
    · have := numI_bd v
      exact ih h (by omega)
    · cases h
theorem lenR_bd {l : List Fd} {m : Int} (h : lenR l = some m) : -1 ≤ m ∧ m ≤ 999999999 := lenK_bd h (by omega)

set_option maxRecDepth 100000 in
set_option maxHeartbeats 3200000 in
theorem rq_length (A : Option Addr) (n c : Nat) (l : List Fd) (w : World) (hfl : FL w A n c l) (hm : Mod l) :
    Calls Tryd.prog 25 #[.slice A n c] w fun e w' => e = lenEnd (lenR l) ∧ Below w.heap.size w w' := by
  have HFL := hide hfl
  have HM := hide hm
  have hn : (n : Int) ≤ 1000 := by have := hm.1; have := hfl.len; omega
  obtain ⟨R, hR⟩ : ∃ R, R = lenR l := ⟨_, rfl⟩
  rw [← hR]
  have HR := hide hR
  clear hfl hm hR
  go_enter Tryd.func25, Tryd.ntmps25
  go_wp2_with fail
  go_loopw [4, 6, 7, 8, 11] (fun s _ _ _ k wr => ∃ (i : Nat) (m : Int), i ≤ n ∧ k = .int .i64 (i : Int) ∧ s = .int .i64 m ∧ Hid (lenK (-1) (vals nLen (l.take i)) = some m) ∧ Hid (Below w.heap.size w wr)) (fun _ _ _ _ k _ => n - (intOf k).toNat)
  case atStart => exact ⟨0, -1, by omega, rfl, rfl, rfl, Below.refl _ _⟩
  case round =>
    obtain ⟨i, m, hi, rfl, rfl, HS, HB⟩ := hrel
    by_cases hlt : i < n
    · have hlt' : (i : Int) < (n : Int) := by omega
      obtain ⟨f, b, off, hfd, rfl, hbl, c0, c1, c2⟩ := (HFL.out.keep HB.out).round hlt
      have HFD := hide hfd
      have hsz := HM.out.at hfd
      have hmb := lenK_bd HS.out (by omega)
      have HB1 := hide (HB.out.trans ((bel1 wr (.cells #[.string f.n, .string f.v, .bool f.x] 42)).mono HB.out.size))
      clear hfd
      by_cases hf : f.n = nLen
      · have e1 : (f.n.toList == [99, 111, 110, 116, 101, 110, 116, 45, 108, 101, 110, 103, 116, 104]) = true := lit_same hf
        have e1' : (f.n.toList != [99, 111, 110, 116, 101, 110, 116, 45, 108, 101, 110, 103, 116, 104]) = false := by rw [bne, e1]; rfl
        have HF := hide hf
        have HC := hide (fun w => rq_Number f.v (by omega) w)
        by_cases hb : numB f.v = true
        · have HBY := hide hb
          have hk := numI_bd f.v
          obtain ⟨k, hkk⟩ : ∃ k, k = numI f.v := ⟨_, rfl⟩
          rw [← hkk] at hk
          have hE : numEnd f.v = .returned (.tuple #[.int .i64 k, .bool true]) := by unfold numEnd; rw [← hkk, hb]
          rw [hE] at HC
          have HKK := hide hkk
          clear hkk hE hb hf
          by_cases h0 : 0 ≤ m
          · by_cases hkm : k = m
            · subst hkm
              have d1 : (k == k) = true := by simp
              have d2 : (k != k) = false := by simp
              have HN := hide (lenK_step (k := k) HFD.out HS.out HF.out (by rw [lenK, if_pos ⟨HBY.out, by rw [← HKK.out]; omega⟩, ← HKK.out]; rfl))
              clear d1
              go_wp2_with (go_at_call 14; refine (HC.out _).mono ?_; rintro e w2 ⟨rfl, hb2⟩; have HB2 := hide (HB1.out.trans (hb2.mono HB1.out.size)); clear hb2)
              go_roundw
              case rel => exact ⟨i + 1, k, by omega, by go_num, rfl, HN.out, HB2.out⟩
              case measure => simp [intOf]; omega
            · have d1 : (k == m) = false := by simpa using hkm
              have d2 : (k != m) = true := by simpa using hkm
              have HN := hide (lenR_bad HFD.out HS.out HF.out (by rw [lenK, if_neg]; rintro ⟨_, q⟩; rw [← HKK.out] at q; exact q ⟨h0, hkm⟩))
              clear hkm
              go_wp2_with (go_at_call 14; refine (HC.out _).mono ?_; rintro e w2 ⟨rfl, hb2⟩; have HB2 := hide (HB1.out.trans (hb2.mono HB1.out.size)); clear hb2)
              go_ret2
              exact ⟨by rw [HR.out, HN.out]; rfl, HB2.out⟩
          · have HN := hide (lenK_step (k := k) HFD.out HS.out HF.out (by rw [lenK, if_pos ⟨HBY.out, by rw [← HKK.out]; omega⟩, ← HKK.out]; rfl))
            go_wp2_with (go_at_call 14; refine (HC.out _).mono ?_; rintro e w2 ⟨rfl, hb2⟩; have HB2 := hide (HB1.out.trans (hb2.mono HB1.out.size)); clear hb2)
            go_roundw
            case rel => exact ⟨i + 1, k, by omega, by go_num, rfl, HN.out, HB2.out⟩
            case measure => simp [intOf]; omega
        · have hb' : numB f.v = false := by simpa using hb
          have HN := hide (lenR_bad HFD.out HS.out HF.out (by rw [lenK, if_neg]; rintro ⟨q, _⟩; exact hb q))
          rw [numEnd_no hb'] at HC
          clear hb hb' hf
          go_wp2_with (go_at_call 14; refine (HC.out _).mono ?_; rintro e w2 ⟨rfl, hb2⟩; have HB2 := hide (HB1.out.trans (hb2.mono HB1.out.size)); clear hb2)
          go_ret2
          exact ⟨by rw [HR.out, HN.out]; rfl, HB2.out⟩
      · have e1 : (f.n.toList == [99, 111, 110, 116, 101, 110, 116, 45, 108, 101, 110, 103, 116, 104]) = false := lit_not hf
        have e1' : (f.n.toList != [99, 111, 110, 116, 101, 110, 116, 45, 108, 101, 110, 103, 116, 104]) = true := by rw [bne, e1]; rfl
        have HN := hide (lenK_skip HFD.out HS.out hf)
        clear hf
        go_wp2_with fail
        go_roundw
        case rel => exact ⟨i + 1, m, by omega, by go_num, rfl, HN.out, HB1.out⟩
        case measure => simp [intOf]; omega
    · have hge : ¬ (i : Int) < (n : Int) := by omega
      obtain rfl : i = n := by omega
      have HN := hide (show lenR l = some m by
        have := HS.out
        rw [← HFL.out.len, List.take_length] at this
        exact this)
      go_wp2
      go_ret2
      exact ⟨by rw [HR.out, HN.out]; rfl, HB.out⟩

set_option maxRecDepth 100000 in
set_option maxHeartbeats 1600000 in
theorem rq_Trailers (A : Option Addr) (n c : Nat) (l : List Fd) (w : World) (hfl : FL w A n c l) (hm : Mod l) :
    Calls Tryd.prog 12 #[.slice A n c] w fun e w' => e = .returned (.bool (trailB l)) ∧ Below w.heap.size w w' := by
  have HFL := hide hfl
  have HM := hide hm
  have HC := hide (rq_areRight A n c l w hfl hm)
  obtain ⟨v, hv⟩ : ∃ v, v = trailB l := ⟨_, rfl⟩
  rw [← hv]
  obtain ⟨r, hr⟩ : ∃ r, r = rightL l := ⟨_, rfl⟩
  have HV := hide (show v = (r && decide ((vals nTe l).length = 0)) by rw [hv, hr]; rfl)
  rw [← hr] at HC
  clear hv hr hfl hm
  cases r with
  | false =>
    go_enter Tryd.func12, Tryd.ntmps12
    go_wp2_with (go_at_call 29; refine HC.out.mono ?_; rintro e w2 ⟨rfl, hb⟩; have HB := hide hb; clear hb)
    go_ret
    exact ⟨by rw [HV.out]; rfl, HB.out⟩
  | true =>
    go_enter Tryd.func12, Tryd.ntmps12
    go_wp2_with fail
    refine HC.out.mono ?_
    rintro e w2 ⟨rfl, hb⟩
    have HB := hide hb
    clear hb
    go_wp2_with fail
    refine (rq_counted A n c l w2 (HFL.out.keep HB.out) HM.out).mono ?_
    rintro e w3 ⟨mb, rfl, hmet, hb3⟩
    have HB3 := hide (HB.out.trans (hb3.mono HB.out.size))
    have hr := hmet.run nTe (by unfold maxLen; decide)
    obtain ⟨q, hq⟩ : ∃ q, q = (vals nTe l).length := ⟨_, rfl⟩
    rw [← hq] at hr HV
    simp only [nTe] at hr
    clear hmet hb3 hq
    by_cases h0 : q = 0
    · subst h0
      go_wp2
      go_ret
      exact ⟨by rw [HV.out]; rfl, HB3.out⟩
    · have d1 : ((q : Int) == 0) = false := beq_eq_false_iff_ne.2 (by omega)
      have HT := hide (show (true && decide (q = 0)) = false by rw [decide_eq_false h0]; rfl)
      clear h0
      go_wp2
      go_ret
      exact ⟨by rw [HV.out, HT.out]; simp, HB3.out⟩
end Go.Proofs.YtlbhnbloanamfaaDoor
