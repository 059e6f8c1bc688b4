/-
  Layer 17: the document's one, length.
-/
import Derived.Test.YtlbhnbloanamfaaDoorRgValues
import Derived.Test.YtlbhnbloanamfaaDoorRqLen
import Derived.Deep.QuietTactic
import Derived.BigQuiet
import Derived.BigGuardPart
import Derived.Deep.Cut
namespace Go.Proofs.YtlbhnbloanamfaaDoor
set_option linter.unusedSimpArgs false
set_option linter.unusedVariables false
open Go.RowKit

/-- What one answers. -/
def oneT (nm : ByteArray) (l : List Fd) : ByteArray := if (vals nm l).length = 1 then fst' nm l else bNil
def oneB (nm : ByteArray) (l : List Fd) : Bool := decide ((vals nm l).length = 1) && valB (fst' nm l)

set_option maxRecDepth 100000 in
set_option maxHeartbeats 1600000 in
theorem rg_one (A : Option Addr) (n c : Nat) (l : List Fd) (nm : ByteArray) (w : World) (hfl : FL w A n c l) (hm : Mod l) :
    Calls Tryd.prog 32 #[.slice A n c, .string nm] w fun e w' => e = .returned (.tuple #[.string (oneT nm l), .bool (oneB nm l)]) ∧ Below w.heap.size w w' := by
  have hn : (n : Int) ≤ 1000 := by have := hm.1; have := hfl.len; omega
  have HC := hide (rg_Values A n c l nm w hfl (by omega))
  have HF := hide (hm.fst nm)
  obtain ⟨X, hX⟩ : ∃ X, X = oneT nm l := ⟨_, rfl⟩
  obtain ⟨Y, hY⟩ : ∃ Y, Y = oneB nm l := ⟨_, rfl⟩
  rw [← hX, ← hY]
  have HX := hide hX
  have HY := hide hY
  have HS := hide (show fst' nm l = (vals nm l).headD bNil from rfl)
  unfold oneT at HX
  unfold oneB at HY
  have hle := vals_le nm l
  have hln := hfl.len
  generalize fst' nm l = s at HF HS HX HY
  generalize vals nm l = vs at HC HS HX HY hle
  have hvl : (vs.length : Int) ≤ 1000 := by omega
  clear hfl hm hX hY hle hln
  by_cases h1 : vs.length = 1
  · obtain ⟨v, rfl⟩ := List.length_eq_one_iff.1 h1
    obtain rfl : s = v := HS.out
    have HW := hide (fun w => rg_value s (by have := HF.out; omega) w)
    rw [if_pos h1] at HX
    rw [decide_eq_true h1, Bool.true_and] at HY
    generalize valB s = b at HW HY
    clear h1 hvl
    go_enter Tryd.func32, Tryd.ntmps32
    go_wp2_with fail
    refine HC.out.mono ?_
    rintro e w2 ⟨r, rfl, hown, hb⟩
    obtain ⟨A2, c2, rfl, htx⟩ := own_texts hown
    obtain ⟨b2, off, e2, hlt, c0⟩ := htx.at_ 0 s rfl
    subst e2
    have HB := hide hb
    rw [Nat.add_zero] at c0
    clear hown hb htx
    go_upto_region 4 with (fail)
    go_quiet ((go_at_call 37; exact Calls.quiet_of_same ((HW.out _).mono fun _ _ h => ⟨h.1, h.2.symm⟩)))
    go_wp2
    go_ret2
    exact ⟨by rw [HX.out, HY.out]; rfl, below_drewN HB.out _⟩
  · rw [if_neg h1] at HX
    rw [decide_eq_false h1, Bool.false_and] at HY
    have d1 : ((vs.length : Int) == 1) = false := by simpa using (show ¬ (vs.length : Int) = 1 by omega)
    have d1n : ((vs.length : Int) != 1) = true := by rw [bne, d1]; rfl
    clear h1
    go_enter Tryd.func32, Tryd.ntmps32
    go_wp2_with fail
    refine HC.out.mono ?_
    rintro e w2 ⟨r, rfl, hown, hb⟩
    obtain ⟨A2, c2, rfl, htx⟩ := own_texts hown
    have HB := hide hb
    clear hown hb htx
    go_wp2
    go_ret2
    exact ⟨by rw [HX.out, HY.out]; rfl, HB.out⟩

theorem lenK_one (m : Int) (v : ByteArray) : lenK m [v] = if numB v = true ∧ ¬ (0 ≤ m ∧ numI v ≠ m) then some (numI v) else none := rfl
theorem lenK_at {vs : List ByteArray} {i : Nat} {v : ByteArray} {m : Int} (h : vs[i]? = some v) (hm : lenK (-1) (vs.take i) = some m) : lenK (-1) (vs.take (i + 1)) = lenK m [v] := by
  rw [List.take_add_one, h, Option.toList_some, lenK_app, hm]
  rfl
theorem lenK_bad {vs : List ByteArray} {i : Nat} {m : Int} {v : ByteArray} (h : vs[i]? = some v) (hm : lenK (-1) (vs.take i) = some m) (hb : lenK m [v] = none) : lenK (-1) vs = none := by
  have h1 := lenK_at h hm
  rw [← List.take_append_drop (i + 1) vs, lenK_app, h1, hb]
  rfl

set_option maxRecDepth 100000 in
set_option maxHeartbeats 3200000 in
theorem rg_length (A : Option Addr) (n c : Nat) (l : List Fd) (w : World) (hfl : FL w A n c l) (hm : Mod l) :
    Calls Tryd.prog 34 #[.slice A n c] w fun e w' => e = lenEnd (lenR l) ∧ Below w.heap.size w w' := by
  have hn : (n : Int) ≤ 1000 := by have := hm.1; have := hfl.len; omega
  have HC := hide (rg_Values A n c l nLen w hfl (by omega))
  have HVB := hide (fun v (hv : v ∈ vals nLen l) => hm.val hv)
  obtain ⟨R, hR⟩ : ∃ R, R = lenR l := ⟨_, rfl⟩
  rw [← hR]
  have HR := hide hR
  unfold lenR at HR
  have hle := vals_le nLen l
  have hln := hfl.len
  generalize vals nLen l = vs at HC HR HVB hle
  obtain ⟨k, hk⟩ : ∃ k, k = vs.length := ⟨_, rfl⟩
  have hkl : (k : Int) ≤ 1000 := by omega
  have HK := hide hk
  clear hfl hm hR hle hln hk
  simp only [nLen] at HC
  go_enter Tryd.func34, Tryd.ntmps34
  go_wp2_with fail
  refine HC.out.mono ?_
  rintro e w1 ⟨r, rfl, hown, hb⟩
  rw [← HK.out] at hown
  obtain ⟨A1, c1, rfl, htx⟩ := own_texts hown
  have HB := hide hb
  have HT := hide htx
  clear hown hb htx HC
  go_wp2_with fail
  go_loopw [5, 6, 7, 8] (fun s5 s6 _ _ wr => ∃ (i : Nat) (m : Int), i ≤ k ∧ s6 = .int .i64 (i : Int) ∧ s5 = .int .i64 m ∧ Hid (lenK (-1) (vs.take i) = some m ∧ (i = 0 ↔ m = -1)) ∧ wr = w1) (fun _ s6 _ _ _ => k - (intOf s6).toNat)
  case atStart => exact ⟨0, -1, by omega, rfl, rfl, hide ⟨rfl, by omega⟩, by first | rfl | trivial⟩
  case round =>
    obtain ⟨i, m, hi, rfl, rfl, HS, rfl⟩ := hrel
    by_cases hlt : i < k
    · have hlt' : (i : Int) < (k : Int) := by omega
      obtain ⟨v, b, off, hfd, rfl, hbl, c0⟩ := HT.out.round hlt
      have HFD := hide hfd
      have hsz := HVB.out v (List.mem_of_getElem? hfd)
      have hmb := lenK_bd HS.out.1 (by omega)
      have HN := hide (fun w => rg_Number v (by omega) w)
      clear hfd hsz
      by_cases hbv : numB v = true
      · have HBY := hide hbv
        have hq := numI_bd v
        obtain ⟨q, hqq⟩ : ∃ q, q = numI v := ⟨_, rfl⟩
        rw [← hqq] at hq
        have hE : numEnd v = .returned (.tuple #[.int .i64 q, .bool true]) := by unfold numEnd; rw [← hqq, hbv]
        rw [hE] at HN
        have HQ := hide hqq
        clear hqq hE hbv
        by_cases h0 : 0 < i
        · have h0' : (0 : Int) < (i : Int) := by omega
          have hm0 : m ≠ -1 := fun e => by have := HS.out.2.2 e; omega
          by_cases hqm : q = m
          · subst hqm
            have d2 : (q != q) = false := by simp
            have HNX := hide (show lenK (-1) (vs.take (i + 1)) = some q by rw [lenK_at HFD.out HS.out.1, lenK_one, if_pos ⟨HBY.out, by rw [← HQ.out]; omega⟩, ← HQ.out])
            clear hm0 hmb
            go_wp2_with (go_at_call 15; refine (HN.out _).mono ?_; rintro e w2 ⟨rfl, rfl⟩)
            go_roundw
            case rel => exact ⟨i + 1, q, by omega, by go_num, rfl, hide ⟨HNX.out, by omega⟩, by first | rfl | trivial⟩
            case measure => simp [intOf]; omega
          · have d1 : (q == m) = false := by simpa using hqm
            have d2 : (q != m) = true := by simpa using hqm
            have HNX := hide (lenK_bad HFD.out HS.out.1 (by rw [lenK_one, if_neg]; rintro ⟨_, z⟩; rw [← HQ.out] at z; exact z ⟨by omega, hqm⟩))
            clear hm0 hmb hqm
            go_wp2_with (go_at_call 15; refine (HN.out _).mono ?_; rintro e w2 ⟨rfl, rfl⟩)
            go_ret2
            exact ⟨by rw [HR.out, HNX.out]; rfl, HB.out⟩
        · have h0' : ¬ (0 : Int) < (i : Int) := by omega
          have hm0 : m = -1 := HS.out.2.1 (by omega)
          have HNX := hide (show lenK (-1) (vs.take (i + 1)) = some q by rw [lenK_at HFD.out HS.out.1, lenK_one, if_pos ⟨HBY.out, by rw [← HQ.out]; omega⟩, ← HQ.out])
          clear hm0 hmb
          go_wp2_with (go_at_call 15; refine (HN.out _).mono ?_; rintro e w2 ⟨rfl, rfl⟩)
          go_roundw
          case rel => exact ⟨i + 1, q, by omega, by go_num, rfl, hide ⟨HNX.out, by omega⟩, by first | rfl | trivial⟩
          case measure => simp [intOf]; omega
      · have hb' : numB v = false := by simpa using hbv
        have HNX := hide (lenK_bad HFD.out HS.out.1 (by rw [lenK_one, if_neg]; rintro ⟨z, _⟩; exact hbv z))
        rw [numEnd_no hb'] at HN
        clear hbv hb'
        go_wp2_with (go_at_call 15; refine (HN.out _).mono ?_; rintro e w2 ⟨rfl, rfl⟩)
        go_ret2
        exact ⟨by rw [HR.out, HNX.out]; rfl, HB.out⟩
    · have hge : ¬ (i : Int) < (k : Int) := by omega
      obtain rfl : i = k := by omega
      have HE := hide (show vs.take i = vs by rw [HK.out, List.take_length])
      go_wp2
      go_ret2
      exact ⟨by rw [HR.out]; have h := HS.out.1; rw [HE.out] at h; rw [h]; rfl, HB.out⟩
end Go.Proofs.YtlbhnbloanamfaaDoor
