/-
  Layer 9: what Read answers of zeros.
-/
import Derived.Test.YtefdhbljcnpggaaFrLongs0
namespace Go.Proofs.Ytefdhbljcnpggaa
open Go.RowKit

/-- Is a payload of N zeros, of a head without flags, no fault? -/
def okZ (k s : Int) (N : Nat) : Bool := !misB k s && rightB k 0 (N : Int) && !shI k
theorem shP_zero (k : Int) : shP k 0 = false := by
  have : hasB 0 8 = false := by kernel_rfl
  simp [shP, this]
theorem zs_len (N : Nat) : (zs N).length = N := by simp [zs]
theorem rd_zs (k s : Int) (N : Nat) : (okZ k s N = true → (readR k 0 s (zs N)).code = 0 ∧ (readR k 0 s (zs N)).st = 0) ∧
    (okZ k s N = false → ∃ c t, readR k 0 s (zs N) = Rd.fault c t ∧ 0 < c ∧ (t = 0 ∨ t = s)) := by
  have hb : bodyR k 0 (zs N) = zs N := by rw [bodyR, shP_zero]; rfl
  have hr : readR k 0 s (zs N) = if misB k s then Rd.fault 1 0 else if rightB k 0 (N : Int) = false then Rd.fault 6 (if k = 2 then s else 0) else if shI k = true ∧ (fillR k 0 s (zs N)).inc = 0 then Rd.fault 1 s else ⟨fillR k 0 s (zs N), prsRd k 0 (zs N), 0, 0⟩ := by
    rw [readR, shP_zero, hb, zs_len]
    simp
  rw [hr]
  unfold okZ
  cases hm : misB k s with
  | true => exact ⟨fun h => by simp at h, fun _ => ⟨1, 0, rfl, by omega, .inl rfl⟩⟩
  | false =>
    cases hg : rightB k 0 (N : Int) with
    | false =>
      refine ⟨fun h => by simp at h, fun _ => ⟨6, _, rfl, by omega, ?_⟩⟩
      split
      · exact .inr rfl
      · exact .inl rfl
    | true =>
      cases hI : shI k with
      | false => exact ⟨fun _ => ⟨rfl, rfl⟩, fun h => by simp at h⟩
      | true =>
        have hk : k = 8 := by simpa [shI] using hI
        subst hk
        have hN : N = 4 := by
          have e1 : shR 8 0 = false := by kernel_rfl
          have e2 : shX 8 = false := by kernel_rfl
          have e3 : fixT 8 0 = 4 := by kernel_rfl
          rw [rightB, if_neg (by decide), e1, e2, e3] at hg
          have : (N : Int) = 4 := by simpa using hg
          omega
        subst hN
        have hz : (fillR 8 0 s (zs 4)).inc = 0 := by
          have h1 : shI 8 = true := by kernel_rfl
          have h2 : bodyR 8 0 (zs 4) = zs 4 := hb
          have h3 : shD 8 0 = false := by kernel_rfl
          have h4 : shL 8 = false := by kernel_rfl
          have h5 : shC 8 = false := by kernel_rfl
          have h6 : shX 8 = false := by kernel_rfl
          rw [fillR, h2, h1, h3, h4, h5, h6]
          rfl
        exact ⟨fun h => by simp at h, fun _ => ⟨1, s, by simp [hz], by omega, .inr rfl⟩⟩
theorem ok0 (s : Int) (N : Nat) : okZ 0 s N = (!decide (s = 0)) := by
  have e1 : shR 0 0 = false := by kernel_rfl
  have e2 : shX 0 = true := by kernel_rfl
  have e3 : fixT 0 0 = 0 := by kernel_rfl
  have e4 : shI 0 = false := by kernel_rfl
  simp [okZ, misB, rightB, e1, e2, e3, e4]
theorem ok1 (s : Int) (N : Nat) : okZ 1 s N = (!decide (s = 0)) := by
  have e1 : shR 1 0 = false := by kernel_rfl
  have e2 : shX 1 = true := by kernel_rfl
  have e3 : fixT 1 0 = 0 := by kernel_rfl
  have e4 : shI 1 = false := by kernel_rfl
  simp [okZ, misB, rightB, e1, e2, e3, e4]
theorem ok2 (s : Int) (N : Nat) : okZ 2 s N = (!decide (s = 0) && decide ((N : Int) = 5)) := by
  have e1 : shR 2 0 = false := by kernel_rfl
  have e2 : shX 2 = false := by kernel_rfl
  have e3 : fixT 2 0 = 5 := by kernel_rfl
  have e4 : shI 2 = false := by kernel_rfl
  simp [okZ, misB, rightB, e1, e2, e3, e4]
theorem ok3 (s : Int) (N : Nat) : okZ 3 s N = (!decide (s = 0) && decide ((N : Int) = 4)) := by
  have e1 : shR 3 0 = false := by kernel_rfl
  have e2 : shX 3 = false := by kernel_rfl
  have e3 : fixT 3 0 = 4 := by kernel_rfl
  have e4 : shI 3 = false := by kernel_rfl
  simp [okZ, misB, rightB, e1, e2, e3, e4]
theorem ok4 (s : Int) (N : Nat) : okZ 4 s N = (decide (s = 0) && decide ((N : Int) % 6 = 0)) := by
  have e1 : shR 4 0 = true := by kernel_rfl
  have e2 : shX 4 = false := by kernel_rfl
  have e3 : fixT 4 0 = 0 := by kernel_rfl
  have e4 : shI 4 = false := by kernel_rfl
  simp [okZ, misB, rightB, e1, e2, e3, e4]
theorem ok5 (s : Int) (N : Nat) : okZ 5 s N = (false) := by
  have e1 : shR 5 0 = false := by kernel_rfl
  have e2 : shX 5 = true := by kernel_rfl
  have e3 : fixT 5 0 = 0 := by kernel_rfl
  have e4 : shI 5 = false := by kernel_rfl
  simp [okZ, misB, rightB, e1, e2, e3, e4]
theorem ok6 (s : Int) (N : Nat) : okZ 6 s N = (decide (s = 0) && decide ((N : Int) = 8)) := by
  have e1 : shR 6 0 = false := by kernel_rfl
  have e2 : shX 6 = true := by kernel_rfl
  have e3 : fixT 6 0 = 0 := by kernel_rfl
  have e4 : shI 6 = false := by kernel_rfl
  simp [okZ, misB, rightB, e1, e2, e3, e4]
theorem ok7 (s : Int) (N : Nat) : okZ 7 s N = (decide (s = 0) && decide (8 ≤ (N : Int))) := by
  have e1 : shR 7 0 = false := by kernel_rfl
  have e2 : shX 7 = true := by kernel_rfl
  have e3 : fixT 7 0 = 8 := by kernel_rfl
  have e4 : shI 7 = false := by kernel_rfl
  simp [okZ, misB, rightB, e1, e2, e3, e4]
theorem ok8 (s : Int) (N : Nat) : okZ 8 s N = (false) := by
  have e1 : shR 8 0 = false := by kernel_rfl
  have e2 : shX 8 = false := by kernel_rfl
  have e3 : fixT 8 0 = 4 := by kernel_rfl
  have e4 : shI 8 = true := by kernel_rfl
  simp [okZ, misB, rightB, e1, e2, e3, e4]
theorem ok9 (s : Int) (N : Nat) : okZ 9 s N = (!decide (s = 0)) := by
  have e1 : shR 9 0 = false := by kernel_rfl
  have e2 : shX 9 = true := by kernel_rfl
  have e3 : fixT 9 0 = 0 := by kernel_rfl
  have e4 : shI 9 = false := by kernel_rfl
  simp [okZ, misB, rightB, e1, e2, e3, e4]
theorem ok10 (k s : Int) (N : Nat) (h : 9 < k) : okZ k s N = true := by
  have e : ∀ j : Int, j ≤ 9 → decide (k = j) = false := fun j hj => by simp; omega
  have e1 : shR k 0 = false := by simp [shR, e 4 (by omega)]
  have e2 : shX k = true := by simp [shX, e 2 (by omega), e 3 (by omega), e 4 (by omega), e 8 (by omega)]
  have e4 : shI k = false := by simp [shI, e 8 (by omega)]
  have e5 : fixT k 0 = 0 := by simp [fixT, fixN, b4, shD, shL, shC, e4, e 2 (by omega), e 1 (by omega), e 7 (by omega), e 3 (by omega)]
  have em : misB k s = false := by
    rw [misB, if_neg (by omega), if_neg (by omega)]
    simp; omega
  rw [okZ, em, e4, rightB, if_neg (by omega), e1, e2, e5]
  simp
end Go.Proofs.Ytefdhbljcnpggaa
