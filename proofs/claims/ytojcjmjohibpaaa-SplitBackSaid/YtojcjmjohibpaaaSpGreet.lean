/-
  Layer 10: greeting (what came, held against the preface).
-/
import Derived.Test.YtojcjmjohibpaaaSpMem
import Derived.BigQuiet
namespace Go.Proofs.Ytojcjmjohibpaaa
set_option linter.unusedSimpArgs false
set_option linter.unusedVariables false
open Go.RowKit

theorem greet_yes {g n : Nat} {xs : List Int} (hn : xs.length = n) (h : ∀ j, j < min n (24 - g) → xs.getD j 0 = preB.getD (g + j) 0) : greetB g xs = true := by
  subst hn
  simpa [greetB] using h
theorem greet_no {g n : Nat} {xs : List Int} (hn : xs.length = n) {j : Nat} (hj : j < min n (24 - g)) (h : xs.getD j 0 ≠ preB.getD (g + j) 0) : greetB g xs = false := by
  subst hn
  simp only [greetB, decide_eq_false_iff_not]
  exact fun hall => h (hall j hj)

/-- The preface as a text. -/
def preS : ByteArray := ⟨#[80, 82, 73, 32, 42, 32, 72, 84, 84, 80, 47, 50, 46, 48, 13, 10, 13, 10, 83, 77, 13, 10, 13, 10]⟩
theorem preS_bts : bts preS = preB := by rfl
theorem pre_at (j : Nat) (hj : j < 24) (i : Int) (hi : i = (j : Int)) (w : World) :
    (Instr.index 9 (.string ⟨#[80, 82, 73, 32, 42, 32, 72, 84, 84, 80, 47, 50, 46, 48, 13, 10, 13, 10, 83, 77, 13, 10, 13, 10]⟩) (.int .i64 i)).run Try.prog w = .ok (.int .u8 (preB.getD j 0)) w := by
  subst hi
  have hs : preS.size = 24 := by rfl
  have h := run_index_string (P := Try.prog) w 9 preS .i64 (j : Int) Try.underlying9
  rw [dif_pos (by omega)] at h
  have e : (preS[(j : Int).toNat]'(by omega)).toNat = (preS[j]'(by omega)).toNat := by simp
  rw [← preS_bts, bts_get preS j (by omega), ← e]
  exact h

set_option maxRecDepth 100000 in
set_option maxHeartbeats 1600000 in
theorem sp_greeting (g : Nat) (hg : g ≤ 24) (A : Option Addr) (n cap : Nat) (xs : List Int) (w : World) (hr : RB w A n xs) (hn : (n : Int) ≤ 1000) :
    Calls Try.prog 18 #[.int .i64 (g : Int), .slice A n cap] w fun e w' => e = .returned (.tuple #[.int .i64 (if greetB g xs = true then ((min n (24 - g) : Nat) : Int) else 0), .bool (greetB g xs)]) ∧ Below w.heap.size w w' := by
  obtain ⟨R, hR⟩ : ∃ R, R = greetB g xs := ⟨_, rfl⟩
  obtain ⟨m, hm⟩ : ∃ m, m = min n (24 - g) := ⟨_, rfl⟩
  rw [← hR, ← hm]
  obtain ⟨V, hV⟩ : ∃ V : Int, V = (if R = true then (m : Int) else 0) := ⟨_, rfl⟩
  rw [← hV]
  have HV := hide hV
  clear hV
  have HRR := hide hR
  have HM := hide hm
  have HR := hide hr
  have hg' : (g : Int) ≤ 24 := by omega
  clear hR hr
  by_cases hc : 24 - (g : Int) < (n : Int)
  · have e24 : 24 - (g : Int) = (m : Int) := by omega
    have hmn : m ≤ n := by omega
    have hml : (m : Int) < (n : Int) := by omega
    clear hm
    go_enter Try.func18, Try.ntmps18
    go_wp2_with fail
    go_loopw [14] (fun i wr => ∃ k : Nat, i = .int .i64 (k : Int) ∧ k ≤ m ∧ (∀ j, j < k → xs.getD j 0 = preB.getD (g + j) 0) ∧ Below w.heap.size w wr) (fun i _ => m - (intOf i).toNat)
    case atStart => exact ⟨0, rfl, by omega, fun j hj => absurd hj (by omega), Below.refl _ _⟩
    case round =>
      obtain ⟨k, rfl, hk, hall, hb⟩ := hrel
      have HALL := hide hall
      have HB := hide hb
      have R2 := hide (HR.out.below hb)
      clear hall hb
      by_cases hlt : k < m
      · have hlt' : (k : Int) < (m : Int) := by omega
        obtain ⟨b, off, rfl, _, hcell⟩ := R2.out.2.1 (by omega)
        have c1 := hcell k (by omega)
        have hi2 : ((g : Int) + (k : Int)) < 24 := by omega
        have hkn : (k : Int) < (n : Int) := by omega
        have hwr : IntKind.i64.wrap ((g : Int) + (k : Int)) = (g : Int) + (k : Int) := IntWalk.i64_in _ (by omega)
        have hix := pre_at (g + k) (by omega) ((g : Int) + (k : Int)) (by omega)
        obtain ⟨p, hp⟩ : ∃ p, p = preB.getD (g + k) 0 := ⟨_, rfl⟩
        obtain ⟨x, hx⟩ : ∃ x, x = xs.getD k 0 := ⟨_, rfl⟩
        rw [← hp] at hix
        rw [← hx] at c1
        have HP := hide hp
        have HX := hide hx
        clear hcell hp hx
        go_wp2_with fail
        go_quiet (fail)
        have HBD := hide (below_drewN HB.out nq)
        by_cases hxp : x = p
        · have hq : (x != p) = false := by simp [hxp]
          have HE := hide hxp
          clear hxp
          go_wp2_with fail
          go_roundw
          case rel =>
            refine ⟨k + 1, by go_num, by omega, fun j hj => ?_, HBD.out⟩
            by_cases hjk : j < k
            · exact HALL.out j hjk
            · have : j = k := by omega
              subst this
              rw [← HX.out, ← HP.out, HE.out]
          case measure => simp [intOf]; omega
        · have hq : (x != p) = true := by simp [hxp]
          have HE := hide hxp
          have HNO := hide (greet_no (g := g) HR.out.1 (j := k) (by rw [← HM.out]; exact hlt) (by rw [← HX.out, ← HP.out]; exact HE.out))
          clear hxp
          go_wp2_with fail
          go_ret2
          exact ⟨by rw [HV.out, HRR.out, HNO.out]; rfl, HBD.out⟩
      · obtain rfl : k = m := by omega
        have HYES := hide (greet_yes (g := g) (xs := xs) HR.out.1 (by rw [← HM.out]; exact HALL.out))
        have hge : ¬ (k : Int) < (k : Int) := by omega
        go_wp2_with fail
        go_ret2
        exact ⟨by rw [HV.out, HRR.out, HYES.out]; rfl, HB.out⟩
  · obtain rfl : m = n := by omega
    have hml : (m : Int) ≤ 24 - (g : Int) := by omega
    clear hm hc
    go_enter Try.func18, Try.ntmps18
    go_wp2_with fail
    go_loopw [14] (fun i wr => ∃ k : Nat, i = .int .i64 (k : Int) ∧ k ≤ m ∧ (∀ j, j < k → xs.getD j 0 = preB.getD (g + j) 0) ∧ Below w.heap.size w wr) (fun i _ => m - (intOf i).toNat)
    case atStart => exact ⟨0, rfl, by omega, fun j hj => absurd hj (by omega), Below.refl _ _⟩
    case round =>
      obtain ⟨k, rfl, hk, hall, hb⟩ := hrel
      have HALL := hide hall
      have HB := hide hb
      have R2 := hide (HR.out.below hb)
      clear hall hb
      by_cases hlt : k < m
      · have hlt' : (k : Int) < (m : Int) := by omega
        obtain ⟨b, off, rfl, _, hcell⟩ := R2.out.2.1 (by omega)
        have c1 := hcell k (by omega)
        have hi2 : ((g : Int) + (k : Int)) < 24 := by omega
        have hkn : (k : Int) < (m : Int) := by omega
        have hwr : IntKind.i64.wrap ((g : Int) + (k : Int)) = (g : Int) + (k : Int) := IntWalk.i64_in _ (by omega)
        have hix := pre_at (g + k) (by omega) ((g : Int) + (k : Int)) (by omega)
        obtain ⟨p, hp⟩ : ∃ p, p = preB.getD (g + k) 0 := ⟨_, rfl⟩
        obtain ⟨x, hx⟩ : ∃ x, x = xs.getD k 0 := ⟨_, rfl⟩
        rw [← hp] at hix
        rw [← hx] at c1
        have HP := hide hp
        have HX := hide hx
        clear hcell hp hx
        go_wp2_with fail
        go_quiet (fail)
        have HBD := hide (below_drewN HB.out nq)
        by_cases hxp : x = p
        · have hq : (x != p) = false := by simp [hxp]
          have HE := hide hxp
          clear hxp
          go_wp2_with fail
          go_roundw
          case rel =>
            refine ⟨k + 1, by go_num, by omega, fun j hj => ?_, HBD.out⟩
            by_cases hjk : j < k
            · exact HALL.out j hjk
            · have : j = k := by omega
              subst this
              rw [← HX.out, ← HP.out, HE.out]
          case measure => simp [intOf]; omega
        · have hq : (x != p) = true := by simp [hxp]
          have HE := hide hxp
          have HNO := hide (greet_no (g := g) HR.out.1 (j := k) (by rw [← HM.out]; exact hlt) (by rw [← HX.out, ← HP.out]; exact HE.out))
          clear hxp
          go_wp2_with fail
          go_ret2
          exact ⟨by rw [HV.out, HRR.out, HNO.out]; rfl, HBD.out⟩
      · obtain rfl : k = m := by omega
        have HYES := hide (greet_yes (g := g) (xs := xs) HR.out.1 (by rw [← HM.out]; exact HALL.out))
        have hge : ¬ (k : Int) < (k : Int) := by omega
        go_wp2_with fail
        go_ret2
        exact ⟨by rw [HV.out, HRR.out, HYES.out]; rfl, HB.out⟩
end Go.Proofs.Ytojcjmjohibpaaa
