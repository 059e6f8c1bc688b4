/-
  Layer 9: the document's small functions.
-/
import Derived.Test.YtefdhbljcnpggaaFrAwake
import Derived.BigGuardPart
namespace Go.Proofs.Ytefdhbljcnpggaa
open Go.RowKit

theorem rfr_sz : (Try.prog.info? 35).map (·.size) = some 12 := by kernel_rfl

theorem rg_has (F : Fr) (A : Option Addr) (n c : Nat) (f0 : 0 ≤ F.fl) (f1 : F.fl ≤ 255) (g : Nat) (hg : g < 256) (w : World) :
    Calls Try.prog 54 #[.agg (F.cs A n c), .int .u8 (g : Int)] w fun e w' => e = .returned (.bool (hasB F.fl g)) ∧ Below w.heap.size w w' := by
  obtain ⟨a, ha⟩ : ∃ a : Nat, F.fl = (a : Int) := ⟨F.fl.toNat, by omega⟩
  have q1 : (F.cs A n c)[1]? = some (.int .u8 (a : Int)) := by rw [← ha]; rfl
  have HH := hide (fun w => rf_Has a g (by omega) hg w)
  rw [← ha] at HH
  have HA := hide ha
  generalize F.cs A n c = cs at *
  clear ha f0 f1 hg
  go_enter Try.func54, Try.ntmps54
  go_wp2_with fail
  rw [← HA.out]
  refine (HH.out _).mono ?_
  rintro e w1 ⟨rfl, rfl⟩
  go_wp2
  go_ret
  exact ⟨rfl, (Below.refl _ _).alloc (Nat.le_refl _) _⟩

theorem rg_padded (F : Fr) (A : Option Addr) (n c : Nat) (t0 : 0 ≤ F.ty) (f0 : 0 ≤ F.fl) (f1 : F.fl ≤ 255) (w : World) :
    Calls Try.prog 53 #[.agg (F.cs A n c)] w fun e w' => e = .returned (.bool (shP F.ty F.fl)) ∧ Below w.heap.size w w' := by
  have q0 : (F.cs A n c)[0]? = some (.int .u8 F.ty) := rfl
  have HH := hide (fun w => rg_has F A n c f0 f1 8 (by omega) w)
  have HZ := hide (show (Try.prog.info? 35).map (·.size) = some (F.cs A n c).size from rfr_sz)
  by_cases h : F.ty ≤ 1
  · have HE := hide (show shP F.ty F.fl = hasB F.fl 8 by
      have : F.ty = 0 ∨ F.ty = 1 := by omega
      rcases this with h | h <;> simp [shP, h])
    generalize F.cs A n c = cs at *
    go_enter Try.func53, Try.ntmps53
    go_wp2_with (refine wpList_load_want (by rfl) 35 (.tmp 1) rfl w.heap.size rfl 35 cs _ (BlkIs.new w _ _) Try.underlying35 rfl HZ.out ?_)
    refine (HH.out _).mono ?_
    rintro e w1 ⟨rfl, hb1⟩
    have HB := hide (((Below.refl w.heap.size w).alloc (Nat.le_refl _) _).trans (hb1.mono (by simp)))
    clear hb1
    go_wp2
    go_ret
    exact ⟨by rw [HE.out]; rfl, HB.out⟩
  · have HE := hide (show shP F.ty F.fl = false by
      have h0 : ¬ F.ty = 0 := by omega
      have h1 : ¬ F.ty = 1 := by omega
      simp [shP, h0, h1])
    generalize F.cs A n c = cs at *
    go_enter Try.func53, Try.ntmps53
    go_wp2
    go_ret
    exact ⟨by rw [HE.out]; rfl, (Below.refl _ _).alloc (Nat.le_refl _) _⟩

theorem rg_wrong (t s : Int) (h0 : 0 ≤ t) (w : World) :
    Calls Try.prog 28 #[.int .u8 t, .int .i64 s] w fun e w' => e = .returned (.bool (misB t s)) ∧ Below w.heap.size w w' := by
  rcases t_cases h0 with rfl | rfl | rfl | rfl | rfl | rfl | rfl | rfl | rfl | rfl | h
  all_goals
    go_enter Try.func28, Try.ntmps28
    go_wp2
    go_ret
    refine ⟨?_, Below.refl _ _⟩
    first
      | (simp [misB, beqI, bneI]; done)
      | (rw [misB, if_neg (by omega), if_neg (by omega)]; simp [beqI])

/-- Has a payload a length that it may not have? -/
def sizB (t f n : Int) : Bool := if t = 3 ∨ t = 8 then decide (n ≠ 4) else if t = 4 then decide (n % 6 ≠ 0) || hasB f 1 && decide (n ≠ 0) else if t = 6 then decide (n ≠ 8) else if t = 7 then decide (n < 8) else false

set_option maxRecDepth 100000 in
set_option maxHeartbeats 800000 in
theorem rg_sized (F : Fr) (A : Option Addr) (n0 c : Nat) (t0 : 0 ≤ F.ty) (f0 : 0 ≤ F.fl) (f1 : F.fl ≤ 255) (n : Int) (n0' : 0 ≤ n) (n1 : n ≤ 600000) (w : World) :
    Calls Try.prog 30 #[.agg (F.cs A n0 c), .int .i64 n] w fun e w' => e = .returned (.bool (sizB F.ty F.fl n)) ∧ Below w.heap.size w w' := by
  have q0 : (F.cs A n0 c)[0]? = some (.int .u8 F.ty) := rfl
  have HH := hide (fun w => rg_has F A n0 c f0 f1 1 (by omega) w)
  have HZ := hide (show (Try.prog.info? 35).map (·.size) = some (F.cs A n0 c).size from rfr_sz)
  obtain ⟨hb, hhb⟩ : ∃ b, b = hasB F.fl 1 := ⟨_, rfl⟩
  rw [show ((1 : Nat) : Int) = 1 from rfl, ← hhb] at HH
  have HHB := hide hhb
  clear hhb f0 f1
  generalize F.cs A n0 c = cs at *
  generalize F.fl = fl at *
  generalize F.ty = t at *
  rcases t_cases t0 with rfl | rfl | rfl | rfl | rfl | rfl | rfl | rfl | rfl | rfl | h
  case inr.inr.inr.inr.inl =>
    have HE := hide (show sizB 4 fl n = (decide (n % 6 ≠ 0) || hb && decide (n ≠ 0)) by rw [HHB.out]; rfl)
    by_cases h6 : n % 6 = 0
    · go_enter Try.func30, Try.ntmps30
      go_wp2_with (refine wpList_load_want (by rfl) 35 (.tmp 2) rfl w.heap.size rfl 35 cs _ (BlkIs.new w _ _) Try.underlying35 rfl HZ.out ?_)
      refine (HH.out _).mono ?_
      rintro e w1 ⟨rfl, hb1⟩
      have HB := hide (((Below.refl w.heap.size w).alloc (Nat.le_refl _) _).trans (hb1.mono (by simp)))
      clear hb1
      cases hb with
      | true =>
        go_wp2
        go_ret
        exact ⟨by rw [HE.out]; simp [h6, bneI], HB.out⟩
      | false =>
        go_wp2
        go_ret
        exact ⟨by rw [HE.out]; simp [h6], HB.out⟩
    · have h6b : (n % 6 != 0) = true := by simp [h6]
      go_enter Try.func30, Try.ntmps30
      go_wp2
      go_ret
      exact ⟨by rw [HE.out]; simp [h6], (Below.refl _ _).alloc (Nat.le_refl _) _⟩
  all_goals
    go_enter Try.func30, Try.ntmps30
    go_wp2
    go_ret
    refine ⟨?_, (Below.refl _ _).alloc (Nat.le_refl _) _⟩
    first
      | (simp [sizB, beqI, bneI]; done)
      | (rw [sizB, if_neg (by omega), if_neg (by omega), if_neg (by omega), if_neg (by omega)]; rfl)
end Go.Proofs.Ytefdhbljcnpggaa
