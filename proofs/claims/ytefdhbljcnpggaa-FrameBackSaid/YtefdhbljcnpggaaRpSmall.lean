/-
  Layer 9: small functions of the document's putting: in, weighed, Light.
-/
import Derived.Test.YtefdhbljcnpggaaRfSmall
namespace Go.Proofs.Ytefdhbljcnpggaa
open Go.RowKit

theorem rp_in (n : Int) (w : World) :
    Calls Try.prog 44 #[.int .i64 n] w fun e w' => e = .returned (.bool (inS n)) ∧ Below w.heap.size w w' := by
  by_cases h0 : 0 ≤ n
  · by_cases h1 : n ≤ 2147483647
    · have HE := hide (show inS n = true by simp [inS, h0, h1])
      go_enter Try.func44, Try.ntmps44
      go_wp2
      go_ret
      exact ⟨by rw [HE.out]; simp [h1], Below.refl _ _⟩
    · have HE := hide (show inS n = false by simp [inS, h1])
      go_enter Try.func44, Try.ntmps44
      go_wp2
      go_ret
      exact ⟨by rw [HE.out]; simp [h1], Below.refl _ _⟩
  · have HE := hide (show inS n = false by simp [inS, h0])
    go_enter Try.func44, Try.ntmps44
    go_wp2
    go_ret
    exact ⟨by rw [HE.out]; simp, Below.refl _ _⟩

theorem rp_weighed (F : Fr) (A : Option Addr) (n c : Nat) (f0 : 0 ≤ F.fl) (f1 : F.fl ≤ 255) (w : World) :
    Calls Try.prog 58 #[.agg (F.cs A n c)] w fun e w' => e = .returned (.bool (shD F.ty F.fl)) ∧ Below w.heap.size w w' := by
  have q0 : (F.cs A n c)[0]? = some (.int .u8 F.ty) := rfl
  have HH := hide (fun w => rg_has F A n c f0 f1 32 (by omega) w)
  have HZ := hide (show (Try.prog.info? 35).map (·.size) = some (F.cs A n c).size from rfr_sz)
  by_cases h2 : F.ty = 2
  · have HE := hide (show shD F.ty F.fl = true by simp [shD, h2])
    generalize F.cs A n c = cs at *
    rw [h2] at q0
    go_enter Try.func58, Try.ntmps58
    go_wp2
    go_ret
    exact ⟨by rw [HE.out]; rfl, (Below.refl _ _).alloc (Nat.le_refl _) _⟩
  · by_cases h1 : F.ty = 1
    · have HE := hide (show shD F.ty F.fl = hasB F.fl 32 by simp [shD, h1])
      generalize F.cs A n c = cs at *
      rw [h1] at q0
      go_enter Try.func58, Try.ntmps58
      go_wp2_with (refine wpList_load_want (by rfl) 35 (.tmp 1) rfl w.heap.size rfl 35 cs _ (BlkIs.new w _ _) Try.underlying35 rfl HZ.out ?_)
      refine (HH.out _).mono ?_
      rintro e w1 ⟨rfl, hb1⟩
      have HB := hide (((Below.refl w.heap.size w).alloc (Nat.le_refl _) _).trans (hb1.mono (by simp)))
      clear hb1
      go_wp2
      go_ret
      exact ⟨by rw [HE.out]; rfl, HB.out⟩
    · have HE := hide (show shD F.ty F.fl = false by simp [shD, h1, h2])
      have b2 : (F.ty == 2) = false := by simp [h2]
      have b1 : (F.ty == 1) = false := by simp [h1]
      generalize F.cs A n c = cs at *
      go_enter Try.func58, Try.ntmps58
      go_wp2
      go_ret
      exact ⟨by rw [HE.out]; rfl, (Below.refl _ _).alloc (Nat.le_refl _) _⟩

def Fr.light (F : Fr) (n : Nat) : Bool := decide ((F.data.size : Int) ≤ 400) && decide ((n : Int) ≤ 40)

theorem rp_Light (F : Fr) (A : Option Addr) (n c : Nat) (w : World) :
    Calls Try.prog 13 #[.agg (F.cs A n c)] w fun e w' => e = .returned (.bool (F.light n)) ∧ Below w.heap.size w w' := by
  have q3 : (F.cs A n c)[3]? = some (.string F.data) := rfl
  have q11 : (F.cs A n c)[11]? = some (.slice A n c) := rfl
  by_cases h3 : (F.data.size : Int) ≤ 400
  · have HE := hide (show F.light n = decide ((n : Int) ≤ 40) by simp [Fr.light, h3])
    generalize F.cs A n c = cs at *
    go_enter Try.func13, Try.ntmps13
    go_wp2
    go_ret
    exact ⟨by rw [HE.out]; rfl, (Below.refl _ _).alloc (Nat.le_refl _) _⟩
  · have HE := hide (show F.light n = false by simp [Fr.light, h3])
    generalize F.cs A n c = cs at *
    go_enter Try.func13, Try.ntmps13
    go_wp2
    go_ret
    exact ⟨by rw [HE.out]; rfl, (Below.refl _ _).alloc (Nat.le_refl _) _⟩
end Go.Proofs.Ytefdhbljcnpggaa
