/-
  Few fields, and small ones: the document's LightFields.
-/
import Derived.Test.YtdnopjopdklelaaDoorFdMem
namespace Go.Proofs.YtdnopjopdklelaaDoor
set_option linter.unusedSimpArgs false
set_option linter.unusedVariables false
open Go.RowKit

/-- Few fields, and small ones. -/
def smallB (f : Fd) : Bool := decide ((f.n.size : Int) ≤ 200) && decide ((f.v.size : Int) ≤ 200)
def lightB (l : List Fd) : Bool := decide ((l.length : Int) ≤ 30) && l.all smallB
def LightTo (l : List Fd) (k : Nat) : Prop := ∀ j f, j < k → l[j]? = some f → smallB f = true
theorem LightTo.zero (l : List Fd) : LightTo l 0 := fun _ _ h => absurd h (by omega)
theorem LightTo.succ {l : List Fd} {k : Nat} (h : LightTo l k) {f : Fd} (hf : l[k]? = some f) (hx : smallB f = true) : LightTo l (k + 1) := fun j g hj hg => by
  by_cases e : j = k
  · subst e; rw [hf] at hg; injection hg with hg; subst hg; exact hx
  · exact h j g (by omega) hg
theorem light_yes {l : List Fd} (hn : (l.length : Int) ≤ 30) (h : LightTo l l.length) : lightB l = true := by
  unfold lightB
  rw [Bool.and_eq_true, decide_eq_true_eq, List.all_eq_true]
  refine ⟨hn, fun f hf => ?_⟩
  obtain ⟨i, hi, rfl⟩ := List.getElem_of_mem hf
  exact h i _ hi (List.getElem?_eq_getElem hi)
theorem light_no {l : List Fd} {k : Nat} {f : Fd} (hf : l[k]? = some f) (hx : smallB f = false) : lightB l = false := by
  unfold lightB
  rw [Bool.and_eq_false_iff]
  refine .inr ?_
  rw [List.all_eq_false]
  exact ⟨f, List.mem_of_getElem? hf, by rw [hx]; simp⟩
theorem light_long {l : List Fd} (hn : ¬ (l.length : Int) ≤ 30) : lightB l = false := by simp [lightB]; omega
theorem light_szs {l : List Fd} (h : lightB l = true) : (l.length : Int) ≤ 30 ∧ (szs l : Int) ≤ 12960 ∧ ∀ f ∈ l, (szF f : Int) ≤ 432 := by
  unfold lightB at h
  rw [Bool.and_eq_true, decide_eq_true_eq, List.all_eq_true] at h
  obtain ⟨hn, ha⟩ := h
  have h1 : ∀ f ∈ l, (szF f : Int) ≤ 432 := fun f hf => by
    have := ha f hf
    simp only [smallB, Bool.and_eq_true, decide_eq_true_eq] at this
    unfold szF
    omega
  refine ⟨hn, ?_, h1⟩
  have key : ∀ l : List Fd, (∀ f ∈ l, (szF f : Int) ≤ 432) → (szs l : Int) ≤ 432 * (l.length : Int) := by
    intro l
    induction l with
    | nil => intro _; simp [szs]
    | cons f l ih =>
      intro hl
      have h2 := ih (fun g hg => hl g (List.mem_cons_of_mem _ hg))
      have h3 := hl f List.mem_cons_self
      simp only [szs, List.length_cons]
      omega
  have := key l h1
  omega

set_option maxRecDepth 100000 in
set_option maxHeartbeats 1600000 in
theorem rf_Light (A : Option Addr) (n c : Nat) (l : List Fd) (w : World) (hfl : FL w A n c l) :
    Calls Tryd.prog 14 #[.slice A n c] w fun e w' => e = .returned (.bool (lightB l)) ∧ w = w' := by
  obtain ⟨C, hC⟩ : ∃ C, C = lightB l := ⟨_, rfl⟩
  rw [← hC]
  have HCK := hide hC
  have HFL := hide hfl
  clear hC hfl
  by_cases hn : (n : Int) ≤ 30
  · have hn' : ¬ (30 : Int) < (n : Int) := by omega
    go_enter Tryd.func14, Tryd.ntmps14
    go_wp2_with fail
    go_loop [3] (fun k => ∃ i : Nat, i ≤ n ∧ k = .int .i64 (i : Int) ∧ LightTo l i) (fun k => n - (intOf k).toNat)
    case atStart => exact ⟨0, by omega, rfl, .zero l⟩
    case round =>
      obtain ⟨i, hi, rfl, hno⟩ := hrel
      have HNO := hide hno
      clear hno
      by_cases hlt : i < n
      · have hlt' : (i : Int) < (n : Int) := by omega
        obtain ⟨f, b, off, hf, rfl, hbl, c0, c1, _⟩ := HFL.out.round hlt
        have HF := hide hf
        clear hf
        by_cases h1 : (f.n.size : Int) ≤ 200
        · have h1' : ¬ (200 : Int) < (f.n.size : Int) := by omega
          by_cases h2 : (f.v.size : Int) ≤ 200
          · have h2' : ¬ (200 : Int) < (f.v.size : Int) := by omega
            have HT := hide (HNO.out.succ HF.out (by simp [smallB, h1, h2]))
            go_wp2
            go_round
            case rel => exact ⟨i + 1, by omega, by go_num, HT.out⟩
            case measure => simp [intOf]; omega
          · have h2' : (200 : Int) < (f.v.size : Int) := by omega
            have HT := hide (light_no HF.out (by simp [smallB, h1]; omega))
            go_wp2
            go_ret
            exact ⟨by rw [HCK.out, HT.out]; rfl, rfl⟩
        · have h1' : (200 : Int) < (f.n.size : Int) := by omega
          have HT := hide (light_no HF.out (by simp [smallB]; omega))
          go_wp2
          go_ret
          exact ⟨by rw [HCK.out, HT.out]; rfl, rfl⟩
      · have hge : ¬ (i : Int) < (n : Int) := by omega
        obtain rfl : i = n := by omega
        have HT := hide (light_yes (l := l) (by rw [HFL.out.len]; exact hn) (by rw [HFL.out.len]; exact HNO.out))
        go_wp2
        go_ret
        exact ⟨by rw [HCK.out, HT.out]; rfl, rfl⟩
  · have hn' : (30 : Int) < (n : Int) := by omega
    have HT := hide (light_long (l := l) (by rw [HFL.out.len]; exact hn))
    go_enter Tryd.func14, Tryd.ntmps14
    go_wp2
    go_ret
    exact ⟨by rw [HCK.out, HT.out]; rfl, rfl⟩
end Go.Proofs.YtdnopjopdklelaaDoor
