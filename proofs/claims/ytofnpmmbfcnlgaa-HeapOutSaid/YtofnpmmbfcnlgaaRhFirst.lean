/-
  Layer 24: the document's First.
-/
import Derived.Test.YtofnpmmbfcnlgaaHpPlace
namespace Go.Proofs.Ytofnpmmbfcnlgaa
set_option linter.unusedSimpArgs false
set_option linter.unusedVariables false
open Go.RowKit

set_option maxRecDepth 100000 in
set_option maxHeartbeats 1600000 in
theorem rh_First (A : Option Addr) (n c : Nat) (l : List It) (id : Int) (w : World) (hl : IL w A n c l) (hn : (n : Int) ≤ 1000) :
    Calls Try.prog 22 #[.slice A n c, .int .i64 id] w fun e w' => e = .returned (.int .i64 (fstI l id)) ∧ w = w' := by
  have HL := hide hl
  have HLN := hide hl.len
  clear hl
  go_enter Try.func22, Try.ntmps22
  go_wp2_with fail
  go_loop [5] (fun s5 => ∃ k : Nat, s5 = .int .i64 (k : Int) ∧ k ≤ n ∧ Hid (NoTo l id k)) (fun s5 => n - (intOf s5).toNat)
  case atStart => exact ⟨0, rfl, by omega, (fun j hj => by omega)⟩
  case round =>
    obtain ⟨k, rfl, hk, HP⟩ := hrel
    by_cases h2 : k < n
    · have h2' : (k : Int) < (n : Int) := by omega
      obtain ⟨x, b, off, hx, hA, hbl, c0, c1⟩ := HL.out.round h2
      subst hA
      have HX := hide (gt_some hx)
      have HIL := hide (show k < l.length by rw [HLN.out]; exact h2)
      clear hx
      obtain ⟨a, d⟩ := x
      simp only at c0 c1
      by_cases hq : d = id
      · subst hq
        have HE := hide (fst_at HIL.out (by rw [HX.out]) HP.out).1
        go_wp2
        go_ret
        exact ⟨by rw [HE.out]; rfl, rfl⟩
      · have hq' : (d == id) = false := by simpa using hq
        have HS := hide (HP.out.step (by rw [HX.out]; exact hq))
        clear hq
        go_wp2
        go_round
        case rel => exact ⟨k + 1, by go_num, by omega, HS.out⟩
        case measure => simp [intOf]; omega
    · have h2' : ¬ (k : Int) < (n : Int) := by omega
      have HE := hide (fst_no (l := l) (d := id) (k := k) (by rw [HLN.out]; omega) HP.out)
      go_wp2
      go_ret
      exact ⟨by rw [HE.out]; rfl, rfl⟩
end Go.Proofs.Ytofnpmmbfcnlgaa
