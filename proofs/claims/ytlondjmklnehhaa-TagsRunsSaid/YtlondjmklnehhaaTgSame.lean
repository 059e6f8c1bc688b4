/-
  Layer 25: the document's SameTags.
-/
import Derived.Test.YtlondjmklnehhaaTgMemR
import Derived.Laws.StructEq
import Derived.BigRegion
namespace Go.Proofs.Ytlondjmklnehhaa
set_option linter.unusedSimpArgs false
set_option linter.unusedVariables false
open Go.RowKit

theorem sameT_step {a b : List Tg} {i : Nat} (h : a.take i = b.take i) (ha : i < a.length) (hb : i < b.length) (e : gtT a i = gtT b i) : a.take (i + 1) = b.take (i + 1) := by
  rw [List.take_add_one, List.take_add_one, h, gtT_get ha, gtT_get hb, e]
set_option maxRecDepth 100000 in
set_option maxHeartbeats 1600000 in
theorem rt_Same (A : Option Addr) (n c : Nat) (a : List Tg) (B : Option Addr) (m d : Nat) (b : List Tg) (w : World) (hl : SL tgF w A n c a) (hm : SL tgF w B m d b) (hn : (n : Int) ≤ 1000) (he : a = b) :
    Calls Try.prog 21 #[.slice A n c, .slice B m d] w fun e w' => e = .returned (.bool true) ∧ Below w.heap.size w w' := by
  subst he
  obtain rfl : n = m := by rw [← hl.len, ← hm.len]
  have HA := hide hl
  have HB := hide hm
  clear hl hm
  have h' : ((n : Int) != (n : Int)) = false := by simp
  go_enter Try.func21, Try.ntmps21
  go_wp2_with fail
  go_loopw [5] (fun s5 wr => ∃ i : Nat, i ≤ n ∧ s5 = .int .i64 (i : Int) ∧ Hid (Below w.heap.size w wr)) (fun s5 _ => n - (intOf s5).toNat)
  case atStart => exact ⟨0, by omega, rfl, Below.refl _ _⟩
  case round =>
    obtain ⟨i, hi, rfl, HW⟩ := hrel
    by_cases h2 : i < n
    · have h2' : (i : Int) < (n : Int) := by omega
      obtain ⟨x, b1, o1, hx, rfl, -, c0, c1, c2, c3⟩ := tg_round (HA.out.keep HW.out) h2
      obtain ⟨y, b2, o2, hy, rfl, -, d0, d1, d2, d3⟩ := tg_round (HB.out.keep HW.out) h2
      obtain rfl : x = y := hx.symm.trans hy
      clear hx hy
      obtain ⟨xw, xs, xf, xk⟩ := x
      simp only at c0 c1 c2 c3 d0 d1 d2 d3
      go_wp2_with fail
      go_region
      clear c0 c1 c2 c3 d0 d1 d2 d3
      go_wp2_with fail
      go_roundw
      case rel => exact ⟨i + 1, h2, by go_num, HW.out.drew⟩
      case measure => simp [intOf]; omega
    · have h2' : ¬ (i : Int) < (n : Int) := by omega
      go_wp2
      go_ret
      exact ⟨rfl, HW.out⟩
end Go.Proofs.Ytlondjmklnehhaa
