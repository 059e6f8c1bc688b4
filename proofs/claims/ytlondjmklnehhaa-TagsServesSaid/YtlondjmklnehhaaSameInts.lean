/-
  The document's '==' of lists of numbers (footmanref15.SameInts).
-/
import Derived.Test.YtlondjmklnehhaaIntRow
import Derived.Test.YtlondjmklnehhaaRows
import Derived.Test.YtlondjmklnehhaaChecked
import Derived.Deep.QuietTactic
import Derived.BigQuiet
namespace Go.Proofs.Ytlondjmklnehhaa
set_option linter.unusedSimpArgs false
set_option linter.unusedVariables false
open Go.RowKit

theorem eql_len {l k : List Int} (h : ¬ l.length = k.length) : decide (l = k) = false := by
  simp only [decide_eq_false_iff_not]
  rintro rfl; exact h rfl
theorem eql_no {l k : List Int} {i : Nat} {x y : Int} (hx : l[i]? = some x) (hy : k[i]? = some y) (h : ¬ x = y) : decide (l = k) = false := by
  simp only [decide_eq_false_iff_not]
  rintro rfl
  rw [hx] at hy
  injection hy with hy
  exact h hy
theorem eql_yes {l k : List Int} (hn : l.length = k.length) (h : ∀ j, j < l.length → l[j]? = k[j]?) : decide (l = k) = true := by
  simp only [decide_eq_true_eq]
  refine List.ext_getElem? fun j => ?_
  by_cases hj : j < l.length
  · exact h j hj
  · rw [List.getElem?_eq_none (by omega), List.getElem?_eq_none (by omega)]

set_option maxRecDepth 100000 in
set_option maxHeartbeats 1600000 in
theorem rd_SameInts (A : Option Addr) (n c : Nat) (l : List Int) (B : Option Addr) (m d : Nat) (k : List Int) (w : World) (hl : NL .i64 w A n c l) (hk : NL .i64 w B m d k) (hn : (n : Int) ≤ 1000000) :
    Calls Try.prog 23 #[.slice A n c, .slice B m d] w fun e w' => e = .returned (.bool (decide (l = k))) ∧ Below w.heap.size w w' := by
  have HL := hide hl
  have HK := hide hk
  by_cases hnm : n = m
  · subst hnm
    have HNO := hide (fun i x y hx hy h => eql_no (l := l) (k := k) (i := i) (x := x) (y := y) hx hy h)
    have HYE := hide (fun h => eql_yes (l := l) (k := k) (by rw [hl.len, hk.len]) h)
    generalize decide (l = k) = ob at *
    clear hl hk
    go_enter Try.func23, Try.ntmps23
    go_wp2_with fail
    go_loopw [5] (fun s wr => ∃ i : Nat, i ≤ n ∧ s = .int .i64 (i : Int) ∧ Hid (∀ j, j < i → l[j]? = k[j]?) ∧ Below w.heap.size w wr) (fun s _ => n - (intOf s).toNat)
    case atStart => exact ⟨0, by omega, rfl, fun j hj => by omega, Below.refl _ _⟩
    case round =>
      obtain ⟨i, hi, rfl, HO, hb⟩ := hrel
      have HB := hide hb
      by_cases hlt : i < n
      · have hlt' : (i : Int) < (n : Int) := by omega
        obtain ⟨x, b, off, hx, rfl, hbl, c0, -⟩ := HL.out.round hlt
        obtain ⟨y, b', off', hy, rfl, hbl', d0, -⟩ := HK.out.round hlt
        have e0 := (hb.cell (p := ⟨b, off + i, none⟩) hbl).trans c0
        have f0 := (hb.cell (p := ⟨b', off' + i, none⟩) hbl').trans d0
        have HX := hide hx
        have HY := hide hy
        clear hx hy hb c0 d0
        by_cases hxy : x = y
        · subst hxy
          go_wp2_with fail
          go_quiet (fail)
          go_wp2
          go_roundw
          case rel => exact ⟨i + 1, by omega, by go_num, fun j hj => by
            by_cases e : j = i
            · subst e; rw [HX.out, HY.out]
            · exact HO.out j (by omega), by simpa using below_drewN HB.out _⟩
          case measure => simp [intOf]; omega
        · have HE := hide (HNO.out i x y HX.out HY.out hxy)
          have hxy' : (x == y) = false := by simpa using hxy
          go_wp2_with fail
          go_quiet (fail)
          go_wp2
          go_ret
          exact ⟨by rw [HE.out]; rfl, by simpa using below_drewN HB.out _⟩
      · have hge : ¬ (i : Int) < (n : Int) := by omega
        obtain rfl : i = n := by omega
        have HE := hide (HYE.out (fun j hj => HO.out j (by rw [HL.out.len] at hj; exact hj)))
        go_wp2
        go_ret
        exact ⟨by rw [HE.out]; rfl, HB.out⟩
  · rw [eql_len (l := l) (k := k) (by rw [hl.len, hk.len]; exact hnm)]
    have hnm' : ¬ (n : Int) = (m : Int) := by omega
    clear hl hk
    go_enter Try.func23, Try.ntmps23
    go_wp2
    go_ret
    exact ⟨rfl, Below.refl _ _⟩
end Go.Proofs.Ytlondjmklnehhaa
