/-
  Layer 24: leastAt.
-/
import Derived.Test.YtofnpmmbfcnlgaaHpLess
import Derived.Deep.RegionHeld3
namespace Go.Proofs.Ytofnpmmbfcnlgaa
set_option linter.unusedSimpArgs false
set_option linter.unusedVariables false
open Go.RowKit

/-- The least place so far, ahead of place m. -/
def lsN (l : List It) (i : Nat) : Nat → Nat
  | 0 => i
  | j + 1 => lessr l (lsN l i j) (2 * i + 1 + j)
def LsI (l : List It) (i m q : Nat) : Prop := ∃ j, m = 2 * i + 1 + j ∧ j ≤ 2 ∧ q = lsN l i j
theorem lessr_far {l : List It} {a b : Nat} (h : l.length ≤ b) : lessr l a b = a := if_neg (by omega)
theorem lessr_yes {l : List It} {a b : Nat} (h : b < l.length) (k : ltB (gt l b) (gt l a) = true) : lessr l a b = b := if_pos ⟨h, k⟩
theorem lessr_no {l : List It} {a b : Nat} (k : ltB (gt l b) (gt l a) = false) : lessr l a b = a := if_neg (by rw [k]; simp)
theorem LsI.start (l : List It) (i : Nat) : LsI l i (2 * i + 1) i := ⟨0, rfl, by omega, rfl⟩
theorem LsI.yes {l : List It} {i m q : Nat} (h : LsI l i m q) (hm : m ≤ 2 * i + 2) (h1 : m < l.length) (k : ltB (gt l m) (gt l q) = true) : LsI l i (m + 1) m := by
  obtain ⟨j, rfl, hj, rfl⟩ := h
  exact ⟨j + 1, rfl, by omega, by rw [lsN, lessr_yes h1 k]⟩
theorem LsI.no {l : List It} {i m q : Nat} (h : LsI l i m q) (hm : m ≤ 2 * i + 2) (k : ltB (gt l m) (gt l q) = false) : LsI l i (m + 1) q := by
  obtain ⟨j, rfl, hj, rfl⟩ := h
  exact ⟨j + 1, rfl, by omega, by rw [lsN, lessr_no k]⟩
theorem LsI.done {l : List It} {i m q : Nat} (h : LsI l i m q) (hm : 2 * i + 2 < m ∨ l.length ≤ m) : q = leastL l i := by
  obtain ⟨j, rfl, hj, rfl⟩ := h
  match j, hj with
  | 0, _ =>
    unfold leastL
    rw [lessr_far (b := 2 * i + 1) (by omega), lessr_far (by omega)]; rfl
  | 1, _ =>
    unfold leastL
    rw [lessr_far (b := 2 * i + 2) (by omega)]; rfl
  | 2, _ => rfl

set_option maxRecDepth 100000 in
set_option maxHeartbeats 1600000 in
theorem hp_leastAt (A : Option Addr) (n c : Nat) (l : List It) (i : Nat) (w : World) (hl : IL w A n c l) (hi : i < n) (hn : (n : Int) ≤ 1000) :
    Calls Try.prog 31 #[.slice A n c, .int .i64 (i : Int)] w fun e w' => e = .returned (.int .i64 ((leastL l i : Nat) : Int)) ∧ Below w.heap.size w w' := by
  have HL := hide hl
  have HLN := hide hl.len
  clear hl
  go_enter Try.func31, Try.ntmps31
  go_wp2_with fail
  go_loopw [5, 6] (fun s5 s6 wr => ∃ (m q : Nat), s5 = .int .i64 (q : Int) ∧ s6 = .int .i64 (m : Int) ∧ q < n ∧ m ≤ 2 * i + 3 ∧ Hid (LsI l i m q) ∧ Hid (Below w.heap.size w wr)) (fun _ s6 _ => 2 * i + 3 - (intOf s6).toNat)
  case atStart => exact ⟨2 * i + 1, i, rfl, by go_num, hi, by omega, LsI.start l i, Below.refl _ _⟩
  case round =>
    obtain ⟨m, q, rfl, rfl, hq, hm3, HI, HB⟩ := hrel
    have e5 : True := trivial
    by_cases h1 : m ≤ 2 * i + 2
    · have h1' : (m : Int) ≤ 2 * (i : Int) + 2 := by omega
      by_cases h2 : m < n
      · have h2' : (m : Int) < (n : Int) := by omega
        obtain ⟨x, b, off, hx, hA, hbl, c0, c1⟩ := (HL.out.keep HB.out).round h2
        obtain ⟨y, b', off', hy, hA', _, d0, d1⟩ := (HL.out.keep HB.out).round hq
        rw [hA] at hA'
        obtain ⟨rfl, rfl⟩ : b = b' ∧ off = off' := by injection hA' with e; injection e with e1 e2; exact ⟨e1, e2⟩
        clear hA'
        subst hA
        have HX := hide (gt_some hx)
        have HY := hide (gt_some hy)
        clear hx hy
        have HC := hide (hp_Less x y)
        obtain ⟨z, hz⟩ : ∃ z, ltB x y = z := ⟨_, rfl⟩
        rw [hz] at HC
        have HZ := hide hz
        clear hz
        go_wp2_with fail
        go_region_held3 (fun w' => w'.cell? ⟨b, off + m * 2, none⟩ = some (.int .i64 x.k) ∧ w'.cell? ⟨b, off + m * 2 + 1, none⟩ = some (.int .i64 x.d) ∧ w'.cell? ⟨b, off + q * 2, none⟩ = some (.int .i64 y.k) ∧ w'.cell? ⟨b, off + q * 2 + 1, none⟩ = some (.int .i64 y.d))
          (first | exact ⟨c0, c1, d0, d1⟩ | exact ⟨k0, k1, k2, k3⟩)
          (first
            | (go_at_call 15; ((with_reducible refine (HC.out _).mono ?_); rintro e w3 ⟨rfl, hb3⟩; have k0 := (hb3.cell (p := ⟨b, _, none⟩) hbl).trans c0; have k1 := (hb3.cell (p := ⟨b, _, none⟩) hbl).trans c1; have k2 := (hb3.cell (p := ⟨b, _, none⟩) hbl).trans d0; have k3 := (hb3.cell (p := ⟨b, _, none⟩) hbl).trans d1; have HB3 := hide (HB.out.drew.trans (hb3.mono HB.out.size)); clear hb3)))
        have HIL := hide (show m < l.length by rw [HLN.out]; exact h2)
        cases z with
        | true =>
          have HS := hide (HI.out.yes h1 HIL.out (by rw [HX.out, HY.out]; exact HZ.out))
          clear HC c0 c1 d0 d1 k0 k1 k2 k3
          go_wp2_with fail
          go_roundw
          case rel => exact ⟨m + 1, m, rfl, by go_num, h2, by omega, HS.out, HB3.out⟩
          case measure => simp [intOf]; omega
        | false =>
          have HS := hide (HI.out.no h1 (by rw [HX.out, HY.out]; exact HZ.out))
          clear HC c0 c1 d0 d1 k0 k1 k2 k3
          go_wp2_with fail
          go_roundw
          case rel => exact ⟨m + 1, q, rfl, by go_num, hq, by omega, HS.out, HB3.out⟩
          case measure => simp [intOf]; omega
      · have h2' : ¬ (m : Int) < (n : Int) := by omega
        have HE := hide (HI.out.done (.inr (by rw [HLN.out]; omega)))
        go_wp2
        go_ret
        exact ⟨by rw [HE.out]; rfl, HB.out⟩
    · have h1' : ¬ (m : Int) ≤ 2 * (i : Int) + 2 := by omega
      have HE := hide (HI.out.done (.inl (by omega)))
      go_wp2
      go_ret
      exact ⟨by rw [HE.out]; rfl, HB.out⟩
end Go.Proofs.Ytofnpmmbfcnlgaa
