/-
  Layer 12: the document's small functions: all, fault, set; what both set first (Own).
-/
import Derived.Test.YtlcnenkfineddaaSsSmall
namespace Go.Proofs.Ytlcnenkfineddaa
set_option linter.unusedSimpArgs false
set_option linter.unusedVariables false
open Go.RowKit

/-- What all gives: a row of its own. -/
def GivesAll (v : Vs) (w : World) (e : Ending) (w' : World) : Prop := ∃ g, e = .returned (.slice (some ⟨g, 0, none⟩) 6 6) ∧ BlkIs w' g 3 v.cs ∧ w.heap.size ≤ g ∧ Below w.heap.size w w'
set_option maxHeartbeats 1600000 in
theorem rs_all (v : Vs) (w : World) : Calls Try.prog 26 #[.agg v.cs] w (GivesAll v w) := by
  obtain ⟨a, b, c, d, e, f⟩ := v
  show Calls Try.prog 26 #[.agg #[.int .i64 a, .int .i64 b, .int .i64 c, .int .i64 d, .int .i64 e, .int .i64 f]] w (GivesAll _ w)
  go_enter Try.func26, Try.ntmps26
  go_wp2
  go_ret
  exact ⟨w.heap.size + 1, rfl, new2 w _ _ _, by omega, bel2 w _ _⟩

set_option maxHeartbeats 1600000 in
theorem rs_fault {p : Pr} (hp : p.ok) (w : World) : Calls Try.prog 24 #[.agg p.cs] w fun e w' => e = .returned (.int .i64 (fltC p)) ∧ Below w.heap.size w w' := by
  obtain ⟨i, x⟩ := p
  obtain ⟨i0, i1, x0, x1⟩ := hp
  simp only at i0 i1 x0 x1
  have HF := hide (show fltC ⟨i, x⟩ = if i = 2 ∧ 1 < x then 1 else if i = 4 ∧ 2147483647 < x then 3 else if i = 5 ∧ (x < 16384 ∨ 16777215 < x) then 1 else 0 from rfl)
  show Calls Try.prog 24 #[.agg #[.int .u16 i, .int .u32 x]] w _
  generalize fltC ⟨i, x⟩ = r at *
  by_cases h2 : i = 2
  · subst h2
    by_cases hx : 1 < x
    · have HC := hide (show r = 1 by rw [HF.out, if_pos ⟨rfl, hx⟩])
      clear HF
      go_enter Try.func24, Try.ntmps24
      go_wp2
      go_ret
      exact ⟨by rw [HC.out]; rfl, (Below.refl _ _).alloc (Nat.le_refl _) _⟩
    · have HC := hide (show r = 0 by rw [HF.out, if_neg (by omega), if_neg (by omega), if_neg (by omega)])
      clear HF
      go_enter Try.func24, Try.ntmps24
      go_wp2
      go_ret
      exact ⟨by rw [HC.out]; rfl, (Below.refl _ _).alloc (Nat.le_refl _) _⟩
  · by_cases h4 : i = 4
    · subst h4
      by_cases hx : 2147483647 < x
      · have HC := hide (show r = 3 by rw [HF.out, if_neg (by omega), if_pos ⟨rfl, hx⟩])
        clear HF
        go_enter Try.func24, Try.ntmps24
        go_wp2
        go_ret
        exact ⟨by rw [HC.out]; rfl, (Below.refl _ _).alloc (Nat.le_refl _) _⟩
      · have HC := hide (show r = 0 by rw [HF.out, if_neg (by omega), if_neg (by omega), if_neg (by omega)])
        clear HF
        go_enter Try.func24, Try.ntmps24
        go_wp2
        go_ret
        exact ⟨by rw [HC.out]; rfl, (Below.refl _ _).alloc (Nat.le_refl _) _⟩
    · by_cases h5 : i = 5
      · subst h5
        by_cases hx : x < 16384
        · have HC := hide (show r = 1 by rw [HF.out, if_neg (by omega), if_neg (by omega), if_pos ⟨rfl, .inl hx⟩])
          clear HF
          go_enter Try.func24, Try.ntmps24
          go_wp2
          go_ret
          exact ⟨by rw [HC.out]; rfl, (Below.refl _ _).alloc (Nat.le_refl _) _⟩
        · by_cases hy : 16777215 < x
          · have HC := hide (show r = 1 by rw [HF.out, if_neg (by omega), if_neg (by omega), if_pos ⟨rfl, .inr hy⟩])
            clear HF
            go_enter Try.func24, Try.ntmps24
            go_wp2
            go_ret
            exact ⟨by rw [HC.out]; rfl, (Below.refl _ _).alloc (Nat.le_refl _) _⟩
          · have HC := hide (show r = 0 by rw [HF.out, if_neg (by omega), if_neg (by omega), if_neg (by omega)])
            clear HF
            go_enter Try.func24, Try.ntmps24
            go_wp2
            go_ret
            exact ⟨by rw [HC.out]; rfl, (Below.refl _ _).alloc (Nat.le_refl _) _⟩
      · have HC := hide (show r = 0 by rw [HF.out, if_neg (by omega), if_neg (by omega), if_neg (by omega)])
        clear HF
        go_enter Try.func24, Try.ntmps24
        go_wp2
        go_ret
        exact ⟨by rw [HC.out]; rfl, (Below.refl _ _).alloc (Nat.le_refl _) _⟩

set_option maxHeartbeats 3200000 in
theorem rs_set (v : Vs) {p : Pr} (hp : p.ok) (w : World) : Calls Try.prog 25 #[.agg v.cs, .agg p.cs] w (GivesCs (v.set p).cs w) := by
  obtain ⟨i, x⟩ := p
  obtain ⟨i0, i1, x0, x1⟩ := hp
  simp only at i0 i1 x0 x1
  obtain ⟨a, b, c, d, e, f⟩ := v
  show Calls Try.prog 25 #[.agg #[.int .i64 a, .int .i64 b, .int .i64 c, .int .i64 d, .int .i64 e, .int .i64 f], .agg #[.int .u16 i, .int .u32 x]] w _
  by_cases h1 : i = 1
  · subst h1
    have HE := hide (show (Vs.mk a b c d e f).set ⟨1, x⟩ = ⟨x, b, c, d, e, f⟩ from rfl)
    generalize (Vs.mk a b c d e f).set ⟨1, x⟩ = r at *
    go_enter Try.func25, Try.ntmps25
    go_wp2
    exact bodyPost_ret (results_cell_blk rfl _ _ (w.heap.size + 1 + 1) 23 _ _ rfl (new3 w _ _ _ _) Try.underlying23 rfl rs_size) rfl ⟨by rw [HE.out]; rfl, bel3 w _ _ _⟩
  by_cases h2 : i = 2
  · subst h2
    have HE := hide (show (Vs.mk a b c d e f).set ⟨2, x⟩ = ⟨a, x, c, d, e, f⟩ from rfl)
    generalize (Vs.mk a b c d e f).set ⟨2, x⟩ = r at *
    go_enter Try.func25, Try.ntmps25
    go_wp2
    exact bodyPost_ret (results_cell_blk rfl _ _ (w.heap.size + 1 + 1) 23 _ _ rfl (new3 w _ _ _ _) Try.underlying23 rfl rs_size) rfl ⟨by rw [HE.out]; rfl, bel3 w _ _ _⟩
  by_cases h3 : i = 3
  · subst h3
    have HE := hide (show (Vs.mk a b c d e f).set ⟨3, x⟩ = ⟨a, b, x, d, e, f⟩ from rfl)
    generalize (Vs.mk a b c d e f).set ⟨3, x⟩ = r at *
    go_enter Try.func25, Try.ntmps25
    go_wp2
    exact bodyPost_ret (results_cell_blk rfl _ _ (w.heap.size + 1 + 1) 23 _ _ rfl (new3 w _ _ _ _) Try.underlying23 rfl rs_size) rfl ⟨by rw [HE.out]; rfl, bel3 w _ _ _⟩
  by_cases h4 : i = 4
  · subst h4
    have HE := hide (show (Vs.mk a b c d e f).set ⟨4, x⟩ = ⟨a, b, c, x, e, f⟩ from rfl)
    generalize (Vs.mk a b c d e f).set ⟨4, x⟩ = r at *
    go_enter Try.func25, Try.ntmps25
    go_wp2
    exact bodyPost_ret (results_cell_blk rfl _ _ (w.heap.size + 1 + 1) 23 _ _ rfl (new3 w _ _ _ _) Try.underlying23 rfl rs_size) rfl ⟨by rw [HE.out]; rfl, bel3 w _ _ _⟩
  by_cases h5 : i = 5
  · subst h5
    have HE := hide (show (Vs.mk a b c d e f).set ⟨5, x⟩ = ⟨a, b, c, d, x, f⟩ from rfl)
    generalize (Vs.mk a b c d e f).set ⟨5, x⟩ = r at *
    go_enter Try.func25, Try.ntmps25
    go_wp2
    exact bodyPost_ret (results_cell_blk rfl _ _ (w.heap.size + 1 + 1) 23 _ _ rfl (new3 w _ _ _ _) Try.underlying23 rfl rs_size) rfl ⟨by rw [HE.out]; rfl, bel3 w _ _ _⟩
  by_cases h6 : i = 6
  · subst h6
    have HE := hide (show (Vs.mk a b c d e f).set ⟨6, x⟩ = ⟨a, b, c, d, e, x⟩ from rfl)
    generalize (Vs.mk a b c d e f).set ⟨6, x⟩ = r at *
    go_enter Try.func25, Try.ntmps25
    go_wp2
    exact bodyPost_ret (results_cell_blk rfl _ _ (w.heap.size + 1 + 1) 23 _ _ rfl (new3 w _ _ _ _) Try.underlying23 rfl rs_size) rfl ⟨by rw [HE.out]; rfl, bel3 w _ _ _⟩
  have HE := hide (show (Vs.mk a b c d e f).set ⟨i, x⟩ = ⟨a, b, c, d, e, f⟩ from set_other (isN_no.2 (by simp only; omega)))
  generalize (Vs.mk a b c d e f).set ⟨i, x⟩ = r at *
  go_enter Try.func25, Try.ntmps25
  go_wp2
  exact bodyPost_ret (results_cell_blk rfl _ _ (w.heap.size + 1 + 1) 23 _ _ rfl (new3 w _ _ _ _) Try.underlying23 rfl rs_size) rfl ⟨by rw [HE.out]; rfl, bel3 w _ _ _⟩
end Go.Proofs.Ytlcnenkfineddaa
