/-
  BucketBound: its mathematics.
-/
import Derived.Test.YtpebbeghjealiaaBuTake
import Derived.Test.YtpebbeghjealiaaBuLater
namespace Go.Proofs.Ytpebbeghjealiaa.bucketBound
set_option linter.unusedSimpArgs false
set_option linter.unusedVariables false
open Go.RowKit

/-- What stands all along: T: the ticks at which a token was taken; now, L: the bucket's tick and level. -/
structure Inv (u r p : Int) (T : List Int) (now L : Int) : Prop where
  pair : ∀ (i k : Nat) (a b : Int), i ≤ k → T[i]? = some a → T[k]? = some b → ((k : Int) - i + 1) * p ≤ u * p + r * (b - a)
  run : ∀ (i : Nat) (a : Int), T[i]? = some a → ((T.length : Int) - i) * p + L ≤ u * p + r * (now - a)
  low : ∀ (i : Nat) (a : Int), T[i]? = some a → 0 ≤ a ∧ a ≤ now
theorem inv_nil (u r p now L : Int) : Inv u r p [] now L := ⟨fun i k a b _ h => by simp at h, fun i a h => by simp at h, fun i a h => by simp at h⟩
theorem inv_time {u r p : Int} {T : List Int} {now L d L' : Int} (h : Inv u r p T now L) (hd : 0 ≤ d) (hl : L' ≤ L + r * d) : Inv u r p T (now + d) L' := by
  refine ⟨h.pair, fun i a ha => ?_, fun i a ha => by have := h.low i a ha; omega⟩
  have h1 := h.run i a ha
  have e : r * (now + d - a) = r * (now - a) + r * d := by rw [← Int.mul_add]; congr 1; omega
  rw [e]
  omega
theorem snoc_get {T : List Int} {x : Int} {i : Nat} {a : Int} (h : (T ++ [x])[i]? = some a) : T[i]? = some a ∨ i = T.length ∧ a = x := by
  by_cases hi : i < T.length
  · rw [List.getElem?_append_left hi] at h; exact .inl h
  · rw [List.getElem?_append_right (by omega)] at h
    cases hj : i - T.length with
    | zero => rw [hj] at h; simp at h; exact .inr ⟨by omega, h.symm⟩
    | succ j => rw [hj] at h; simp at h
theorem inv_take {u r p : Int} {T : List Int} {now L : Int} (h : Inv u r p T now L) (hn : 0 ≤ now) (h0 : p ≤ L) (h1 : L ≤ u * p) : Inv u r p (T ++ [now]) now (L - p) := by
  refine ⟨fun i k a b hik ha hb => ?_, fun i a ha => ?_, fun i a ha => ?_⟩
  · rcases snoc_get hb with hb | ⟨rfl, rfl⟩
    · have hk : k < T.length := (List.getElem?_eq_some_iff.1 hb).1
      rcases snoc_get ha with ha | ⟨rfl, _⟩
      · exact h.pair i k a b hik ha hb
      · omega
    · rcases snoc_get ha with ha | ⟨rfl, rfl⟩
      · have := h.run i a ha
        rw [Int.add_mul, Int.one_mul]
        omega
      · rw [Int.sub_self, Int.sub_self, Int.mul_zero, Int.zero_add, Int.one_mul]
        omega
  · rw [List.length_append, List.length_singleton]
    rcases snoc_get ha with ha | ⟨rfl, rfl⟩
    · have := h.run i a ha
      rw [show ((T.length + 1 : Nat) : Int) - i = ((T.length : Int) - i) + 1 by omega, Int.add_mul, Int.one_mul]
      omega
    · rw [show ((T.length + 1 : Nat) : Int) - (T.length : Nat) = 1 by omega, Int.sub_self, Int.mul_zero, Int.one_mul]
      omega
  · rcases snoc_get ha with ha | ⟨rfl, rfl⟩
    · exact h.low i a ha
    · omega

/-- One try. -/
theorem try_ {u r p L now d : Int} {T : List Int} (h : (Bu.mk u r p L now).Ok) (hi : Inv u r p T now L) (h0 : 0 ≤ d) (h1 : now + d ≤ 1099511627776) :
    ∃ L' is, takB ⟨u, r, p, L, now⟩ (now + d) = (⟨u, r, p, L', now + d⟩, is) ∧ (Bu.mk u r p L' (now + d)).Ok ∧ Inv u r p (if is then T ++ [now + d] else T) (now + d) L' := by
  have hl := at_later h h0 h1
  have hk := ok_later h d
  simp only at hl hk
  rw [hl] at hk
  have hk' := hk
  obtain ⟨a1, a2, a3, a4, a5, a6, a7, a8, a9, a10⟩ := hk
  simp only at a1 a2 a3 a4 a5 a6 a7 a8 a9 a10
  have hv := inv_time (L' := min (L + r * d) (u * p)) hi h0 (by omega)
  by_cases hh : hasB (atB ⟨u, r, p, L, now⟩ (now + d)) < 1
  · refine ⟨_, false, by rw [takB_no hh, hl], hk', ?_⟩
    simpa using hv
  · have hp := (has_pos (b := ⟨u, r, p, min (L + r * d) (u * p), now + d⟩) hk').1 (by rw [hl] at hh; omega)
    simp only at hp
    refine ⟨min (L + r * d) (u * p) - p, true, by rw [takB_yes hh, hl], ⟨a1, a2, a3, a4, a5, a6, a7, a8, by simp only; omega, by simp only; omega⟩, ?_⟩
    simpa using inv_take hv a7 hp a10
/-- What is asked of two of the ticks, in words of the machine. -/
structure Fits (u r p i k a b : Int) : Prop where
  w1 : IntKind.i64.wrap (k - i) = k - i
  w2 : IntKind.i64.wrap (k - i + 1) = k - i + 1
  w3 : IntKind.i64.wrap ((k - i + 1) * p) = (k - i + 1) * p
  w4 : IntKind.i64.wrap (u * p) = u * p
  w5 : IntKind.i64.wrap (b - a) = b - a
  w6 : IntKind.i64.wrap (r * (b - a)) = r * (b - a)
  w7 : IntKind.i64.wrap (u * p + r * (b - a)) = u * p + r * (b - a)
  le : (k - i + 1) * p ≤ u * p + r * (b - a)
theorem fits {u r p now L l n : Int} {T : List Int} (h : (Bu.mk u r p l n).Ok) (hi : Inv u r p T now L) (hn : now ≤ 2000000000) {i k : Nat} {a b : Int} (hik : i ≤ k) (hk : k ≤ 60) (ha : T[i]? = some a) (hb : T[k]? = some b) : Fits u r p i k a b := by
  obtain ⟨a1, a2, a3, a4, a5, a6, a7, a8, a9, a10⟩ := h
  simp only at a1 a2 a3 a4 a5 a6
  obtain ⟨m0, m1⟩ := mul_in a1 a2 a5 a6
  have la := hi.low i a ha
  have lb := hi.low k b hb
  have p0 : 0 ≤ ((k : Int) - i + 1) * p := Int.mul_nonneg (by omega) (by omega)
  have p1 : ((k : Int) - i + 1) * p ≤ 61 * 1000 := Int.mul_le_mul (by omega) a6 (by omega) (by omega)
  have d1 : r * (b - a) ≤ 1000 * 2000000000 := by
    rcases Int.le_total 0 (b - a) with hd | hd
    · exact Int.mul_le_mul a4 (by omega) hd (by omega)
    · have := Int.mul_nonneg a3 (show 0 ≤ -(b - a) by omega)
      rw [Int.mul_neg] at this
      omega
  have d0 : -(1000 * 2000000000) ≤ r * (b - a) := by
    rcases Int.le_total 0 (b - a) with hd | hd
    · have := Int.mul_nonneg a3 hd
      omega
    · have : r * -(b - a) ≤ 1000 * 2000000000 := Int.mul_le_mul a4 (by omega) (by omega) (by omega)
      rw [Int.mul_neg] at this
      omega
  exact ⟨IntWalk.i64_in _ (by omega), IntWalk.i64_in _ (by omega), IntWalk.i64_in _ (by omega), IntWalk.i64_in _ (by omega), IntWalk.i64_in _ (by omega), IntWalk.i64_in _ (by omega), IntWalk.i64_in _ (by omega), hi.pair i k a b hik ha hb⟩
end Go.Proofs.Ytpebbeghjealiaa.bucketBound
