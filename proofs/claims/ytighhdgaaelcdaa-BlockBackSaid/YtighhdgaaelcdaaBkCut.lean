/-
  Layer 11: cut (bytes in pieces).
-/
import Derived.Test.YtighhdgaaelcdaaBkMem
import Derived.Test.YtighhdgaaelcdaaRegs
namespace Go.Proofs.Ytighhdgaaelcdaa
set_option linter.unusedSimpArgs false
set_option linter.unusedVariables false
open Go.RowKit

/-- b[:k:k] of bytes that read as a list. -/
theorem u8_three {w : World} {A : Option Addr} {n cap : Nat} {xs : List Int} (h : RB w A n xs) (hc : n ≤ cap) (hnil : A = none → cap = 0) (k : Nat) (hk : k ≤ n) :
    ∃ Q, (∀ w', (Instr.slice 44 (.slice A n cap) none (some (.int .i64 (k : Int))) (some (.int .i64 (k : Int)))).run Try.prog w' = .ok (.slice Q k k) w') ∧ RB w Q k (xs.take k) := by
  have hr : ∀ w', (Instr.slice 44 (.slice A n cap) none (some (.int .i64 (k : Int))) (some (.int .i64 (k : Int)))).run Try.prog w' = .ok (sliced A 0 k k 1) w' := by
    intro w'
    rw [run_slice_hm w' 44 A n cap u8_under .i64 .i64 (k : Int) (k : Int) (by omega) (by omega) (by omega), run_size_is u8_size1]
    rfl
  by_cases hk0 : k = 0
  · subst hk0
    exact ⟨A, fun w' => by rw [hr w']; simp [sliced], by rw [List.take_zero]; exact RB.nothing _ _⟩
  · cases A with
    | none => have := hnil rfl; omega
    | some a =>
      refine ⟨some (a.add 0), fun w' => by rw [hr w']; simp [sliced, hk0], ?_⟩
      obtain ⟨b, off, e, _, _⟩ := h.2.1 (by omega)
      injection e with e
      subst e
      have := h.short hk
      simpa [Addr.add] using this

/-- The values vs are slices that read as the pieces ps. -/
def Pcs (w : World) (vs : List Value) (ps : List (List Int)) : Prop := vs.length = ps.length ∧ ∀ (k : Nat) (p : List Int), ps[k]? = some p → ∃ (A : Option Addr) (c : Nat), vs[k]? = some (Value.slice A p.length c) ∧ RB w A p.length p
theorem Pcs.nil (w : World) : Pcs w [] [] := ⟨rfl, fun k p h => by simp at h⟩
theorem Pcs.snoc {w : World} {vs : List Value} {ps : List (List Int)} (h : Pcs w vs ps) {A : Option Addr} {k c : Nat} {p : List Int} (hr : RB w A k p) : Pcs w (vs ++ [Value.slice A k c]) (ps ++ [p]) := by
  have hl := hr.1
  refine ⟨by simp [h.1], fun i q hq => ?_⟩
  by_cases hi : i < ps.length
  · rw [List.getElem?_append_left hi] at hq
    obtain ⟨B, d, h1, h2⟩ := h.2 i q hq
    exact ⟨B, d, by rw [List.getElem?_append_left (by rw [h.1]; exact hi)]; exact h1, h2⟩
  · have hi' : i = ps.length := by
      have := (List.getElem?_eq_some_iff.1 hq).1
      rw [List.length_append, List.length_singleton] at this
      omega
    subst hi'
    rw [List.getElem?_append_right (Nat.le_refl _)] at hq
    simp at hq
    subst hq
    refine ⟨A, c, ?_, by rw [hl]; exact hr⟩
    rw [List.getElem?_append_right (by rw [h.1]; exact Nat.le_refl _), h.1, hl]
    simp
theorem Pcs.keep {w w' : World} {vs : List Value} {ps : List (List Int)} (h : Pcs w vs ps) (hb : Below w.heap.size w w') : Pcs w' vs ps :=
  ⟨h.1, fun k p hp => by obtain ⟨A, c, h1, h2⟩ := h.2 k p hp; exact ⟨A, c, h1, h2.below hb⟩⟩
theorem slice_one (A : Option Addr) (n c : Nat) : ∀ u ∈ [Value.slice A n c], u.oneCell' = true := by
  intro u h; simp at h; subst h; rfl
theorem bs_info : (Try.prog.info? 44).map (fun i => (i.zero, i.size, i.bytes)) = some (some (.slice none 0 0), 1, 24) := by kernel_rfl

/-- What cut leaves. -/
def GivesPcs (ps : List (List Int)) (w : World) (e : Ending) (w' : World) : Prop :=
  ∃ v vs, e = .returned v ∧ w'.ownsRow w.heap.size 44 1 v ps.length vs ∧ Pcs w vs ps ∧ Below w.heap.size w w'

set_option maxRecDepth 100000 in
set_option maxHeartbeats 1600000 in
theorem bk_cut (A : Option Addr) (n cap m : Nat) (xs : List Int) (hnc : n ≤ cap) (hnil : A = none → cap = 0) (hn : (n : Int) ≤ 5000) (hm : 1 ≤ m) (hm2 : (m : Int) ≤ 100000) (w : World) (hr : RB w A n xs) :
    Calls Try.prog 23 #[.slice A n cap, .int .i64 (m : Int)] w (GivesPcs (chunks m n xs) w) := by
  obtain ⟨i0, hi0, hz0, hz1, hz2⟩ := info_parts bs_info
  obtain ⟨R, hR⟩ : ∃ R, R = chunks m n xs := ⟨_, rfl⟩
  rw [← hR]
  have HR := hide hR
  have HX := hide hr
  have HNN := hide (And.intro hnc hnil)
  clear hR hr hnc hnil
  go_enter Try.func23, Try.ntmps23
  go_wp2_with fail
  go_loopw [0, 5] (fun s l wr => ∃ (Y : Option Addr) (k c f : Nat) (ys : List Int) (pre : List (List Int)) (vs : List Value), s = .slice Y k c ∧ RB w Y k ys ∧ k ≤ c ∧ (Y = none → c = 0) ∧ pre.length + k ≤ n ∧ k ≤ f ∧ pre ++ chunks m f ys = R ∧ wr.ownsRow w.heap.size 44 1 l pre.length vs ∧ Pcs w vs pre ∧ Below w.heap.size w wr) (fun s _ _ => (match s with | .slice _ k _ => k | _ => 0))
  case atStart => exact ⟨A, n, cap, n, xs, [], [], rfl, HX.out, HNN.out.1, HNN.out.2, by simp, Nat.le_refl _, by rw [HR.out]; rfl, World.ownsRow_nil _ _ _ _, Pcs.nil _, Below.refl _ _⟩
  case round =>
    obtain ⟨Y, k, c, f, ys, pre, vs, rfl, hy, hkc, hynil, hlen, hkf, hch, hown, hp, hb⟩ := hrel
    have hyl := hy.1
    have hk5 : (k : Int) ≤ 5000 := by omega
    by_cases hgo : m < k
    · obtain ⟨Q, hQ, hQr⟩ := u8_three hy hkc hynil m (by omega)
      obtain ⟨Z, hZ, hZr, hZnil⟩ := slice_low hy hkc hynil m (by omega)
      obtain ⟨f', hf', hch'⟩ := chunks_more (m := m) (k := f) (xs := ys) (by omega) (by omega)
      rw [hch'] at hch
      have hgo' : (m : Int) < (k : Int) := by omega
      have HOWN := hide hown
      have HB := hide hb
      have HP := hide (hp.snoc (c := m) hQr)
      have HLEN := hide hlen
      have HF := hide (show pre.length + 1 + (k - m) ≤ n ∧ k - m ≤ f' ∧ (pre ++ [ys.take m]) ++ chunks m f' (ys.drop m) = R from ⟨by omega, by omega, by rw [← hch]; simp⟩)
      have HZ := hide (And.intro hZr hZnil)
      have HKC := hide hkc
      have HM := hide hm
      clear hown hb hp hlen hch hch' hy hQr hZr hZnil hkc hynil hyl hkf hm
      go_wp2_with (at_builtin; refine wpList_append_own _ rfl (.tmp 10) (.tmp 15) 61 rfl w.heap.size 44 i0 (.slice none 0 0) 1 24 Try.underlying61 hi0 hz0 hz1 hz2 rfl (by decide) u5 pre.length vs rfl (HOWN.out.alloc _) ⟨wr.heap.size, 0, none⟩ 1 1 [.slice Q m m] rfl rfl (one_new _ _ _) (slice_one _ _ _) (by have := HLEN.out; unfold maxLen; omega) (by have := HLEN.out; omega) (by rw [World.size_alloc]; have := HB.out.size; omega) ?_; intro v3 w3 hown3 hg3 _; have HO3 := hide hown3; have HB3 := hide (own_below (HOWN.out.alloc _) (HB.out.alloc HB.out.size _) (Nat.le_refl _) hg3); clear hown3 hg3)
      go_roundw
      case rel => exact ⟨Z, k - m, c - m, f', ys.drop m, pre ++ [ys.take m], vs ++ [.slice Q m m], rfl, HZ.out.1, by have := HKC.out; omega, HZ.out.2, by simp; have := HF.out.1; omega, HF.out.2.1, HF.out.2.2, by simpa using HO3.out, HP.out, HB3.out⟩
      case measure => have := HM.out; simp only; omega
    · obtain ⟨Q, hQ, hQr⟩ := u8_three hy hkc hynil k (Nat.le_refl _)
      have hch' := chunks_last (m := m) (k := f) (xs := ys) (by omega)
      rw [hch'] at hch
      rw [List.take_of_length_le (by omega)] at hQr
      have hgo' : ¬ (m : Int) < (k : Int) := by omega
      have HOWN := hide hown
      have HB := hide hb
      have HP := hide (hp.snoc (c := k) hQr)
      have HLEN := hide hlen
      have HCH := hide hch
      clear hown hb hp hlen hch hch' hy hQr hkc hynil hyl hkf hm
      go_wp2_with (at_builtin; refine wpList_append_own _ rfl (.tmp 20) (.tmp 27) 61 rfl w.heap.size 44 i0 (.slice none 0 0) 1 24 Try.underlying61 hi0 hz0 hz1 hz2 rfl (by decide) u5 pre.length vs rfl (HOWN.out.alloc _) ⟨wr.heap.size, 0, none⟩ 1 1 [.slice Q k k] rfl rfl (one_new _ _ _) (slice_one _ _ _) (by have := HLEN.out; unfold maxLen; omega) (by have := HLEN.out; omega) (by rw [World.size_alloc]; have := HB.out.size; omega) ?_; intro v3 w3 hown3 hg3 _; have HO3 := hide hown3; have HB3 := hide (own_below (HOWN.out.alloc _) (HB.out.alloc HB.out.size _) (Nat.le_refl _) hg3); clear hown3 hg3)
      go_ret
      refine ⟨v3, vs ++ [.slice Q k k], rfl, ?_, ?_, HB3.out⟩
      · rw [← HCH.out]; simpa using HO3.out
      · rw [← HCH.out]; exact HP.out
end Go.Proofs.Ytighhdgaaelcdaa
