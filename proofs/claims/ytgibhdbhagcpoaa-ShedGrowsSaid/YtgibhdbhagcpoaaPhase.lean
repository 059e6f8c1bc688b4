/-
  A drawn region in two parts: ahead of its first store (operation k) T stands, from it on U (as in a held region). A load that the store waits for may be taken first if it yields by T alone, though a later store writes the very cell; any other operation if it yields by U.
-/
import Derived.Test.YtgibhdbhagcpoaaMem
import Derived.Deep.RegionHeld
import Derived.Deep.RegionHeld3
namespace Go.Proofs.Ytgibhdbhagcpoaa
set_option linter.unusedSimpArgs false
set_option linter.unusedVariables false
open Go.RowKit

section
variable {P : Program} {md : Region.Mode} {ops : Array Oper} {Q : Exit → Act → World → Prop} {k : Nat} {T U : World → Prop}

/-- What stands where these operations have come. -/
def Stands (k : Nat) (T U : World → Prop) (l : Array Bool) (w : World) : Prop := (l.getD k true = false → T w) ∧ (l.getD k true = true → U w)
theorem Stands.of_ahead {l : Array Bool} {w : World} (hk : l.getD k true = false) (h : T w) : Stands k T U l w := ⟨fun _ => h, fun h' => (by rw [hk] at h'; cases h')⟩
theorem Stands.other {l : Array Bool} {w : World} {i : Nat} (hik : i ≠ k) : Stands k T U (l.setIfInBounds i true) w ↔ Stands k T U l w := by
  unfold Stands
  rw [getD_set_ne true hik]
/-- Whatever order is picked, T holds behind each operation as long as number k has not come, U from it on. -/
def Ahead (P : Program) (md : Region.Mode) (ops : Array Oper) (Q : Exit → Act → World → Prop) (k : Nat) (T U : World → Prop) : Nat → Array Bool → Act → World → Prop
  | 0 => fun l a w => Region.ready md ops l = [] ∧ Q .normal a w
  | n + 1 => fun l a w => (Region.ready md ops l = [] → Q .normal a w) ∧
      ∀ i, i ∈ Region.ready md ops l → wpOp P ops Q i (fun a' w' => Stands k T U (l.setIfInBounds i true) w' ∧ Ahead P md ops Q k T U n (l.setIfInBounds i true) a' w') a w
theorem Ahead.any : ∀ {n : Nat} {l : Array Bool} {a : Act} {w : World}, Ahead P md ops Q k T U n l a w → wpAny P md ops Q n l a w
  | 0, _, _, _, h => h
  | n + 1, l, a, w, h => ⟨h.1, fun i hi => wpOp_mono (fun a' w' hh => Ahead.any (n := n) hh.2) (h.2 i hi)⟩
theorem came {l : Array Bool} (h : l.getD k true = true) (i : Nat) : (l.setIfInBounds i true).getD k true = true := by
  by_cases e : i = k
  · subst e
    by_cases hs : i < l.size
    · simp [hs]
    · simp [hs]
  · rw [getD_set_ne true e]; exact h
/-- Once number k has come, a held walk does. -/
theorem Ahead.of_held : ∀ {n : Nat} {l : Array Bool} {a : Act} {w : World}, l.getD k true = true → wpAnyH P md ops Q U n l a w → Ahead P md ops Q k T U n l a w
  | 0, _, _, _, _, h => h
  | n + 1, l, a, w, hk, h =>
    ⟨h.1, fun i hi => wpOp_mono (fun a' w' hh => ⟨⟨fun hf => (by rw [came hk i] at hf; cases hf), fun _ => hh.1⟩, Ahead.of_held (n := n) (came hk i) hh.2⟩) (h.2 i hi)⟩
/-- Number k waits for number i. -/
def waits (md : Region.Mode) (ops : Array Oper) (k i : Nat) : Bool := match ops[k]? with
  | some o => o.after.any fun e => Region.binds md e && e.on == i
  | none => false
theorem waits_edge {i : Nat} (h : waits md ops k i = true) : ∃ o, ops[k]? = some o ∧ ∃ e, e ∈ o.after ∧ Region.binds md e = true ∧ e.on = i := by
  unfold waits at h
  cases ho : ops[k]? with
  | none => rw [ho] at h; cases h
  | some o =>
    rw [ho] at h
    obtain ⟨e, he, hb⟩ := Array.any_eq_true'.1 h
    simp only [Bool.and_eq_true, beq_iff_eq] at hb
    exact ⟨o, rfl, e, he, hb.1, hb.2⟩
theorem not_came {i : Nat} {l : Array Bool} (h : l.getD i true = false) : l.getD i false = false := by
  by_cases hs : i < l.size
  · simp [hs] at h ⊢; exact h
  · simp [hs] at h
/-- Number i comes ahead of number k; who is ready while i has not come is not k. -/
theorem waits_ne {i j : Nat} {l : Array Bool} (hw : waits md ops k i = true) (hi : l.getD i true = false) (hj : j ∈ Region.ready md ops l) : j ≠ k := by
  rintro rfl
  obtain ⟨o, ho, e, he, hb, rfl⟩ := waits_edge hw
  obtain ⟨_, o', ho', hall⟩ := mem_ready.1 hj
  rw [ho] at ho'
  injection ho' with ho'
  subst ho'
  have := hall e he hb
  rw [not_came hi] at this
  cases this
theorem Ahead.first {V : World → Prop} {i : Nat} {oi : Oper} {v : Value} (hi : ops[i]? = some oi) (hsel : ∀ (j : Nat) (o : Oper) cs b, ops[j]? = some o → o.op ≠ .select cs b)
    (hQ : ∀ c a w, Q (.panic c) (a.put oi.dst v) w → Q (.panic c) a w) (hik : i ≠ k) (hTV : ∀ w, T w → V w) (hUV : waits md ops k i = true ∨ ∀ w, U w → V w) :
    ∀ (n : Nat) (l : Array Bool) (a : Act) (w : World),
      (∀ j oj, ops[j]? = some oj → j ≠ i → l.getD j true = false → (∀ e ∈ oj.after, Region.binds md e = true → e.on ≠ i) → oi.apart ops oj = true) →
      i ∈ Region.ready md ops l → (waits md ops k i = true → l.getD k true = false) → YieldsIf P ops V oi v a → Stands k T U l w →
      Ahead P md ops Q k T U n (l.setIfInBounds i true) (a.put oi.dst v) w → Ahead P md ops Q k T U (n + 1) l a w
  | n, l, a, w, hap, hr, hk, hy, hS, H => by
    have hne : Region.ready md ops l ≠ [] := fun h0 => by rw [h0] at hr; cases hr
    have hV : V w := by
      cases hl : l.getD k true with
      | false => exact hTV w (hS.1 hl)
      | true =>
        rcases hUV with hw | hu
        · rw [hk hw] at hl; cases hl
        · exact hu w (hS.2 hl)
    refine ⟨fun h0 => absurd h0 hne, fun j hj => ?_⟩
    by_cases hji : j = i
    · subst hji
      exact hy.wpOp hi hV ⟨(Stands.other hik).2 hS, H⟩
    · have hj' := ready_mono hj hji
      match n, H with
      | 0, H => exact absurd hj' (by rw [H.1]; intro h0; cases h0)
      | m + 1, H =>
        obtain ⟨hjl, oj, hoj, hall⟩ := mem_ready.1 hj
        have hfar : ∀ e ∈ oj.after, Region.binds md e = true → e.on ≠ i := by
          rintro e he hb rfl
          have := hall e he hb
          rw [not_came (mem_ready.1 hr).1] at this
          cases this
        refine wpOp_mono (fun a' w' hh => ?_) (wpOp_putIf hoj (hap j oj hoj hji hjl hfar) (fun cs b => hsel i oi cs b hi) (fun cs b => hsel j oj cs b hoj) hQ hy (H.2 j hj'))
        obtain ⟨hy', hS', H'⟩ := hh
        have hS2 : Stands k T U (l.setIfInBounds j true) w' := by
          rw [Array.setIfInBounds_comm _ _ (Ne.symm hji)] at hS'
          exact (Stands.other hik).1 hS'
        refine ⟨hS2, Ahead.first hi hsel hQ hik hTV hUV m _ a' w' (fun q oq hq hqi hql hqe => hap q oq hq hqi ?_ hqe) (ready_mono hr (Ne.symm hji)) ?_ hy' hS2 ?_⟩
        · by_cases hjq : j = q
          · subst hjq; exact hjl
          · rwa [getD_set_ne true hjq] at hql
        · intro hw
          rw [getD_set_ne true (waits_ne hw (mem_ready.1 hr).1 hj)]
          exact hk hw
        · rw [Array.setIfInBounds_comm _ _ hji]
          exact H'
/-- A load, or any other operation, that k waits for: taken first, by T. -/
theorem ahead_take {i : Nat} {oi : Oper} {v : Value} {n : Nat} {l : Array Bool} {a : Act} {w : World} (hi : ops[i]? = some oi)
    (hs : Region.noSelect ops = true) (hf : Region.free md ops l i = true) (hr : (Region.ready md ops l).contains i = true) (hw : waits md ops k i = true) (hik : i ≠ k) (hk : l.getD k true = false)
    (hQ : ∀ c a w, Q (.panic c) (a.put oi.dst v) w → Q (.panic c) a w) (hy : YieldsIf P ops T oi v a) (hT : T w)
    (h : Ahead P md ops Q k T U n (l.setIfInBounds i true) (a.put oi.dst v) w) : Ahead P md ops Q k T U (n + 1) l a w :=
  Ahead.first hi (Region.noSelect_spec hs) hQ hik (fun _ h => h) (.inl hw) n l a w (Region.free_spec hi hf) (by simpa using hr) (fun _ => hk) hy (.of_ahead hk hT) h
/-- Any operation: taken first, by U. -/
theorem ahead_any {i : Nat} {oi : Oper} {v : Value} {n : Nat} {l : Array Bool} {a : Act} {w : World} (hTU : ∀ w, T w → U w) (hi : ops[i]? = some oi)
    (hs : Region.noSelect ops = true) (hf : Region.free md ops l i = true) (hr : (Region.ready md ops l).contains i = true) (hik : i ≠ k) (hk : l.getD k true = false)
    (hQ : ∀ c a w, Q (.panic c) (a.put oi.dst v) w → Q (.panic c) a w) (hy : YieldsIf P ops U oi v a) (hT : T w)
    (h : Ahead P md ops Q k T U n (l.setIfInBounds i true) (a.put oi.dst v) w) : Ahead P md ops Q k T U (n + 1) l a w :=
  Ahead.first hi (Region.noSelect_spec hs) hQ hik hTU (.inr fun _ h => h) n l a w (Region.free_spec hi hf) (by simpa using hr) (fun _ => hk) hy (.of_ahead hk hT) h
/-- Number k alone is left to come up: from here on a held walk. -/
theorem ahead_last {n : Nat} {l : Array Bool} {a : Act} {w : World} (hr : Region.ready md ops l = [k]) (h : AllReadyH P md ops Q U n l a w [k]) : Ahead P md ops Q k T U (n + 1) l a w := by
  have hc : (l.setIfInBounds k true).getD k true = true := by
    by_cases hs : k < l.size
    · simp [hs]
    · simp [hs]
  refine ⟨fun h0 => (by rw [hr] at h0; cases h0), fun i hi => ?_⟩
  rw [hr] at hi
  have hik : i = k := by simpa using hi
  subst hik
  exact wpOp_mono (fun a' w' hh => ⟨⟨fun hf => (by rw [hc] at hf; cases hf), fun _ => hh.1⟩, Ahead.of_held hc hh.2⟩) (h i (by simp))
/-- The beginning. -/
theorem wp_region_ahead (k : Nat) (T U : World → Prop) {id : Nat} {a : Act} {w : World} (hm : P.follows .mixedOrders = true) (hT : T w.drew)
    (h : T w.drew → Ahead P .any ops Q k T U ops.size (Array.replicate ops.size false) a w.drew) : (Code.region id ops true).wp P Q a w :=
  wp_region_any hm (h hT).any
end
end Go.Proofs.Ytgibhdbhagcpoaa
