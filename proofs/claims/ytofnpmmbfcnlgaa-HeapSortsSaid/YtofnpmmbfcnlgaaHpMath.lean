/-
  Layer 24 as plain functions: heaps, and items in order.
-/
import Derived.Test.YtofnpmmbfcnlgaaKit
namespace Go.Proofs.Ytofnpmmbfcnlgaa
set_option linter.unusedSimpArgs false
set_option linter.unusedVariables false

/-- An item: its key, and its number. -/
structure It where
  k : Int
  d : Int
deriving DecidableEq, Inhabited

def ltB (a b : It) : Bool := decide (a.k < b.k) || (decide (a.k = b.k) && decide (a.d < b.d))
/-- An item is not less than another one. -/
def Le (a b : It) : Prop := ltB b a = false
theorem ltB_yes {a b : It} : ltB a b = true ↔ a.k < b.k ∨ a.k = b.k ∧ a.d < b.d := by simp [ltB]
theorem ltB_no {a b : It} : ltB a b = false ↔ b.k < a.k ∨ b.k = a.k ∧ b.d ≤ a.d := by
  rw [Bool.eq_false_iff, Ne, ltB_yes]; omega
theorem le_iff {a b : It} : Le a b ↔ a.k < b.k ∨ a.k = b.k ∧ a.d ≤ b.d := ltB_no
theorem Le.refl (a : It) : Le a a := by rw [le_iff]; omega
theorem Le.trans {a b c : It} (h : Le a b) (k : Le b c) : Le a c := by rw [le_iff] at *; omega
theorem Le.total (a b : It) : Le a b ∨ Le b a := by rw [le_iff, le_iff]; omega
theorem Le.anti {a b : It} (h : Le a b) (k : Le b a) : a = b := by
  rw [le_iff] at h k
  obtain ⟨x, y⟩ := a
  obtain ⟨x', y'⟩ := b
  simp only at h k
  have h1 : x = x' := by omega
  have h2 : y = y' := by omega
  rw [h1, h2]
theorem Le.of_lt {a b : It} (h : ltB a b = true) : Le a b := by rw [le_iff]; rw [ltB_yes] at h; omega
theorem ltB_self (a : It) : ltB a a = false := Le.refl a

/-- What stands at a place. -/
def gt (l : List It) (i : Nat) : It := l[i]?.getD ⟨0, 0⟩
theorem gt_some {l : List It} {i : Nat} {x : It} (h : l[i]? = some x) : gt l i = x := by rw [gt, h]; rfl
theorem gt_get {l : List It} {i : Nat} (h : i < l.length) : l[i]? = some (gt l i) := by rw [gt, List.getElem?_eq_getElem h]; rfl
theorem gt_lt {l : List It} {i : Nat} (h : i < l.length) : l[i] = gt l i := by rw [gt, List.getElem?_eq_getElem h]; rfl
theorem gt_mem {l : List It} {i : Nat} (h : i < l.length) : gt l i ∈ l := by rw [← gt_lt h]; exact List.getElem_mem h
theorem gt_set (l : List It) (i j : Nat) (x : It) (h : i < l.length) : gt (l.set i x) j = if j = i then x else gt l j := by
  unfold gt
  rw [List.getElem?_set]
  split
  · next e => subst e; simp [h]
  · next e => rw [if_neg (fun q => e q.symm)]
theorem gt_take (l : List It) (n j : Nat) (h : j < n) : gt (l.take n) j = gt l j := by unfold gt; rw [List.getElem?_take_of_lt h]
theorem gt_app (l m : List It) (j : Nat) (h : j < l.length) : gt (l ++ m) j = gt l j := by unfold gt; rw [List.getElem?_append_left h]
theorem gt_snoc (l : List It) (x : It) : gt (l ++ [x]) l.length = x := by unfold gt; simp

/-- Two places change what they hold. -/
def swp (l : List It) (i j : Nat) : List It := (l.set i (gt l j)).set j (gt l i)
theorem swp_len (l : List It) (i j : Nat) : (swp l i j).length = l.length := by simp [swp]
theorem gt_swp {l : List It} {i j : Nat} (hi : i < l.length) (hj : j < l.length) (k : Nat) : gt (swp l i j) k = if k = j then gt l i else if k = i then gt l j else gt l k := by
  unfold swp
  rw [gt_set _ _ _ _ (by simpa using hj), gt_set _ _ _ _ hi]
theorem swp_perm {l : List It} {i j : Nat} (hi : i < l.length) (hj : j < l.length) : (swp l i j).Perm l := by
  have := List.set_set_perm hi hj
  unfold swp
  rw [← gt_lt hi, ← gt_lt hj]
  exact this

/-- The place above another one. -/
def up (i : Nat) : Nat := (i - 1) / 2
theorem up_lt {i : Nat} (h : 0 < i) : up i < i := by unfold up; omega
theorem up_le (i : Nat) : up i ≤ i := by unfold up; omega

/-! ## What the program's calls answer -/
def riseF : Nat → List It → Nat → List It
  | 0, l, _ => l
  | n + 1, l, i => if ltB (gt l i) (gt l (up i)) = true then riseF n (swp l i (up i)) (up i) else l
def riseL (l : List It) (i : Nat) : List It := riseF i l i
theorem riseF_more : ∀ (n m : Nat) (l : List It) (i : Nat), i ≤ n → i ≤ m → riseF n l i = riseF m l i
  | 0, 0, _, _, _, _ => rfl
  | 0, m + 1, l, i, hn, _ => by
    obtain rfl : i = 0 := by omega
    rw [riseF, riseF, if_neg (by rw [show up 0 = 0 from rfl, ltB_self]; simp)]
  | n + 1, 0, l, i, _, hm => by
    obtain rfl : i = 0 := by omega
    rw [riseF, riseF, if_neg (by rw [show up 0 = 0 from rfl, ltB_self]; simp)]
  | n + 1, m + 1, l, i, hn, hm => by
    rw [riseF, riseF]
    split
    · have := up_lt (i := i)
      by_cases h : 0 < i
      · exact riseF_more n m _ _ (by have := this h; omega) (by have := this h; omega)
      · next q => obtain rfl : i = 0 := by omega
                  rw [show up 0 = 0 from rfl, ltB_self] at q; cases q
    · rfl
theorem rise_step {l : List It} {i : Nat} (h : ltB (gt l i) (gt l (up i)) = true) : riseL l i = riseL (swp l i (up i)) (up i) := by
  have h0 : 0 < i := by
    rcases Nat.eq_zero_or_pos i with rfl | h0
    · rw [show up 0 = 0 from rfl, ltB_self] at h; cases h
    · exact h0
  obtain ⟨n, rfl⟩ : ∃ n, i = n + 1 := ⟨i - 1, by omega⟩
  have hu := up_lt h0
  unfold riseL
  rw [riseF, if_pos h]
  exact riseF_more _ _ _ _ (by omega) (by omega)
theorem rise_stop {l : List It} {i : Nat} (h : ltB (gt l i) (gt l (up i)) = false) : riseL l i = l := by
  unfold riseL
  cases i with
  | zero => rfl
  | succ n => rw [riseF, if_neg (by rw [h]; simp)]
theorem riseF_len : ∀ (n : Nat) (l : List It) (i : Nat), (riseF n l i).length = l.length
  | 0, _, _ => rfl
  | n + 1, l, i => by
    rw [riseF]
    split
    · rw [riseF_len, swp_len]
    · rfl
theorem rise_len (l : List It) (i : Nat) : (riseL l i).length = l.length := riseF_len _ _ _

/-- The lesser one of two places, of which the second one need not be there. -/
def lessr (l : List It) (a b : Nat) : Nat := if b < l.length ∧ ltB (gt l b) (gt l a) = true then b else a
def leastL (l : List It) (i : Nat) : Nat := lessr l (lessr l i (2 * i + 1)) (2 * i + 2)
theorem lessr_or (l : List It) (a b : Nat) : lessr l a b = a ∨ lessr l a b = b ∧ b < l.length ∧ ltB (gt l b) (gt l a) = true := by
  unfold lessr
  split
  · next h => exact .inr ⟨rfl, h⟩
  · exact .inl rfl
theorem lessr_le (l : List It) (a b : Nat) : Le (gt l (lessr l a b)) (gt l a) ∧ (b < l.length → Le (gt l (lessr l a b)) (gt l b)) := by
  unfold lessr
  split
  · next h => exact ⟨.of_lt h.2, fun _ => .refl _⟩
  · next h =>
    refine ⟨.refl _, fun hb => ?_⟩
    unfold Le
    cases hc : ltB (gt l b) (gt l a) with
    | false => rfl
    | true => exact absurd ⟨hb, hc⟩ h
theorem least_or (l : List It) (i : Nat) : leastL l i = i ∨ (leastL l i = 2 * i + 1 ∨ leastL l i = 2 * i + 2) ∧ leastL l i < l.length ∧ ltB (gt l (leastL l i)) (gt l i) = true := by
  unfold leastL
  rcases lessr_or l (lessr l i (2 * i + 1)) (2 * i + 2) with h | ⟨h, h1, h2⟩
  · rw [h]
    rcases lessr_or l i (2 * i + 1) with k | ⟨k, k1, k2⟩
    · exact .inl k
    · rw [k]; exact .inr ⟨.inl rfl, k1, k2⟩
  · rw [h]
    refine .inr ⟨.inr rfl, h1, ?_⟩
    have h3 := (lessr_le l i (2 * i + 1)).1
    rw [ltB_yes] at *
    rw [le_iff] at h3
    omega
theorem least_le (l : List It) (i : Nat) : Le (gt l (leastL l i)) (gt l i) ∧ (2 * i + 1 < l.length → Le (gt l (leastL l i)) (gt l (2 * i + 1))) ∧ (2 * i + 2 < l.length → Le (gt l (leastL l i)) (gt l (2 * i + 2))) := by
  have h1 := lessr_le l i (2 * i + 1)
  have h2 := lessr_le l (lessr l i (2 * i + 1)) (2 * i + 2)
  exact ⟨h2.1.trans h1.1, fun h => h2.1.trans (h1.2 h), h2.2⟩
theorem least_lt {l : List It} {i : Nat} (h : ¬ leastL l i = i) : i < leastL l i ∧ leastL l i < l.length := by
  rcases least_or l i with k | ⟨k, k1, _⟩
  · exact absurd k h
  · omega
theorem least_len {l : List It} {i : Nat} (h : i < l.length) : leastL l i < l.length := by
  by_cases k : leastL l i = i
  · rw [k]; exact h
  · exact (least_lt k).2

def sinkF : Nat → List It → Nat → List It
  | 0, l, _ => l
  | n + 1, l, i => if leastL l i = i then l else sinkF n (swp l i (leastL l i)) (leastL l i)
def sinkL (l : List It) (i : Nat) : List It := sinkF (l.length - i) l i
theorem least_end {l : List It} {i : Nat} (h : l.length ≤ i) : leastL l i = i := by
  by_cases k : leastL l i = i
  · exact k
  · have := least_lt k; omega
theorem sinkF_more : ∀ (n m : Nat) (l : List It) (i : Nat), l.length - i ≤ n → l.length - i ≤ m → sinkF n l i = sinkF m l i
  | 0, 0, _, _, _, _ => rfl
  | 0, m + 1, l, i, hn, _ => by rw [sinkF, sinkF, if_pos (least_end (by omega))]
  | n + 1, 0, l, i, _, hm => by rw [sinkF, sinkF, if_pos (least_end (by omega))]
  | n + 1, m + 1, l, i, hn, hm => by
    rw [sinkF, sinkF]
    split
    · rfl
    · next h =>
      have := least_lt h
      exact sinkF_more n m _ _ (by rw [swp_len]; omega) (by rw [swp_len]; omega)
theorem sink_step {l : List It} {i : Nat} (h : ¬ leastL l i = i) : sinkL l i = sinkL (swp l i (leastL l i)) (leastL l i) := by
  have hl := least_lt h
  obtain ⟨n, hn⟩ : ∃ n, l.length - i = n + 1 := ⟨l.length - i - 1, by omega⟩
  unfold sinkL
  rw [hn, sinkF, if_neg h]
  exact sinkF_more _ _ _ _ (by rw [swp_len]; omega) (Nat.le_refl _)
theorem sink_stop {l : List It} {i : Nat} (h : leastL l i = i) : sinkL l i = l := by
  unfold sinkL
  cases l.length - i with
  | zero => rfl
  | succ n => rw [sinkF, if_pos h]
theorem sinkF_len : ∀ (n : Nat) (l : List It) (i : Nat), (sinkF n l i).length = l.length
  | 0, _, _ => rfl
  | n + 1, l, i => by
    rw [sinkF]
    split
    · rfl
    · rw [sinkF_len, swp_len]
theorem sink_len (l : List It) (i : Nat) : (sinkL l i).length = l.length := sinkF_len _ _ _

def settleL (l : List It) (i : Nat) : List It := sinkL (riseL l i) i
theorem settle_len (l : List It) (i : Nat) : (settleL l i).length = l.length := by rw [settleL, sink_len, rise_len]
def ofF : Nat → List It → List It
  | 0, l => l
  | k + 1, l => ofF k (sinkL l k)
def ofL (l : List It) : List It := ofF (l.length / 2) l
theorem ofF_len : ∀ (k : Nat) (l : List It), (ofF k l).length = l.length
  | 0, _ => rfl
  | k + 1, l => by rw [ofF, ofF_len, sink_len]
theorem of_len (l : List It) : (ofL l).length = l.length := ofF_len _ _
/-- What is left behind the item at a place. -/
def cutL (l : List It) (i : Nat) : List It := (l.set i (gt l (l.length - 1))).take (l.length - 1)
def takeL (l : List It) (i : Nat) : List It := if i < l.length - 1 then settleL (cutL l i) i else cutL l i
theorem cut_len (l : List It) (i : Nat) : (cutL l i).length = l.length - 1 := by simp [cutL]
theorem take_len (l : List It) (i : Nat) : (takeL l i).length = l.length - 1 := by
  unfold takeL
  split
  · rw [settle_len, cut_len]
  · exact cut_len _ _
def pushL (l : List It) (x : It) : List It := riseL (ofL l ++ [x]) l.length
theorem push_len (l : List It) (x : It) : (pushL l x).length = l.length + 1 := by rw [pushL, rise_len]; simp [of_len]
def plc (l : List It) (d : Int) : Nat := l.findIdx (fun x => decide (x.d = d))
def fixL (l : List It) (i : Nat) (k : Int) : List It := settleL (l.set i ⟨k, (gt l i).d⟩) i
def sortF : Nat → List It → List It
  | 0, _ => []
  | n + 1, l => gt l 0 :: sortF n (takeL l 0)
def sortL (l : List It) : List It := sortF l.length (ofL l)

/-! ## Heaps -/
/-- A list is a heap. -/
def Hp (l : List It) : Prop := ∀ j, j < l.length → Le (gt l (up j)) (gt l j)
def hpB (l : List It) : Bool := (List.range l.length).all fun j => !ltB (gt l j) (gt l (up j))
theorem hpB_yes {l : List It} : hpB l = true ↔ Hp l := by simp [hpB, Hp, Le]
/-- Only the item at place i breaks the order. -/
def Ex (l : List It) (i : Nat) : Prop := (∀ j, 0 < j → j < l.length → j ≠ i → up j ≠ i → Le (gt l (up j)) (gt l j)) ∧ ∀ c, 0 < c → c < l.length → up c = i → 0 < i → Le (gt l (up i)) (gt l c)
/-- From place k on only the item at place i breaks the order, against what stands below it. -/
def Sk (l : List It) (k i : Nat) : Prop := (∀ j, 0 < j → j < l.length → k ≤ up j → up j ≠ i → Le (gt l (up j)) (gt l j)) ∧ ∀ c, 0 < c → c < l.length → up c = i → 0 < i → k ≤ up i → Le (gt l (up i)) (gt l c)
/-- From place k on there is order. -/
def Hk (l : List It) (k : Nat) : Prop := ∀ j, 0 < j → j < l.length → k ≤ up j → Le (gt l (up j)) (gt l j)
theorem hp_of_hk {l : List It} (h : Hk l 0) : Hp l := fun j hj => by
  rcases Nat.eq_zero_or_pos j with rfl | h0
  · exact .refl _
  · exact h j h0 hj (Nat.zero_le _)
theorem hk_end (l : List It) : Hk l (l.length / 2) := fun j h0 hj hk => by unfold up at hk; omega

theorem sinkF_ok : ∀ (n : Nat) (l : List It) (k i : Nat), l.length - i ≤ n → k ≤ i → i < l.length → Sk l k i → Hk (sinkF n l i) k
  | 0, l, k, i, hn, _, hi, _ => by omega
  | n + 1, l, k, i, hn, hki, hi, hs => by
    have hle := least_le l i
    rw [sinkF]
    split
    · next h =>
      rw [h] at hle
      intro j h0 hj hk
      by_cases e : up j = i
      · have hj2 : j = 2 * i + 1 ∨ j = 2 * i + 2 := by unfold up at e; omega
        rw [e]
        rcases hj2 with rfl | rfl
        · exact hle.2.1 hj
        · exact hle.2.2 hj
      · exact hs.1 j h0 hj hk e
    · next h =>
      have hl := least_lt h
      have ho := least_or l i
      obtain ⟨d, hd⟩ : ∃ d, leastL l i = d := ⟨_, rfl⟩
      rw [hd] at h hl ho hle ⊢
      have hud : up d = i := by unfold up; omega
      have hlt : ltB (gt l d) (gt l i) = true := by
        rcases ho with e | ⟨_, _, e⟩
        · exact absurd e h
        · exact e
      refine sinkF_ok n _ k d (by rw [swp_len]; omega) (by omega) (by rw [swp_len]; exact hl.2) ⟨?_, ?_⟩
      · intro j h0 hj hk hne
        rw [swp_len] at hj
        rw [gt_swp hi hl.2, gt_swp hi hl.2]
        rw [if_neg hne]
        by_cases e : up j = i
        · rw [if_pos e]
          have hj2 : j = 2 * i + 1 ∨ j = 2 * i + 2 := by unfold up at e; omega
          by_cases ed : j = d
          · rw [if_pos ed]; exact .of_lt hlt
          · rw [if_neg ed, if_neg (by omega)]
            rcases hj2 with rfl | rfl
            · exact hle.2.1 hj
            · exact hle.2.2 hj
        · rw [if_neg e, if_neg (by rintro rfl; exact e hud)]
          split
          · next e2 =>
            subst e2
            have hui : up j < j := up_lt h0
            exact hs.2 d (by omega) hl.2 hud h0 hk
          · exact hs.1 j h0 hj hk e
      · intro c h0 hc hcd hd0 hk
        rw [swp_len] at hc
        rw [gt_swp hi hl.2, gt_swp hi hl.2, hud, if_neg (by omega), if_pos rfl]
        have : d < c := by unfold up at hcd; omega
        rw [if_neg (by omega), if_neg (by omega)]
        have := hs.1 c h0 hc (by omega) (by omega)
        rw [hcd] at this
        exact this
theorem sink_ok {l : List It} {k i : Nat} (hki : k ≤ i) (hi : i < l.length) (h : Sk l k i) : Hk (sinkL l i) k := sinkF_ok _ _ _ _ (Nat.le_refl _) hki hi h
theorem sinkF_perm : ∀ (n : Nat) (l : List It) (i : Nat), i < l.length → (sinkF n l i).Perm l
  | 0, _, _, _ => .refl _
  | n + 1, l, i, hi => by
    rw [sinkF]
    split
    · exact .refl _
    · next h =>
      have hl := (least_lt h).2
      exact (sinkF_perm n _ _ (by rw [swp_len]; exact hl)).trans (swp_perm hi hl)
theorem sink_perm {l : List It} {i : Nat} (hi : i < l.length) : (sinkL l i).Perm l := sinkF_perm _ _ _ hi

theorem ofF_ok : ∀ (k : Nat) (l : List It), k ≤ l.length / 2 → Hk l k → Hp (ofF k l)
  | 0, l, _, h => hp_of_hk h
  | k + 1, l, hk, h => by
    rw [ofF]
    refine ofF_ok k _ (by rw [sink_len]; omega) (sink_ok (Nat.le_refl _) (by omega) ⟨?_, ?_⟩)
    · intro j h0 hj h1 h2
      exact h j h0 hj (by omega)
    · intro c h0 hc h1 h2 h3
      have := up_lt h2
      omega
theorem of_ok (l : List It) : Hp (ofL l) := ofF_ok _ _ (Nat.le_refl _) (hk_end l)
theorem ofF_perm : ∀ (k : Nat) (l : List It), k ≤ l.length / 2 → (ofF k l).Perm l
  | 0, _, _ => .refl _
  | k + 1, l, hk => by
    rw [ofF]
    exact (ofF_perm k _ (by rw [sink_len]; omega)).trans (sink_perm (by omega))
theorem of_perm (l : List It) : (ofL l).Perm l := ofF_perm _ _ (Nat.le_refl _)
theorem sink_hp {l : List It} {i : Nat} (h : Hp l) : sinkL l i = l := by
  refine sink_stop ?_
  rcases least_or l i with e | ⟨e, hl, hlt⟩
  · exact e
  · have hu : up (leastL l i) = i := by unfold up; omega
    have := h _ hl
    rw [hu] at this
    unfold Le at this
    rw [hlt] at this; cases this
theorem ofF_hp : ∀ (k : Nat) (l : List It), Hp l → ofF k l = l
  | 0, _, _ => rfl
  | k + 1, l, h => by rw [ofF, sink_hp h, ofF_hp k l h]
/-- A heap stays as it is. -/
theorem of_hp {l : List It} (h : Hp l) : ofL l = l := ofF_hp _ _ h

/-- Where an item rises from i it stands at m. -/
def Rs (l : List It) (i m : Nat) : Prop := (∀ j, 0 < j → j < l.length → j ≠ m → (m = i → up j ≠ i) → Le (gt l (up j)) (gt l j)) ∧ ∀ c, 0 < c → c < l.length → up c = m → 0 < m → Le (gt l (up m)) (gt l c)
theorem rs_start {l : List It} {i : Nat} (h : Ex l i) : Rs l i i := ⟨fun j h0 hj hm hu => h.1 j h0 hj hm (hu rfl), h.2⟩
theorem riseF_ok : ∀ (n : Nat) (l : List It) (i m : Nat), m ≤ n → m ≤ i → i < l.length → Rs l i m → Sk (riseF n l m) 0 i
  | n, l, i, m, hn, hmi, hi, hr => by
    have hstop : Le (gt l (up m)) (gt l m) → Sk l 0 i := by
      intro hle
      have hall : ∀ j, 0 < j → j < l.length → (m = i → up j ≠ i) → Le (gt l (up j)) (gt l j) := by
        intro j h0 hj hne
        by_cases e : j = m
        · subst e; exact hle
        · exact hr.1 j h0 hj e hne
      refine ⟨fun j h0 hj _ hne => hall j h0 hj (fun _ => hne), fun c h0 hc hu hi0 _ => ?_⟩
      by_cases e : m = i
      · subst e
        exact hr.2 c h0 hc hu hi0
      · have h1 := hall i hi0 hi (fun q => absurd q e)
        have h2 := hall c h0 hc (fun q => absurd q e)
        rw [hu] at h2
        exact h1.trans h2
    have hml : m < l.length := by omega
    match n, hn with
    | 0, hn =>
      obtain rfl : m = 0 := by omega
      exact hstop (.refl _)
    | n + 1, hn =>
      rw [riseF]
      split
      · next h =>
        have h0 : 0 < m := by
          rcases Nat.eq_zero_or_pos m with rfl | h0
          · rw [show up 0 = 0 from rfl, ltB_self] at h; cases h
          · exact h0
        have hu := up_lt h0
        have hul : up m < l.length := by omega
        refine riseF_ok n _ i (up m) (by omega) (by omega) (by rw [swp_len]; exact hi) ⟨?_, ?_⟩
        · intro j j0 hj hne hxx
          rw [swp_len] at hj
          rw [gt_swp hml hul, gt_swp hml hul, if_neg hne]
          by_cases e1 : up j = up m
          · rw [if_pos e1]
            by_cases e2 : j = m
            · rw [if_pos e2]; exact .of_lt h
            · rw [if_neg e2]
              have := hr.1 j j0 hj e2 (fun q => by subst q; omega)
              rw [e1] at this
              exact (Le.of_lt h).trans this
          · rw [if_neg e1]
            by_cases e2 : up j = m
            · rw [if_pos e2]
              rw [if_neg (by rintro rfl; omega)]
              exact hr.2 j j0 hj e2 h0
            · rw [if_neg e2, if_neg (by rintro rfl; exact e1 rfl)]
              exact hr.1 j j0 hj (by rintro rfl; exact e1 rfl) (fun q => by subst q; exact e2)
        · intro c c0 hc hcu hu0
          rw [swp_len] at hc
          have huu := up_lt hu0
          rw [gt_swp hml hul, gt_swp hml hul, if_neg (by omega), if_neg (by omega)]
          have h3 := hr.1 (up m) hu0 hul (by omega) (fun q => by subst q; omega)
          by_cases e1 : c = up m
          · subst e1; have := up_lt c0; omega
          · rw [if_neg e1]
            by_cases e2 : c = m
            · rw [if_pos e2]; exact h3
            · rw [if_neg e2]
              have h4 := hr.1 c c0 hc e2 (fun q => by subst q; omega)
              rw [hcu] at h4
              exact h3.trans h4
      · next h =>
        refine hstop ?_
        unfold Le
        cases q : ltB (gt l m) (gt l (up m)) with
        | false => rfl
        | true => exact absurd q h
theorem rise_ok {l : List It} {i : Nat} (hi : i < l.length) (h : Ex l i) : Sk (riseL l i) 0 i := riseF_ok _ _ _ _ (Nat.le_refl _) (Nat.le_refl _) hi (rs_start h)
theorem riseF_perm : ∀ (n : Nat) (l : List It) (i : Nat), i < l.length → (riseF n l i).Perm l
  | 0, _, _, _ => .refl _
  | n + 1, l, i, hi => by
    rw [riseF]
    split
    · have hu : up i < l.length := by have := up_le i; omega
      exact (riseF_perm n _ _ (by rw [swp_len]; exact hu)).trans (swp_perm hi hu)
    · exact .refl _
theorem rise_perm {l : List It} {i : Nat} (hi : i < l.length) : (riseL l i).Perm l := riseF_perm _ _ _ hi
theorem settle_ok {l : List It} {i : Nat} (hi : i < l.length) (h : Ex l i) : Hp (settleL l i) := hp_of_hk (sink_ok (Nat.zero_le _) (by rw [rise_len]; exact hi) (rise_ok hi h))
theorem settle_perm {l : List It} {i : Nat} (hi : i < l.length) : (settleL l i).Perm l := (sink_perm (by rw [rise_len]; exact hi)).trans (rise_perm hi)

/-- An item of a heap is changed. -/
theorem ex_set {l : List It} (h : Hp l) {i : Nat} (hi : i < l.length) (x : It) : Ex (l.set i x) i := by
  refine ⟨fun j h0 hj hne hnu => ?_, fun c h0 hc hu hi0 => ?_⟩
  · rw [List.length_set] at hj
    rw [gt_set _ _ _ _ hi, gt_set _ _ _ _ hi, if_neg hnu, if_neg hne]
    exact h j hj
  · rw [List.length_set] at hc
    have h1 := up_lt h0
    have h2 := up_lt hi0
    rw [gt_set _ _ _ _ hi, gt_set _ _ _ _ hi, if_neg (by omega), if_neg (by omega)]
    have h3 := h c hc
    rw [hu] at h3
    exact (h i hi).trans h3
/-- The last ones of it are taken off. -/
theorem ex_take {l : List It} {i : Nat} (h : Ex l i) (n : Nat) : Ex (l.take n) i := by
  refine ⟨fun j h0 hj hne hnu => ?_, fun c h0 hc hu hi0 => ?_⟩
  · rw [List.length_take] at hj
    have := up_lt h0
    rw [gt_take _ _ _ (by omega), gt_take _ _ _ (by omega)]
    exact h.1 j h0 (by omega) hne hnu
  · rw [List.length_take] at hc
    have := up_lt h0
    have := up_lt hi0
    rw [gt_take _ _ _ (by omega), gt_take _ _ _ (by omega)]
    exact h.2 c h0 (by omega) hu hi0
theorem hp_take {l : List It} (h : Hp l) (n : Nat) : Hp (l.take n) := fun j hj => by
  rw [List.length_take] at hj
  have := up_le j
  rw [gt_take _ _ _ (by omega), gt_take _ _ _ (by omega)]
  exact h j (by omega)
theorem cut_perm {l : List It} {i : Nat} (hi : i < l.length) : (gt l i :: cutL l i).Perm l := by
  have hl : l.length - 1 < l.length := by omega
  have h := swp_perm hi hl
  have e : swp l i (l.length - 1) = cutL l i ++ [gt l i] := by
    have h1 : (l.set i (gt l (l.length - 1))).length = l.length := by simp
    unfold swp cutL
    rw [List.set_eq_take_append_cons_drop, if_pos (by omega)]
    rw [List.drop_eq_nil_of_le (by omega)]
  rw [e] at h
  exact (List.perm_append_singleton _ _).symm.trans h
theorem take_perm {l : List It} {i : Nat} (hi : i < l.length) : (gt l i :: takeL l i).Perm l := by
  refine .trans (.cons _ ?_) (cut_perm hi)
  unfold takeL
  split
  · next h => exact settle_perm (by rw [cut_len]; exact h)
  · exact .refl _
theorem take_ok {l : List It} (h : Hp l) {i : Nat} (hi : i < l.length) : Hp (takeL l i) := by
  unfold takeL
  split
  · next k => exact settle_ok (by rw [cut_len]; exact k) (ex_take (ex_set h hi _) _)
  · next k =>
    obtain rfl : i = l.length - 1 := by omega
    unfold cutL
    rw [List.take_set_of_le (Nat.le_refl _)]
    exact hp_take h _
theorem hp_top {l : List It} (h : Hp l) : ∀ j, j < l.length → Le (gt l 0) (gt l j) := by
  intro j
  induction j using Nat.strongRecOn with
  | _ j ih =>
    intro hj
    rcases Nat.eq_zero_or_pos j with rfl | h0
    · exact .refl _
    · have hu := up_lt h0
      exact (ih _ hu (by omega)).trans (h j hj)
theorem hp_least {l : List It} (h : Hp l) : ∀ x ∈ l, Le (gt l 0) x := fun x hx => by
  obtain ⟨j, hj, rfl⟩ := List.getElem_of_mem hx
  rw [gt_lt hj]
  exact hp_top h j hj
theorem fix_ok {l : List It} (h : Hp l) {i : Nat} (hi : i < l.length) (k : Int) : Hp (fixL l i k) := settle_ok (by simpa using hi) (ex_set h hi _)
theorem fix_perm {l : List It} {i : Nat} (hi : i < l.length) (k : Int) : (fixL l i k).Perm (l.set i ⟨k, (gt l i).d⟩) := settle_perm (by simpa using hi)
theorem push_ok (l : List It) (x : It) : Hp (pushL l x) := by
  have hl := of_len l
  have h : Sk (pushL l x) 0 l.length := by
    refine rise_ok (by simp [hl]) ⟨fun j h0 hj hne hnu => ?_, fun c h0 hc hu hi0 => ?_⟩
    · simp only [List.length_append, List.length_singleton, hl] at hj
      have := up_lt h0
      rw [gt_app _ _ _ (by omega), gt_app _ _ _ (by omega)]
      exact of_ok l j (by omega)
    · simp only [List.length_append, List.length_singleton, hl] at hc
      have := up_lt h0
      omega
  refine hp_of_hk fun j h0 hj hk => h.1 j h0 hj hk ?_
  rw [push_len] at hj
  have := up_lt h0
  omega
theorem push_perm (l : List It) (x : It) : (pushL l x).Perm (l ++ [x]) := by
  have hl := of_len l
  exact (rise_perm (by simp [hl])).trans ((of_perm l).append_right _)

/-! ## Order -/
theorem sort_one {l m : List It} (h : l.Pairwise Le) (k : m.Pairwise Le) (p : l.Perm m) : l = m :=
  p.eq_of_pairwise (fun _ _ _ _ h k => Le.anti h k) h k
theorem sortF_perm : ∀ (n : Nat) (l : List It), l.length = n → (sortF n l).Perm l
  | 0, l, h => by rw [List.eq_nil_of_length_eq_zero h]; exact .refl _
  | n + 1, l, h => by
    rw [sortF]
    exact ((sortF_perm n _ (by rw [take_len]; omega)).cons _).trans (take_perm (by omega))
theorem sortF_ok : ∀ (n : Nat) (l : List It), l.length = n → Hp l → (sortF n l).Pairwise Le
  | 0, _, _, _ => .nil
  | n + 1, l, h, hp => by
    rw [sortF]
    have h1 : (takeL l 0).length = n := by rw [take_len]; omega
    refine .cons (fun x hx => ?_) (sortF_ok n _ h1 (take_ok hp (by omega)))
    have hx2 : x ∈ takeL l 0 := (sortF_perm n _ h1).mem_iff.1 hx
    exact hp_least hp x ((take_perm (i := 0) (by omega)).mem_iff.1 (.tail _ hx2))
theorem sort_ok (l : List It) : (sortL l).Pairwise Le := sortF_ok _ _ (of_len l) (of_ok l)
theorem sort_perm (l : List It) : (sortL l).Perm l := (sortF_perm _ _ (of_len l)).trans (of_perm l)

/-- The place of an item among those that are in order, asked from behind. -/
def insK (l : List It) (x : It) : Nat → Nat
  | 0 => 0
  | k + 1 => if ltB x (gt l k) = true then insK l x k else k + 1
def insL (l : List It) (x : It) : List It := l.take (insK l x l.length) ++ x :: l.drop (insK l x l.length)
/-- The document's order. -/
def sortR (l : List It) : List It := l.foldl insL []
theorem insK_le (l : List It) (x : It) : ∀ k, insK l x k ≤ k
  | 0 => Nat.le_refl _
  | k + 1 => by
    rw [insK]
    split
    · have := insK_le l x k; omega
    · exact Nat.le_refl _
theorem insK_hi (l : List It) (x : It) : ∀ k, ∀ j, insK l x k ≤ j → j < k → Le x (gt l j)
  | 0, j, _, h => by omega
  | k + 1, j, h1, h2 => by
    rw [insK] at h1
    split at h1
    · next h =>
      by_cases e : j = k
      · subst e; exact .of_lt h
      · exact insK_hi l x k j h1 (by omega)
    · omega
theorem insK_lo (l : List It) (x : It) : ∀ k, 0 < insK l x k → Le (gt l (insK l x k - 1)) x
  | 0, h => by simp [insK] at h
  | k + 1, h => by
    rw [insK] at h ⊢
    split at h
    · next q => rw [if_pos q]; exact insK_lo l x k h
    · next q =>
      rw [if_neg q]
      unfold Le
      cases e : ltB x (gt l k) with
      | false => simpa using e
      | true => exact absurd e q
theorem pw_get {l : List It} (h : l.Pairwise Le) {i j : Nat} (hij : i ≤ j) (hj : j < l.length) : Le (gt l i) (gt l j) := by
  rcases Nat.lt_or_eq_of_le hij with h1 | rfl
  · have := List.pairwise_iff_getElem.1 h i j (by omega) hj h1
    rwa [gt_lt, gt_lt] at this
  · exact .refl _
theorem ins_ok {l : List It} (h : l.Pairwise Le) (x : It) : (insL l x).Pairwise Le := by
  have hk := insK_le l x l.length
  unfold insL
  rw [List.pairwise_append]
  refine ⟨h.sublist (List.take_sublist _ _), .cons (fun y hy => ?_) (h.sublist (List.drop_sublist _ _)), fun y hy z hz => ?_⟩
  · obtain ⟨j, hj, rfl⟩ := List.getElem_of_mem hy
    rw [List.length_drop] at hj
    rw [List.getElem_drop, gt_lt]
    exact insK_hi l x l.length _ (by omega) (by omega)
  · obtain ⟨i, hi, rfl⟩ := List.getElem_of_mem hy
    rw [List.length_take] at hi
    rw [List.getElem_take, gt_lt]
    have hyx : Le (gt l i) x := (pw_get h (by omega) (by omega)).trans (insK_lo l x l.length (by omega))
    rcases List.mem_cons.1 hz with rfl | hz
    · exact hyx
    · obtain ⟨j, hj, rfl⟩ := List.getElem_of_mem hz
      rw [List.length_drop] at hj
      rw [List.getElem_drop, gt_lt]
      exact pw_get h (by omega) (by omega)
theorem ins_perm (l : List It) (x : It) : (insL l x).Perm (l ++ [x]) := by
  unfold insL
  refine List.perm_middle.trans ?_
  rw [List.take_append_drop]
  exact (List.perm_append_singleton _ _).symm
theorem sortR_go : ∀ (l m : List It), m.Pairwise Le → (l.foldl insL m).Pairwise Le ∧ (l.foldl insL m).Perm (m ++ l)
  | [], m, h => ⟨h, by simp⟩
  | x :: l, m, h => by
    obtain ⟨h1, h2⟩ := sortR_go l (insL m x) (ins_ok h x)
    refine ⟨h1, h2.trans ?_⟩
    have := (ins_perm m x).append_right l
    simpa using this
theorem sortR_ok (l : List It) : (sortR l).Pairwise Le := (sortR_go l [] .nil).1
theorem sortR_perm (l : List It) : (sortR l).Perm l := (sortR_go l [] .nil).2
theorem sortR_len (l : List It) : (sortR l).length = l.length := (sortR_perm l).length_eq
/-- Both orders are one. -/
theorem sort_same (l : List It) : sortL l = sortR l := sort_one (sort_ok l) (sortR_ok l) ((sort_perm l).trans (sortR_perm l).symm)
theorem sortR_one {l m : List It} (p : l.Perm m) : sortR l = sortR m := sort_one (sortR_ok l) (sortR_ok m) ((sortR_perm l).trans (p.trans (sortR_perm m).symm))
/-- The first one in order is the top of a heap, the others are the rest's. -/
theorem sortR_hp {l : List It} (h : Hp l) (h0 : 0 < l.length) : sortR l = gt l 0 :: sortR (takeL l 0) := by
  have hp := take_perm (l := l) (i := 0) h0
  refine sort_one (sortR_ok l) (.cons (fun x hx => ?_) (sortR_ok _)) ((sortR_perm l).trans (.trans hp.symm (.cons _ (sortR_perm _).symm)))
  have hx2 : x ∈ takeL l 0 := (sortR_perm _).mem_iff.1 hx
  exact hp_least h x (hp.mem_iff.1 (.tail _ hx2))
end Go.Proofs.Ytofnpmmbfcnlgaa
