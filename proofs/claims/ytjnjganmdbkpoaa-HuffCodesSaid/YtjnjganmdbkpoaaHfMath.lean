/-
  Layer 2: what is encoded is told apart: plain mathematics.
-/
import Derived.Test.YtjnjganmdbkpoaaHfTree
namespace Go.Proofs.Ytjnjganmdbkpoaa

theorem cod_at {f : Nat × Nat → Bool} (h : codL.all f = true) (c : Nat) (hc : c < 256) : f (bitsL.getD c 0, lensL.getD c 0) = true :=
  List.all_eq_true.1 h _ (List.mem_of_getElem? (codL_get c hc))
theorem path_at {f : Nat × Nat → Bool} (h : pathL.all f = true) (p : Nat) (hp : p < 256) : f (pathL.getD p (0, 0)) = true := by
  have hl : p < pathL.length := by rw [pathL_len]; exact hp
  refine List.all_eq_true.1 h _ ?_
  rw [List.getD, List.getElem?_eq_getElem hl]
  exact List.getElem_mem hl

/-- The bits that lead to a node. -/
def path (p : Nat) : List Int := bitsOf (pathL.getD p (0, 0)).1 (pathL.getD p (0, 0)).2
theorem path_zero : path 0 = [] := by decide +kernel
theorem path_noCode (p : Nat) (hp : p < 256) : NoCode (path p) := by
  intro c hc h
  have h1 := path_at path_lt p hp
  have h2 := path_at path_no p hp
  obtain ⟨a, b⟩ := pref_num _ _ _ _ (bits_lt c hc) (by simpa using h1) h
  have h3 := cod_at h2 c hc
  rw [begB_of a b] at h3
  cases h3

theorem ones_noCode (k : Nat) (u : List Int) (h30 : u = [] ∨ 30 ≤ k) : NoCode (List.replicate k 1 ++ u) := by
  intro c hc h
  have hl := (lens_le c hc).2
  have h' : cd c <+: List.replicate k 1 := by
    rcases h30 with rfl | h30
    · simpa using h
    · exact List.prefix_of_prefix_length_le h (List.prefix_append _ _) (by rw [cd_len, List.length_replicate]; omega)
  have e : cd c = List.replicate (lensL.getD c 0) 1 := by
    have := List.prefix_iff_eq_take.1 h'
    rw [cd_len] at this
    have hle := h'.length_le
    rw [cd_len, List.length_replicate] at hle
    rw [this, List.take_replicate, Nat.min_eq_left hle]
  rw [← bitsOf_ones] at e
  have hp : 0 < 2 ^ lensL.getD c 0 := Nat.pow_pos (by omega)
  exact ones_no c hc (bitsOf_inj _ _ _ (bits_lt c hc) (by omega) e)

theorem free_at (l : List (Nat × Nat)) (h : freeB l = true) (i j : Nat) (hij : i < j) (x y : Nat × Nat) (hx : l[i]? = some x) (hy : l[j]? = some y) : begB x.1 x.2 y.1 y.2 = false ∧ begB y.1 y.2 x.1 x.2 = false := by
  induction l generalizing i j with
  | nil => simp at hx
  | cons z l ih =>
    rw [freeB, Bool.and_eq_true] at h
    obtain ⟨j, rfl⟩ : ∃ k, j = k + 1 := ⟨j - 1, by omega⟩
    rw [List.getElem?_cons_succ] at hy
    match i with
    | 0 =>
      rw [List.getElem?_cons_zero, Option.some.injEq] at hx
      subst hx
      have := List.all_eq_true.1 h.1 y (List.mem_of_getElem? hy)
      simpa using this
    | i + 1 =>
      rw [List.getElem?_cons_succ] at hx
      exact ih h.2 i j (by omega) hx hy

theorem cd_free (a b : Nat) (ha : a < 256) (hb : b < 256) (h : cd a <+: cd b) : a = b := by
  obtain ⟨h1, h2⟩ := pref_num _ _ _ _ (bits_lt a ha) (bits_lt b hb) h
  have h3 := begB_of h1 h2
  rcases Nat.lt_trichotomy a b with hlt | he | hgt
  · have := (free_at codL cod_free a b hlt _ _ (codL_get a ha) (codL_get b hb)).1
    rw [h3] at this; cases this
  · exact he
  · have := (free_at codL cod_free b a hgt _ _ (codL_get b hb) (codL_get a ha)).2
    rw [h3] at this; cases this

theorem cd_uniq {l : List Int} {a b : Nat} (ha : a < 256) (hb : b < 256) (h : cd a <+: l) (h' : cd b <+: l) : a = b := by
  rcases Nat.le_total (cd a).length (cd b).length with hl | hl
  · exact cd_free a b ha hb (List.prefix_of_prefix_length_le h h' hl)
  · exact (cd_free b a hb ha (List.prefix_of_prefix_length_le h' h hl)).symm

theorem parse_one (l l' : List Nat) (u v : List Int) (hl : ∀ c ∈ l, c < 256) (hl' : ∀ c ∈ l', c < 256) (hu : NoCode u) (hv : NoCode v) (h : tb l ++ u = tb l' ++ v) : l = l' ∧ u = v := by
  induction l generalizing l' with
  | nil =>
    match l' with
    | [] => exact ⟨rfl, h⟩
    | c :: l' =>
      refine absurd ?_ (hu c (hl' c (by simp)))
      have h' : u = cd c ++ (tb l' ++ v) := by rw [← List.append_assoc]; exact h
      rw [h']
      exact List.prefix_append _ _
  | cons c l ih =>
    match l' with
    | [] =>
      refine absurd ?_ (hv c (hl c (by simp)))
      have h' : v = cd c ++ (tb l ++ u) := by rw [← List.append_assoc]; exact h.symm
      rw [h']
      exact List.prefix_append _ _
    | c' :: l' =>
      rw [tb_cons, tb_cons, List.append_assoc, List.append_assoc] at h
      have e : c = c' := cd_uniq (l := cd c ++ (tb l ++ u)) (hl c (by simp)) (hl' c' (by simp)) (List.prefix_append _ _) (by rw [h]; exact List.prefix_append _ _)
      subst e
      obtain ⟨a, b⟩ := ih l' (fun x hx => hl x (by simp [hx])) (fun x hx => hl' x (by simp [hx])) (List.append_cancel_left h)
      exact ⟨by rw [a], b⟩

theorem IsEnc.inj {l l' : List Nat} {b : List Int} (hl : ∀ c ∈ l, c < 256) (hl' : ∀ c ∈ l', c < 256) (h : IsEnc l b) (h' : IsEnc l' b) : l = l' := by
  obtain ⟨_, k, hk, e⟩ := h
  obtain ⟨_, k', hk', e'⟩ := h'
  exact (parse_one l l' _ _ hl hl' (by have := ones_noCode k [] (.inl rfl); rwa [List.append_nil] at this) (by have := ones_noCode k' [] (.inl rfl); rwa [List.append_nil] at this) (e.symm.trans e')).1

/-- A step in the tree. -/
theorem tree_step (p : Nat) (hp : p < 256) (b : Nat) (hb : b < 2) :
    let q := bitGet (treeL.getD p (0, 0)) b
    (0 < q ∧ q < 256 ∧ path q.toNat = path p ++ [(b : Int)]) ∨ (q < 0 ∧ -256 ≤ q ∧ cd (-q - 1).toNat = path p ++ [(b : Int)]) ∨ (q = 0 ∧ path p ++ [(b : Int)] = List.replicate 30 1) := by
  have h := List.all_eq_true.1 tree_all p (by simpa using hp)
  simp only [Bool.and_eq_true] at h
  have key : ∀ q : Int, stepOk (pathL.getD p (0, 0)).1 (pathL.getD p (0, 0)).2 q b = true →
      (0 < q ∧ q < 256 ∧ path q.toNat = path p ++ [(b : Int)]) ∨ (q < 0 ∧ -256 ≤ q ∧ cd (-q - 1).toNat = path p ++ [(b : Int)]) ∨ (q = 0 ∧ path p ++ [(b : Int)] = List.replicate 30 1) := by
    intro q hq
    have e : ∀ v n : Nat, bitsOf (2 * v + b) (n + 1) = bitsOf v n ++ [(b : Int)] := by
      intro v n
      rw [bitsOf, show (2 * v + b) / 2 = v by omega, show (2 * v + b) % 2 = b by omega]
    unfold stepOk at hq
    split at hq
    · rename_i h1
      simp only [Bool.and_eq_true, decide_eq_true_eq, beq_iff_eq] at hq
      refine .inl ⟨h1, hq.1, ?_⟩
      rw [path, hq.2, path, ← e]
    · split at hq
      · rename_i h1 h2
        simp only [Bool.and_eq_true, decide_eq_true_eq, beq_iff_eq] at hq
        refine .inr (.inl ⟨h2, hq.1.1, ?_⟩)
        rw [cd, hq.1.2, hq.2, path, ← e]
      · rename_i h1 h2
        simp only [Bool.and_eq_true, beq_iff_eq] at hq
        refine .inr (.inr ⟨by omega, ?_⟩)
        rw [path, ← e, hq.1, hq.2, bitsOf_ones]
  match b, hb with
  | 0, _ => exact key _ h.1
  | 1, _ => exact key _ h.2

/-- What Decode answers: the text and OK, or nothing and ErrForm. -/
def IsDec (b : List Int) (r : List Nat) (e : Int) : Prop := (∀ c ∈ r, c < 256) ∧ ((e = 0 ∧ IsEnc r b) ∨ (e = 4 ∧ r = [] ∧ ∀ l, (∀ c ∈ l, c < 256) → ¬ IsEnc l b))
theorem IsDec.one {b : List Int} {r r' : List Nat} {e e' : Int} (h : IsDec b r e) (h' : IsDec b r' e') : r = r' ∧ e = e' := by
  obtain ⟨h0, h | h⟩ := h
  · obtain ⟨h0', h' | h'⟩ := h'
    · exact ⟨IsEnc.inj h0 h0' h.2 h'.2, by rw [h.1, h'.1]⟩
    · exact absurd h.2 (h'.2.2 r h0)
  · obtain ⟨h0', h' | h'⟩ := h'
    · exact absurd h'.2 (h.2.2 r' h0')
    · exact ⟨by rw [h.2.1, h'.2.1], by rw [h.1, h'.1]⟩
theorem IsDec.of_enc {b : List Int} {l r : List Nat} {e : Int} (hl : ∀ c ∈ l, c < 256) (h : IsEnc l b) (h' : IsDec b r e) : r = l ∧ e = 0 :=
  h'.one ⟨hl, .inl ⟨rfl, h⟩⟩

/-- The bits are read as a text, and a rest in which no code stands. -/
theorem dec_of_parse {b : List Int} {l : List Nat} {u : List Int} (hb : ∀ x ∈ b, 0 ≤ x ∧ x ≤ 255) (hl : ∀ c ∈ l, c < 256) (hu : NoCode u) (h : unpackI b = tb l ++ u) (hk : ∃ k, k < 8 ∧ u = List.replicate k 1) : IsDec b l 0 := by
  obtain ⟨k, hk, rfl⟩ := hk
  exact ⟨hl, .inl ⟨rfl, hb, k, hk, h⟩⟩
theorem no_dec_of_parse {b : List Int} {l : List Nat} {u : List Int} (hl : ∀ c ∈ l, c < 256) (hu : NoCode u) (h : unpackI b = tb l ++ u) (hk : ∀ k, k < 8 → u ≠ List.replicate k 1) : IsDec b [] 4 := by
  refine ⟨by simp, .inr ⟨rfl, rfl, fun l' hl' he => ?_⟩⟩
  obtain ⟨_, k, hk8, e⟩ := he
  have := parse_one l l' u _ hl hl' hu (by have := ones_noCode k [] (.inl rfl); rwa [List.append_nil] at this) (h.symm.trans e)
  exact hk k hk8 this.2
theorem unpackI_append (a b : List Int) : unpackI (a ++ b) = unpackI a ++ unpackI b := by simp [unpackI]
theorem unpackI_mid (xs : List Int) (k : Nat) (h : k < xs.length) : unpackI xs = unpackI (xs.take k) ++ (bitsOf (xs.getD k 0).toNat 8 ++ unpackI (xs.drop (k + 1))) := by
  have e : xs = xs.take k ++ (xs.getD k 0 :: xs.drop (k + 1)) := by
    rw [List.getD, List.getElem?_eq_getElem h, Option.getD_some, ← List.drop_eq_getElem_cons h, List.take_append_drop]
  conv => lhs; rw [e]
  rw [unpackI_append]
  rfl
theorem unpackI_take (xs : List Int) (k : Nat) (h : k < xs.length) : unpackI (xs.take (k + 1)) = unpackI (xs.take k) ++ bitsOf (xs.getD k 0).toNat 8 := by
  rw [List.take_succ_eq_append_getElem h, unpackI_snoc, List.getD, List.getElem?_eq_getElem h]; rfl

end Go.Proofs.Ytjnjganmdbkpoaa
