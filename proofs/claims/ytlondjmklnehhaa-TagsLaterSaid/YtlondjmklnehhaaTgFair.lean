/-
  Layer 25: flows that always have work: each two are near, and all that is shifted goes alike. No program here.
-/
import Derived.Test.YtlondjmklnehhaaTgMath
namespace Go.Proofs.Ytlondjmklnehhaa
set_option linter.unusedSimpArgs false
set_option linter.unusedVariables false
open Go.RowKit

/-- All weights divide the scale. -/
theorem chg_mul {w : Int} (c : Int) (h : WtI w) : chg c w * w = c * 720720 := by
  obtain ⟨a, b⟩ := h
  have hw : w = 1 ∨ w = 2 ∨ w = 3 ∨ w = 4 ∨ w = 5 ∨ w = 6 ∨ w = 7 ∨ w = 8 ∨ w = 9 ∨ w = 10 ∨ w = 11 ∨ w = 12 ∨ w = 13 ∨ w = 14 ∨ w = 15 ∨ w = 16 := by omega
  unfold chg
  rcases hw with rfl | rfl | rfl | rfl | rfl | rfl | rfl | rfl | rfl | rfl | rfl | rfl | rfl | rfl | rfl | rfl <;> omega
theorem chg_mono {w c d : Int} (h : WtI w) (hc : c ≤ d) : chg c w ≤ chg d w := by
  unfold chg
  obtain ⟨a, b⟩ := h
  exact Int.ediv_le_ediv (by omega) (by omega)
theorem chg_pos {w c : Int} (h : WtI w) (hc : 0 ≤ c) : 0 ≤ chg c w := by
  unfold chg
  obtain ⟨a, b⟩ := h
  exact Int.ediv_nonneg (by omega) (by omega)
theorem chg_le {w c : Int} (h : WtI w) (hc : 0 ≤ c) : chg c w ≤ c * 720720 := Int.ediv_le_self w (by omega)

/-- Flows that began together at d and were served no more than T units each, none more than Q at once. -/
structure Evn (d Q T : Int) (ws : List Int) (l : List Tg) : Prop where
  wts : l.map Tg.w = ws
  wt : ∀ i, i < l.length → WtI (gtT l i).w
  sum : ∀ i, i < l.length → ((gtT l i).s - d) * (gtT l i).w = (gtT l i).k * 720720
  low : ∀ i, i < l.length → 0 ≤ (gtT l i).k ∧ (gtT l i).k ≤ T ∧ 0 ≤ (gtT l i).f ∧ (gtT l i).f ≤ (gtT l i).s
  nr : ∀ i j, i < l.length → j < l.length → (gtT l i).s ≤ (gtT l j).s + chg Q (gtT l i).w
section
variable {d Q T : Int} {ws : List Int} {l : List Tg}
theorem Evn.len (h : Evn d Q T ws l) : l.length = ws.length := by rw [← h.wts]; simp
theorem Evn.start (h : Evn d Q T ws l) {i : Nat} (hi : i < l.length) : d ≤ (gtT l i).s ∧ (gtT l i).s ≤ d + T * 720720 := by
  have h1 := h.sum i hi
  obtain ⟨h2, h3, _, _⟩ := h.low i hi
  obtain ⟨a, b⟩ := h.wt i hi
  generalize (gtT l i).s - d = x at h1
  have e : ((gtT l i).s - d) * (gtT l i).w = (gtT l i).k * 720720 := h.sum i hi
  generalize (gtT l i).w = w at *
  generalize (gtT l i).k = k at *
  generalize hs : (gtT l i).s - d = y at *
  have hy : 0 ≤ y := by
    rcases Int.lt_or_le y 0 with hn | hn
    · have : y * w ≤ y * 1 := Int.mul_le_mul_of_nonpos_left (by omega) (by omega)
      omega
    · exact hn
  have : y * 1 ≤ y * w := Int.mul_le_mul_of_nonneg_left a hy
  omega
theorem Evn.ok (h : Evn d Q T ws l) (hd : 0 ≤ d) (hd2 : d ≤ 4294967296) (hT : T ≤ 5242880) {i : Nat} (hi : i < l.length) : (gtT l i).Ok := by
  obtain ⟨a, b⟩ := h.start hi
  obtain ⟨h2, h3, h4, h5⟩ := h.low i hi
  exact ⟨h.wt i hi, ⟨by omega, by omega⟩, ⟨h4, by omega⟩, ⟨h2, by omega⟩⟩
/-- What was done for two, by their weights, is never far from each other. -/
theorem Evn.lead (h : Evn d Q T ws l) {i j : Nat} (hi : i < l.length) (hj : j < l.length) : (gtT l i).k * (gtT l j).w - (gtT l j).k * (gtT l i).w ≤ Q * (gtT l j).w := by
  have e1 := h.sum i hi
  have e2 := h.sum j hj
  have hn := h.nr i j hi hj
  have hm := chg_mul Q (h.wt i hi)
  obtain ⟨a, _⟩ := h.wt i hi
  obtain ⟨b, _⟩ := h.wt j hj
  generalize chg Q (gtT l i).w = c at *
  generalize (gtT l i).w = u at *
  generalize (gtT l j).w = v at *
  generalize (gtT l i).k = x at *
  generalize (gtT l j).k = y at *
  generalize (gtT l i).s = s at *
  generalize (gtT l j).s = t at *
  have h1 : (s - t) * (u * v) ≤ c * (u * v) := Int.mul_le_mul_of_nonneg_right (by omega) (Int.mul_nonneg (by omega) (by omega))
  have h2 : c * (u * v) = 720720 * (Q * v) := by rw [← Int.mul_assoc, hm, Int.mul_comm Q 720720, Int.mul_assoc]
  have h3 : (s - t) * (u * v) = 720720 * (x * v - y * u) := by
    have p1 : (s - d) * u * v = x * 720720 * v := by rw [e1]
    have p2 : (t - d) * v * u = y * 720720 * u := by rw [e2]
    have q1 : (s - t) * (u * v) = (s - d) * u * v - (t - d) * v * u := by
      have : s - t = (s - d) - (t - d) := by omega
      rw [this, Int.sub_mul, Int.mul_assoc, Int.mul_assoc (t - d), Int.mul_comm v u]
    rw [q1, p1, p2, Int.mul_sub, Int.mul_comm x 720720, Int.mul_comm y 720720, Int.mul_assoc, Int.mul_assoc]
  rw [h2, h3] at h1
  omega
/-- A heavier one gets no less. -/
theorem Evn.heavy (h : Evn d Q T ws l) (hQ : 0 ≤ Q) {i j : Nat} (hi : i < l.length) (hj : j < l.length) (hw : (gtT l j).w ≤ (gtT l i).w) : (gtT l j).k ≤ (gtT l i).k + Q := by
  have h1 := h.lead hj hi
  obtain ⟨a, _⟩ := h.wt i hi
  obtain ⟨b, _⟩ := h.wt j hj
  obtain ⟨k0, _⟩ := h.low i hi
  generalize (gtT l i).w = u at *
  generalize (gtT l j).w = v at *
  generalize (gtT l i).k = x at *
  generalize (gtT l j).k = y at *
  have h2 : x * v ≤ x * u := Int.mul_le_mul_of_nonneg_left hw k0
  have h3 : y * u ≤ (x + Q) * u := by rw [Int.add_mul]; omega
  exact Int.le_of_mul_le_mul_right h3 (by omega)
/-- Starts are never far from each other. -/
theorem Evn.apart (h : Evn d Q T ws l) {i j : Nat} (hi : i < l.length) (hj : j < l.length) : (gtT l i).s - (gtT l j).s ≤ max (chg Q (gtT l i).w) (chg Q (gtT l j).w) ∧ (gtT l j).s - (gtT l i).s ≤ max (chg Q (gtT l i).w) (chg Q (gtT l j).w) := by
  have h1 := h.nr i j hi hj
  have h2 := h.nr j i hj hi
  omega
end
/-- Near, since any time. -/
theorem evn_near {d Q T T' : Int} {ws : List Int} {l m : List Tg} (hl : Evn d Q T ws l) (hm : Evn d Q T' ws m) (hd : 0 ≤ d) (hd2 : d ≤ 4294967296) (hT : T' ≤ 5242880) (hT0 : T ≤ 5242880) (hQ : 0 ≤ Q) (hQ2 : Q ≤ 65536)
    (hk : ∀ i, i < l.length → (gtT l i).k ≤ (gtT m i).k) {i j : Nat} (hi : i < l.length) (hj : j < l.length) : NearP (gtT m i) (gtT m j) (gtT l i).k (gtT l j).k Q := by
  have e : m.length = l.length := by rw [hm.len, hl.len]
  have w : ∀ i, i < l.length → (gtT m i).w = (gtT l i).w := by
    intro i hi
    have h1 : (l.map Tg.w)[i]? = (m.map Tg.w)[i]? := by rw [hl.wts, hm.wts]
    rw [List.getElem?_map, List.getElem?_map, gtT_get hi, gtT_get (by omega)] at h1
    simpa using h1.symm
  have hi' : i < m.length := by omega
  have hj' : j < m.length := by omega
  refine ⟨⟨hm.ok hd hd2 hT hi', ⟨(hl.low i hi).1, by have := (hl.low i hi).2.1; omega⟩, hk i hi⟩, ⟨hm.ok hd hd2 hT hj', ⟨(hl.low j hj).1, by have := (hl.low j hj).2.1; omega⟩, hk j hj⟩, ⟨hQ, by omega⟩, ?_, ?_⟩
  · have h1 := hm.lead hj' hi'
    have h2 := hl.lead hi hj
    unfold apartT
    rw [w i hi, w j hj] at *
    rw [Int.mul_add, Int.sub_mul, Int.sub_mul]
    omega
  · have h1 := hm.lead hi' hj'
    have h2 := hl.lead hj hi
    unfold apartT
    rw [w i hi, w j hj] at *
    rw [Int.mul_add, Int.sub_mul, Int.sub_mul]
    omega
/-- What a turn does. -/
structure Trn (l l' : List Tg) (c : Int) (i : Nat) : Prop where
  lt : i < l.length
  is : i = fsN l l.length
  turn : turnT l c = (l', (i : Int))
  set : l' = l.set i ⟨(gtT l i).w, (gtT l i).s + chg c (gtT l i).w, (gtT l i).s + chg c (gtT l i).w, (gtT l i).k + c⟩
theorem evn_turn {d Q T : Int} {ws : List Int} {l : List Tg} (h : Evn d Q T ws l) (hd : 0 ≤ d) (hd2 : d ≤ 4294967296) (hT : T + 65536 ≤ 5242880) (hQ : Q ≤ 65536) {c : Int} (hc : 1 ≤ c) (hc2 : c ≤ Q) (h0 : 0 < l.length) :
    ∃ l' i, Trn l l' c i ∧ Evn d Q (T + 65536) ws l' := by
  obtain ⟨i, hi⟩ : ∃ i, i = fsN l l.length := ⟨_, rfl⟩
  have hlt : i < l.length := by rw [hi]; exact fsN_lt l _ h0
  have hle : ∀ j, j < l.length → (gtT l i).s ≤ (gtT l j).s := by rw [hi]; exact fsN_le l _
  have hok := h.ok hd hd2 (by omega) hlt
  obtain ⟨s0, s1⟩ := h.start hlt
  obtain ⟨k0, k1, f0, f1⟩ := h.low i hlt
  have hwt := h.wt i hlt
  have hcw := chg_le hwt (show 0 ≤ c by omega)
  have hcp := chg_pos hwt (show 0 ≤ c by omega)
  have hcm := chg_mono hwt hc2
  have hy := srvT_yes (v := (gtT l i).s) hok (show WkI c from ⟨by omega, by omega⟩) (show Fits (gtT l i) c from ⟨by omega, by omega⟩)
  have ht := turn_yes (l := l) (c := c) (by omega) (gtT l i).s (by rw [← hi, hy])
  rw [← hi, hy] at ht
  refine ⟨_, i, ⟨hlt, hi, ht, rfl⟩, ?_⟩
  have gs : ∀ j, gtT (l.set i ⟨(gtT l i).w, (gtT l i).s + chg c (gtT l i).w, (gtT l i).s + chg c (gtT l i).w, (gtT l i).k + c⟩) j = if j = i then ⟨(gtT l i).w, (gtT l i).s + chg c (gtT l i).w, (gtT l i).s + chg c (gtT l i).w, (gtT l i).k + c⟩ else gtT l j := fun j => gtT_set l i j _ hlt
  refine ⟨?_, ?_, ?_, ?_, ?_⟩
  · rw [← h.wts, List.map_set, ← gtT_lt hlt]
    have : (l.map Tg.w)[i]'(by simpa using hlt) = l[i].w := by simp
    rw [← this, List.set_getElem_self]
  all_goals simp only [List.length_set]
  · intro j hj
    rw [gs]
    split
    · exact hwt
    · exact h.wt j hj
  · intro j hj
    rw [gs]
    split
    · have e1 := h.sum i hlt
      have e2 := chg_mul c hwt
      simp only
      rw [show (gtT l i).s + chg c (gtT l i).w - d = ((gtT l i).s - d) + chg c (gtT l i).w by omega, Int.add_mul, e1, e2, Int.add_mul]
    · exact h.sum j hj
  · intro j hj
    rw [gs]
    split
    · simp only; omega
    · have := h.low j hj; omega
  · intro a b ha hb
    rw [gs, gs]
    split <;> split
    · have := chg_pos hwt (show 0 ≤ Q by omega); simp only; omega
    · have := hle b hb; simp only; omega
    · have := h.nr a i ha hlt; simp only; omega
    · exact h.nr a b ha hb
/-- What is done is more, not less. -/
theorem trn_work {l l' : List Tg} {c : Int} {i : Nat} (h : Trn l l' c i) (hc : 1 ≤ c) (j : Nat) : (gtT l j).k ≤ (gtT l' j).k := by
  rw [h.set, gtT_set _ _ _ _ h.lt]
  split
  · next e => subst e; simp only; omega
  · omega
theorem evn_run {d Q : Int} {ws : List Int} (hd : 0 ≤ d) (hd2 : d ≤ 4294967296) (hQ : Q ≤ 65536) : ∀ (cs : List Int) (T : Int) (l : List Tg), Evn d Q T ws l → 0 < l.length → (∀ c ∈ cs, 1 ≤ c ∧ c ≤ Q) → T + 65536 * cs.length ≤ 5242880 →
    Evn d Q (T + 65536 * cs.length) ws (runT l cs).1 ∧ ∀ j, (gtT l j).k ≤ (gtT (runT l cs).1 j).k
  | [], T, l, h, _, _, _ => by simpa [run_nil] using h
  | c :: cs, T, l, h, h0, hc, hT => by
    simp only [List.length_cons] at hT
    obtain ⟨c1, c2⟩ := hc c (by simp)
    obtain ⟨l', i, ht, he⟩ := evn_turn h hd hd2 (by omega) hQ c1 c2 h0
    have h0' : 0 < l'.length := by have := turn_len l c; rw [ht.turn] at this; simp only at this; omega
    obtain ⟨r1, r2⟩ := evn_run hd hd2 hQ cs (T + 65536) l' he h0' (fun x hx => hc x (by simp [hx])) (by omega)
    rw [run_cons, ht.turn]
    refine ⟨?_, fun j => ?_⟩
    · simp only [List.length_cons]
      rwa [show T + 65536 * ((cs.length + 1 : Nat) : Int) = T + 65536 + 65536 * (cs.length : Int) by omega]
    · have := trn_work ht c1 j
      have := r2 j
      simp only
      omega
/-- New tags. -/
def newL (d : Int) (ws : List Int) : List Tg := ws.map (fun w => ⟨w, d, 0, 0⟩)
theorem newL_len (d : Int) (ws : List Int) : (newL d ws).length = ws.length := by simp [newL]
theorem gtT_new (d : Int) {ws : List Int} {i : Nat} (h : i < ws.length) : gtT (newL d ws) i = ⟨ws[i], d, 0, 0⟩ := gtT_map ws _ i h
theorem evn_new {d Q : Int} {ws : List Int} (h : ∀ x ∈ ws, WtI x) (hd : 0 ≤ d) (hQ : 0 ≤ Q) : Evn d Q 0 ws (newL d ws) := by
  refine ⟨?_, ?_, ?_, ?_, ?_⟩
  · simp [newL, Function.comp_def]
  all_goals simp only [newL_len]
  · intro i hi; rw [gtT_new d hi]; exact h _ (List.getElem_mem hi)
  · intro i hi; rw [gtT_new d hi]; simp
  · intro i hi; rw [gtT_new d hi]; exact ⟨Int.le_refl _, Int.le_refl _, Int.le_refl _, hd⟩
  · intro i j hi hj; rw [gtT_new d hi, gtT_new d hj]; have := chg_pos (h _ (List.getElem_mem hi)) hQ; simp only; omega

/-- All begin later, by as much. -/
structure Shf (d : Int) (x y : List Tg) : Prop where
  len : y.length = x.length
  at_ : ∀ i, i < x.length → (gtT y i).w = (gtT x i).w ∧ (gtT y i).k = (gtT x i).k ∧ (gtT y i).s = (gtT x i).s + d
theorem shf_fsN {d : Int} {x y : List Tg} (h : Shf d x y) : ∀ i, i ≤ x.length → fsN y i = fsN x i
  | 0, _ => rfl
  | i + 1, hi => by
    have ih := shf_fsN h i (by omega)
    have h1 := (h.at_ i (by omega)).2.2
    by_cases e : i = 0
    · subst e; rw [fsN_one, fsN_one]
    · have h2 := (h.at_ (fsN x i) (by have := fsN_lt x i (by omega); omega)).2.2
      rw [fsN, fsN, ih, h1, h2]
      by_cases q : (gtT x i).s < (gtT x (fsN x i)).s
      · rw [if_pos q, if_pos (by omega)]
      · rw [if_neg q, if_neg (by omega)]
theorem shf_turn {d c : Int} {x y x' y' : List Tg} {i j : Nat} (h : Shf d x y) (hx : Trn x x' c i) (hy : Trn y y' c j) : i = j ∧ Shf d x' y' := by
  have e : i = j := by rw [hx.is, hy.is, h.len, shf_fsN h _ (Nat.le_refl _)]
  subst e
  refine ⟨rfl, ?_, ?_⟩
  · rw [hx.set, hy.set]; simp [h.len]
  · intro k hk
    rw [hx.set, List.length_set] at hk
    obtain ⟨w1, w2, w3⟩ := h.at_ k hk
    rw [hx.set, hy.set, gtT_set _ _ _ _ hx.lt, gtT_set _ _ _ _ hy.lt]
    split
    · next e => subst e; rw [w1, w2, w3]; exact ⟨rfl, rfl, by simp only; omega⟩
    · exact ⟨w1, w2, w3⟩
theorem shf_new (d : Int) (ws : List Int) : Shf d (newL 0 ws) (newL d ws) := by
  refine ⟨by simp [newL], fun i hi => ?_⟩
  rw [newL_len] at hi
  rw [gtT_new d hi, gtT_new 0 hi]
  exact ⟨rfl, rfl, by simp only; omega⟩
theorem shf_run {d Q : Int} {ws : List Int} (hd : 0 ≤ d) (hd2 : d ≤ 4294967296) (hQ : Q ≤ 65536) : ∀ (cs : List Int) (T : Int) (x y : List Tg), Evn 0 Q T ws x → Evn d Q T ws y → Shf d x y → 0 < x.length → (∀ c ∈ cs, 1 ≤ c ∧ c ≤ Q) → T + 65536 * cs.length ≤ 5242880 →
    Shf d (runT x cs).1 (runT y cs).1 ∧ (runT y cs).2 = (runT x cs).2
  | [], T, x, y, _, _, h, _, _, _ => ⟨h, rfl⟩
  | c :: cs, T, x, y, hx, hy, h, h0, hc, hT => by
    simp only [List.length_cons] at hT
    obtain ⟨c1, c2⟩ := hc c (by simp)
    obtain ⟨x', i, tx, ex⟩ := evn_turn hx (by omega) (by omega) (by omega) hQ c1 c2 h0
    obtain ⟨y', j, ty, ey⟩ := evn_turn hy hd hd2 (by omega) hQ c1 c2 (by rw [h.len]; exact h0)
    obtain ⟨rfl, h'⟩ := shf_turn h tx ty
    have h0' : 0 < x'.length := by rw [tx.set, List.length_set]; exact h0
    obtain ⟨r1, r2⟩ := shf_run hd hd2 hQ cs (T + 65536) x' y' ex ey h' h0' (fun x hx => hc x (by simp [hx])) (by omega)
    rw [run_cons, run_cons, tx.turn, ty.turn]
    exact ⟨r1, (by simp only; rw [r2])⟩
/-- Who alone has work is served always. -/
theorem one_run {Q : Int} {ws : List Int} (hQ : Q ≤ 65536) : ∀ (cs : List Int) (T : Int) (x : List Tg), Evn 0 Q T ws x → x.length = 1 → (∀ c ∈ cs, 1 ≤ c ∧ c ≤ Q) → T + 65536 * cs.length ≤ 5242880 →
    (∀ n ∈ (runT x cs).2, n = 0) ∧ (gtT (runT x cs).1 0).k = (gtT x 0).k + cs.sum
  | [], T, x, _, _, _, _ => ⟨(fun n h => by cases h), (by simp [run_nil])⟩
  | c :: cs, T, x, hx, h1, hc, hT => by
    simp only [List.length_cons] at hT
    obtain ⟨c1, c2⟩ := hc c (by simp)
    obtain ⟨x', i, tx, ex⟩ := evn_turn hx (by omega) (by omega) (by omega) hQ c1 c2 (by omega)
    have hi : i = 0 := by have := tx.lt; omega
    subst hi
    have h1' : x'.length = 1 := by rw [tx.set, List.length_set]; exact h1
    obtain ⟨r1, r2⟩ := one_run hQ cs (T + 65536) x' ex h1' (fun x hx => hc x (by simp [hx])) (by omega)
    rw [run_cons, tx.turn]
    refine ⟨fun n hn => ?_, ?_⟩
    · simp only [List.mem_cons] at hn
      rcases hn with rfl | hn
      · rfl
      · exact r1 n hn
    · simp only
      rw [r2, tx.set, gtT_set _ _ _ _ tx.lt, if_pos rfl, List.sum_cons]
      simp only
      omega
end Go.Proofs.Ytlondjmklnehhaa
