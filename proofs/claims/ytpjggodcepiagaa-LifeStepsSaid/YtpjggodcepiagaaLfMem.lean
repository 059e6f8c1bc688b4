/-
  Layer 16: events in memory: a slice that reads as a list of events (both packages' kind of Event); append.
-/
import Derived.Test.YtpjggodcepiagaaOps
import Derived.Test.YtpjggodcepiagaaLfMath
import Derived.Test.YtpjggodcepiagaaOwnRow
import Derived.OwnWalk
import Derived.Test.YtpjggodcepiagaaChecked
import Derived.Laws.AppendOwnNone
import Derived.Lib.AppendZeros
import Derived.Deep.Slices
import Derived.Deep.Fields
import Derived.ChangeSlices
namespace Go.Proofs.Ytpjggodcepiagaa
set_option linter.unusedSimpArgs false
set_option linter.unusedVariables false
open Go.RowKit

/-- An event. -/
structure Ev where
  k : Int
  b : Bool
deriving DecidableEq, Inhabited
def Ev.ok (x : Ev) : Prop := 0 ≤ x.k ∧ x.k ≤ 255
def AllE (l : List Ev) : Prop := ∀ x ∈ l, x.ok

/-- The cells of a list of events. -/
def ecs : List Ev → List Value
  | [] => []
  | p :: l => .int .u8 p.k :: .bool p.b :: ecs l
theorem ecs_len (l : List Ev) : (ecs l).length = l.length * 2 := by
  induction l with
  | nil => rfl
  | cons f l ih => simp only [ecs, List.length_cons, ih]; omega
theorem ecs_append (a b : List Ev) : ecs (a ++ b) = ecs a ++ ecs b := by
  induction a with
  | nil => rfl
  | cons f a ih => simp only [List.cons_append, ecs, ih]
theorem ecs_one (l : List Ev) : ∀ u ∈ ecs l, u.oneCell' = true := by
  induction l with
  | nil => intro u h; cases h
  | cons f l ih =>
    intro u h
    simp only [ecs, List.mem_cons] at h
    rcases h with rfl | rfl | h
    · rfl
    · rfl
    · exact ih u h
theorem ecs_get (l : List Ev) : ∀ (k : Nat) (p : Ev), l[k]? = some p → (ecs l)[k * 2]? = some (.int .u8 p.k) ∧ (ecs l)[k * 2 + 1]? = some (.bool p.b) := by
  induction l with
  | nil => intro k f h; simp at h
  | cons g l ih =>
    intro k f h
    cases k with
    | zero =>
      simp at h
      subst h
      exact ⟨rfl, rfl⟩
    | succ k =>
      have := ih k f (by simpa using h)
      simp only [ecs, show (k + 1) * 2 = k * 2 + 1 + 1 by omega, show k * 2 + 1 + 1 + 1 = (k * 2 + 1) + 1 + 1 by omega, List.getElem?_cons_succ]
      exact this
theorem ecs_part (l : List Ev) (j : Nat) (u : Value) (h : (ecs l)[j]? = some u) : ∃ (k : Nat) (p : Ev), l[k]? = some p ∧ ((j = k * 2 ∧ u = .int .u8 p.k) ∨ (j = k * 2 + 1 ∧ u = .bool p.b)) := by
  have hj : j < (ecs l).length := (List.getElem?_eq_some_iff.1 h).1
  rw [ecs_len] at hj
  have hk : j / 2 < l.length := by omega
  refine ⟨j / 2, l[j / 2], List.getElem?_eq_getElem hk, ?_⟩
  obtain ⟨h0, h1⟩ := ecs_get l (j / 2) _ (List.getElem?_eq_getElem hk)
  have hm : j % 2 = 0 ∨ j % 2 = 1 := by omega
  rcases hm with e | e
  · refine .inl ⟨by omega, ?_⟩
    rw [show j / 2 * 2 = j by omega, h] at h0
    exact Option.some.inj h0
  · refine .inr ⟨by omega, ?_⟩
    rw [show j / 2 * 2 + 1 = j by omega, h] at h1
    exact Option.some.inj h1

/-- The slice (A, n, c) reads as the list l of events. -/
structure EL (w : World) (A : Option Addr) (n c : Nat) (l : List Ev) : Prop where
  len : l.length = n
  le : n ≤ c
  max : c ≤ maxLen
  nil_ : A = none → c = 0
  at_ : ∀ k p, l[k]? = some p → ∃ b off, A = some ⟨b, off, none⟩ ∧ b < w.heap.size ∧ w.cell? ⟨b, off + k * 2, none⟩ = some (.int .u8 p.k) ∧ w.cell? ⟨b, off + k * 2 + 1, none⟩ = some (.bool p.b)
section
variable {w w' : World} {A : Option Addr} {n c : Nat} {l : List Ev}
theorem EL.keep (h : EL w A n c l) (hb : Below w.heap.size w w') : EL w' A n c l :=
  ⟨h.len, h.le, h.max, h.nil_, fun k f hf => by
    obtain ⟨b, off, rfl, hlt, c0, c1⟩ := h.at_ k f hf
    exact ⟨b, off, rfl, Nat.lt_of_lt_of_le hlt hb.size, (hb.cell hlt).trans c0, (hb.cell hlt).trans c1⟩⟩
theorem EL.drew (h : EL w A n c l) : EL w.drew A n c l := h.keep (Below.refl _ _).drew
theorem EL.alloc (h : EL w A n c l) (o : Obj) : EL (w.alloc o) A n c l := h.keep ((Below.refl _ _).alloc (Nat.le_refl _) o)
theorem EL.kb {S : Nat → Prop} (h : EL w A n c l) (hk : KB S w w') (hs : ∀ b off, A = some ⟨b, off, none⟩ → ¬ S b) : EL w' A n c l :=
  ⟨h.len, h.le, h.max, h.nil_, fun k f hf => by
    obtain ⟨b, off, rfl, hlt, c0, c1⟩ := h.at_ k f hf
    exact ⟨b, off, rfl, Nat.lt_of_lt_of_le hlt hk.size, (hk.cell (p := ⟨b, _, none⟩) hlt (hs b off rfl)).trans c0, (hk.cell (p := ⟨b, _, none⟩) hlt (hs b off rfl)).trans c1⟩⟩
/-- A block of cells of another kind holds no events. -/
theorem EL.apart {g : Nat} {t : TypeId} {cs : Array Value} (h : EL w A n c l) (hk : BlkIs w g t cs) (hne : ∀ (i : Nat) (x : Int), cs[i]? ≠ some (Value.int .u8 x)) (b off : Nat) (hA : A = some ⟨b, off, none⟩) (hn : 0 < n) : b ≠ g := by
  rintro rfl
  obtain ⟨p, hp⟩ : ∃ p, l[0]? = some p := ⟨l[0]'(by rw [h.len]; exact hn), List.getElem?_eq_getElem _⟩
  obtain ⟨b', off', e, _, c0, _⟩ := h.at_ 0 p hp
  rw [hA] at e
  injection e with e
  injection e with e1 e2
  subst e1 e2
  rw [hk.cell] at c0
  exact hne _ _ c0
theorem EL.far {p : Addr} {t : TypeId} {cs : Array Value} (h : EL w A n c l) (hk : BlkIs w p.block t cs) (hne : ∀ (i : Nat) (x : Int), cs[i]? ≠ some (Value.int .u8 x)) (u : Value) : EL (w.setCell p u) A n c l :=
  ⟨h.len, h.le, h.max, h.nil_, fun k f hf => by
    obtain ⟨b, off, rfl, hlt, c0, c1⟩ := h.at_ k f hf
    have hb : b ≠ p.block := h.apart hk hne b off rfl (by have := (List.getElem?_eq_some_iff.1 hf).1; rw [h.len] at this; omega)
    have hkb : KB (· = p.block) w (w.setCell p u) := (KB.refl (· = p.block) w).setCell (fun _ => rfl) u
    exact ⟨b, off, rfl, by simpa using hlt, (hkb.cell (p := ⟨b, _, none⟩) hlt hb).trans c0, (hkb.cell (p := ⟨b, _, none⟩) hlt hb).trans c1⟩⟩
theorem EL.none_ (w : World) : EL w none 0 0 [] := ⟨rfl, Nat.le_refl _, Nat.zero_le _, fun _ => rfl, fun k f h => by simp at h⟩
theorem EL.cells (h : EL w A n c l) {ad : Addr} (hA : A = some ad) : ∀ j u, (ecs l)[j]? = some u → w.cell? (ad.add j) = some u := by
  intro j u hj
  obtain ⟨k, f, hf, hu⟩ := ecs_part l j u hj
  obtain ⟨b, off, e, _, c0, c1⟩ := h.at_ k f hf
  rw [hA] at e
  injection e with e
  subst e
  rw [Addr.add_lit]
  rcases hu with ⟨rfl, rfl⟩ | ⟨rfl, rfl⟩
  · exact c0
  · rw [← Nat.add_assoc]; exact c1
/-- A row that the call made reads so. -/
theorem EL.of_own {B : Nat} {e : TypeId} (h : w.ownsRow B e 2 (.slice A n c) n (ecs l)) : EL w A n c l := by
  have hl : l.length = n := by have := h.1; rw [ecs_len] at this; omega
  rcases h.2 with ⟨he, h0⟩ | ⟨g, cap, cur, he, _, hg, hnc, hm, hsz, ht⟩
  · injection he with e1 e2 e3
    subst e1 e2 e3
    have : l = [] := List.eq_nil_of_length_eq_zero hl
    subst this
    exact EL.none_ w
  · injection he with e1 e2 e3
    subst e1 e3
    refine ⟨hl, hnc, hm, (fun e => by cases e), fun k f hf => ?_⟩
    obtain ⟨q0, q1⟩ := ecs_get l k f hf
    have hc := h.cells (g := g) rfl
    simp only [Addr.add_lit, Nat.zero_add] at hc
    refine ⟨g, 0, rfl, (Array.getElem?_eq_some_iff.1 hg).1, ?_, ?_⟩
    · simpa using hc _ _ q0
    · simpa using hc _ _ q1
end
theorem own_evs {w : World} {B : Nat} {e : TypeId} {v : Value} {n : Nat} {l : List Ev} (h : w.ownsRow B e 2 v n (ecs l)) : ∃ A c, v = .slice A n c ∧ EL w A n c l := by
  have key : ∃ A c, v = .slice A n c := by
    rcases h.2 with ⟨rfl, rfl⟩ | ⟨g, cap, cur, rfl, _⟩
    · exact ⟨none, 0, rfl⟩
    · exact ⟨_, cap, rfl⟩
  obtain ⟨A, c, rfl⟩ := key
  exact ⟨A, c, rfl, EL.of_own h⟩

theorem ev_info : (Try.prog.info? 30).map (fun i => (i.zero, i.size, i.bytes)) = some (some (.agg #[.int .u8 0, .bool false]), 2, 2) := by kernel_rfl

/-- A round's event. -/
theorem EL.round {w : World} {A : Option Addr} {n c : Nat} {l : List Ev} (h : EL w A n c l) {k : Nat} (hk : k < n) : ∃ x b off, l[k]? = some x ∧ A = some ⟨b, off, none⟩ ∧ b < w.heap.size ∧ w.cell? ⟨b, off + k * 2, none⟩ = some (.int .u8 x.k) ∧ w.cell? ⟨b, off + k * 2 + 1, none⟩ = some (.bool x.b) := by
  have hkl : k < l.length := by rw [h.len]; exact hk
  obtain ⟨b, off, e, hlt, c0, c1⟩ := h.at_ k _ (List.getElem?_eq_getElem hkl)
  exact ⟨l[k], b, off, List.getElem?_eq_getElem hkl, e, hlt, c0, c1⟩

/-- append of events onto a row of the call's own. -/
theorem wpList_append_el (w : World) {ops : Array Oper} {rest : List Oper} {o : Oper} {a : Act} {Q : Exit → Act → World → Prop} (hgd : o.guard = none) (s x : Operand)
    (ho : o.op = .call { callee := .builtin .append, args := #[s, x], argTypes := #[40, 40] })
    (base : Nat) (v : Value) (n : Nat) (xs : List Ev) (hs : a.eval s = v) (hown : w.ownsRow base 30 2 v n (ecs xs))
    (ad : Addr) (m c : Nat) (ys : List Ev) (hx : a.eval x = .slice (some ad) m c) (hr : EL w (some ad) m c ys)
    (h63 : n + m ≤ 1000000) (hbase : base ≤ w.heap.size)
    (h : ∀ v' w', w'.ownsRow base 30 2 v' (n + m) (ecs (xs ++ ys)) → w.grownBy w' v.ownBlock → wpList Try.prog ops Q rest (a.put o.dst v') w') : wpList Try.prog ops Q (o :: rest) a w := by
  obtain ⟨i0, hi0, hz0, hz1, hz2⟩ := info_parts ev_info
  have hl := hr.len
  refine wpList_append_own w hgd s x _ ho base _ i0 _ 2 2 Try.underlying40 hi0 hz0 hz1 hz2 rfl (by omega) v n (ecs xs) hs hown ad m c (ecs ys) hx (by rw [ecs_len, hl]) (hr.cells rfl) (ecs_one ys) (by unfold maxLen; omega) (by omega) hbase ?_
  intro v' w' h2 h3 _
  exact h v' w' (by rw [ecs_append]; exact h2) h3
/-- A block that is a list of events. -/
theorem el_blk {w : World} {g : Nat} {t : TypeId} {l : List Ev} (h : BlkIs w g t (ecs l).toArray) (hm : l.length ≤ maxLen) : EL w (some ⟨g, 0, none⟩) l.length l.length l :=
  ⟨rfl, Nat.le_refl _, hm, (fun e => by cases e), fun k p hp => by
    obtain ⟨q0, q1⟩ := ecs_get l k p hp
    refine ⟨g, 0, rfl, h.lt, ?_, ?_⟩
    · rw [Nat.zero_add, h.cell]; simpa using q0
    · rw [Nat.zero_add, h.cell]; simpa using q1⟩

set_option maxRecDepth 100000 in
open Go.ChangeShapes Go.WideShapes Go.Deep in
/-- A slice of events that came in reads as a list of events. -/
theorem open_el {H : Type} {enc : TypeId × Value → H} {w : World} {base : Nat} {sp : Nat → Bool} {held : Bool} {fuel : Nat} {v : Value} {x : DataW H × List MemPlace}
    (h : DataW.trod enc Try.prog w base sp held fuel 39 [v] = some x) : ∃ A n c l, v = .slice A n c ∧ EL w A n c l ∧ AllE l := by
  have hC : Try.prog.cellsOf 23 = 2 := by kernel_rfl
  rcases open_slice Try.underlying39 h with ⟨hv, _⟩ | ⟨a, len, cap, m, fu, D, Pl, hv, hb, hl, hm, hmm, hx, hi⟩
  · simp only [List.cons.injEq, and_true] at hv
    exact ⟨none, 0, 0, [], hv, EL.none_ w, fun p hp => by cases hp⟩
  · simp only [List.cons.injEq, and_true] at hv
    have hlm : len ≤ m := by rw [hmm]; split <;> omega
    have key : ∀ i, i < len → ∃ f : Ev, w.cell? (a.add (i * 2)) = some (.int .u8 f.k) ∧ w.cell? ((a.add (i * 2)).add 1) = some (.bool f.b) ∧ f.ok := by
      intro i hlt
      obtain ⟨cs', hc, ht'⟩ := hi i (by omega)
      rw [hC] at hc
      obtain ⟨_, hcl, hat⟩ := World.cells?_some hc
      obtain ⟨ys, n', _, _, _, hyl, hf⟩ := DataW.trod_struct Try.underlying23 ht'
      match cs', hcl with
      | [c0, c1], _ =>
        have q0 := hat 0 (by omega)
        have q1 := hat 1 (by omega)
        have g0 := hf 0 _ rfl
        have g1 := hf 1 _ rfl
        have y0 : ys[0]? = some (ys[0]'(by rw [hyl]; decide)) := List.getElem?_eq_getElem _
        have y1 : ys[1]? = some (ys[1]'(by rw [hyl]; decide)) := List.getElem?_eq_getElem _
        obtain ⟨s0, e0, _, b0⟩ := DataW.trod_int (P := Try.prog) Try.underlying5 (g0.trans y0)
        obtain ⟨s1, e1, _⟩ := DataW.trod_bool (P := Try.prog) Try.underlying4 (g1.trans y1)
        have r0 : c0 = .int .u8 s0 := (List.cons.inj e0).1
        have r1 : c1 = .bool s1 := (List.cons.inj e1).1
        subst r0 r1
        refine ⟨⟨s0, s1⟩, ?_, q1, ?_⟩
        · simpa [Addr.add] using q0
        · have k0 := bounds_u8 b0
          exact ⟨k0.1, k0.2⟩
    obtain ⟨F, hF⟩ := choose_lt key
    refine ⟨some a, len, cap, (List.range len).map F, hv, ⟨by simp, hl, hm, (fun e => by cases e), fun k f hf => ?_⟩, fun p hp => ?_⟩
    · have hk : k < len := by
        have := (List.getElem?_eq_some_iff.1 hf).1
        simpa using this
      have hfk : f = F k := by
        rw [List.getElem?_map, List.getElem?_range hk] at hf
        simpa using hf.symm
      subst hfk
      obtain ⟨z0, z1, _⟩ := hF k hk
      obtain ⟨b, off, spot⟩ := a
      have hspot : spot = none := by simpa [Addr.add] using World.cell?_spot (hF 0 (by omega)).1
      subst hspot
      rw [Addr.add_lit] at z0 z1
      rw [Addr.add_lit] at z1
      exact ⟨b, off, rfl, by simpa using World.block_lt_of_cell? w _ z0, z0, z1⟩
    · obtain ⟨k, hk, rfl⟩ := List.mem_map.1 hp
      exact (hF k (by simpa using hk)).2.2
end Go.Proofs.Ytpjggodcepiagaa
