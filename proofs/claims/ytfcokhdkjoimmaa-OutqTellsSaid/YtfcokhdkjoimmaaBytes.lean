/-
  Words for slices of bytes: owned, or read as a list.
-/
import Derived.Test.YtfcokhdkjoimmaaMem
import Derived.Test.YtfcokhdkjoimmaaIntRow
import Derived.Test.YtfcokhdkjoimmaaChecked
import Derived.OwnWalk
import Derived.OpenShut
import Derived.Laws.AppendOwnNone
import Derived.Laws.MakeOwn
namespace Go.Proofs.Ytfcokhdkjoimmaa
set_option linter.unusedSimpArgs false
set_option linter.unusedVariables false
open Go.RowKit Go.ChangeShapes

theorem u8_info : (Try.prog.info? 5).map (fun i => (i.zero, i.size, i.bytes)) = some (some (.int .u8 0), 1, 1) := by kernel_rfl

def u8s (l : List Int) : List Value := l.map (Value.int .u8)

theorem u8s_snoc (l : List Int) (x : Int) : u8s (l ++ [x]) = u8s l ++ [.int .u8 x] := by simp [u8s]

theorem one_new (w : World) (t : TypeId) (x : Value) : ∀ j u, [x][j]? = some u → (w.alloc (.cells #[x] t)).cell? ((⟨w.heap.size, 0, none⟩ : Addr).add j) = some u := by
  intro j u hj
  match j, hj with
  | 0, hj =>
    simp at hj; subst hj
    simp [Addr.add, World.cell?_alloc_at]

theorem one_cell (k : IntKind) (n : Int) : ∀ u ∈ [Value.int k n], u.oneCell' = true := by
  intro u hu; simp at hu; subst hu; rfl

theorem own_below {B : Nat} {e : TypeId} {size n : Nat} {v : Value} {xs : List Value} {w w' W : World} (h : W.ownsRow B e size v n xs) (hb : Below B w W) (hB : B ≤ w.heap.size) (hg : W.grownBy w' v.ownBlock) : Below B w w' :=
  hb.grown hg (by have := hb.size; omega) fun k hk => (h.lt k hk).1

theorem own_one (w : World) (B : Nat) (x : Int) (hB : B ≤ w.heap.size) : (w.alloc (.cells #[.int .u8 x] 5)).ownsRow B 5 1 (.slice (some ⟨w.heap.size, 0, none⟩) 1 1) 1 (u8s [x]) :=
  ⟨rfl, .inr ⟨w.heap.size, 1, _, rfl, hB, heap_alloc_new w _, by omega, by unfold maxLen; omega, rfl, rfl⟩⟩

/-- A slice that is owned: its value, spelt out. -/
theorem own_form {w : World} {B : Nat} {e : TypeId} {n : Nat} {v : Value} {xs : List Value} (h : w.ownsRow B e 1 v n xs) : ∃ A c, v = .slice A n c := by
  rcases h.2 with ⟨rfl, rfl⟩ | ⟨g, cap, cur, rfl, _⟩
  · exact ⟨none, 0, rfl⟩
  · exact ⟨_, cap, rfl⟩

theorem own_keep {w w' : World} {B : Nat} {e : TypeId} {s n : Nat} {v : Value} {xs : List Value} (h : w.ownsRow B e s v n xs) (hb : Below w.heap.size w w') : w'.ownsRow B e s v n xs :=
  h.kept (row := none) ⟨hb.os, hb.tape, hb.output, hb.size, fun i hi _ => hb.block i hi⟩ (by cases v.ownBlock <;> simp)

/-- string(v) of a slice that is owned. -/
theorem own_string {w : World} {B : Nat} {v : Value} {l : List Int} (h : w.ownsRow B 5 1 v l.length (u8s l)) :
    (convert 25 9 v).run Try.prog w = .ok (.string (strOfNums l)) w := by
  rcases h.2 with ⟨rfl, hl⟩ | ⟨g, cap, cur, rfl, _, hg, hn, hm, hs, ht⟩
  · have : l = [] := List.eq_nil_of_length_eq_zero hl
    subst this
    rw [run_convert_bytes_nil w 25 5 Try.underlying25 Try.underlying5 0 0 9 Try.underlying9]
    rfl
  · refine run_convert_bytes_arg w 25 5 Try.underlying25 Try.underlying5 g 0 l.length cap l rfl (fun i hi => ?_) 9 Try.underlying9
    have := h.cells (g := g) rfl i (.int .u8 (l.getD i 0)) (by simp [u8s, List.getD, hi])
    simpa [Addr.add_lit] using this

theorem own_at {w : World} {B : Nat} {e : TypeId} {n : Nat} {v : Value} {xs : List Value} (h : w.ownsRow B e 1 v n xs) (hn : 0 < n) : ∃ g c, v = .slice (some ⟨g, 0, none⟩) n c ∧ B ≤ g ∧ g < w.heap.size := by
  rcases h.2 with ⟨rfl, rfl⟩ | ⟨g, cap, cur, rfl, hb, hg, _⟩
  · omega
  · exact ⟨g, cap, rfl, hb, (Array.getElem?_eq_some_iff.1 hg).1⟩

/-- A slice value of n bytes reads as the list xs. -/
def RB (w : World) (A : Option Addr) (n : Nat) (xs : List Int) : Prop :=
  xs.length = n ∧ (0 < n → ∃ b off, A = some ⟨b, off, none⟩ ∧ b < w.heap.size ∧ ∀ i, i < n → w.cell? ⟨b, off + i, none⟩ = some (.int .u8 (xs.getD i 0))) ∧ (∀ i, 0 ≤ xs.getD i 0 ∧ xs.getD i 0 ≤ 255)

theorem RB.nothing (w : World) (A : Option Addr) : RB w A 0 [] := ⟨rfl, fun h => absurd h (by omega), fun i => by simp⟩

theorem RB.cut1 {w : World} {b off n : Nat} {xs : List Int} (h : RB w (some ⟨b, off, none⟩) n xs) (hn : 1 ≤ n) : RB w (some ⟨b, off + 1, none⟩) (n - 1) xs.tail := by
  obtain ⟨h1, h2, h3⟩ := h
  refine ⟨by rw [List.length_tail, h1], fun hp => ?_, fun i => ?_⟩
  · obtain ⟨b', off', he, hb, hc⟩ := h2 (by omega)
    injection he with he
    injection he with e1 e2
    subst e1 e2
    refine ⟨b, off + 1, rfl, hb, fun i hi => ?_⟩
    have := hc (i + 1) (by omega)
    rw [show off + 1 + i = off + (i + 1) by omega, this]
    simp [List.getD]
  · have := h3 (i + 1)
    simpa [List.getD] using this

theorem RB.below {w w' : World} {A : Option Addr} {n : Nat} {xs : List Int} (h : RB w A n xs) (hb : Below w.heap.size w w') : RB w' A n xs :=
  ⟨h.1, fun hp => by
    obtain ⟨b, off, e, hlt, hc⟩ := h.2.1 hp
    exact ⟨b, off, e, by have := hb.size; omega, fun i hi => (hb.cell hlt).trans (hc i hi)⟩, h.2.2⟩

theorem RB.short {w : World} {A : Option Addr} {n m : Nat} {xs : List Int} (h : RB w A n xs) (hm : m ≤ n) : RB w A m (xs.take m) :=
  ⟨by rw [List.length_take, h.1]; omega, fun hp => by
    obtain ⟨b, off, e, hlt, hc⟩ := h.2.1 (by omega)
    exact ⟨b, off, e, hlt, fun i hi => by rw [hc i (by omega)]; simp [List.getD, hi]⟩, fun i => by
    by_cases hi : i < m
    · have := h.2.2 i
      simpa [List.getD, hi] using this
    · simp [List.getD, List.getElem?_take, hi]⟩

theorem rb_new (w : World) (t : TypeId) (xs : List Int) (n : Nat) (hn : xs.length = n) (hb : ∀ i, 0 ≤ xs.getD i 0 ∧ xs.getD i 0 ≤ 255) : RB (w.alloc (.cells (u8s xs).toArray t)) (some ⟨w.heap.size, 0, none⟩) n xs := by
  refine ⟨hn, fun h => ⟨w.heap.size, 0, rfl, by simp, fun i hi => ?_⟩, hb⟩
  simp [World.cell?_alloc_at, u8s, List.getD, show i < xs.length by omega]

/-- A slice of bytes that came in reads as a list. -/
theorem rb_of_row {w : World} {a : Option Addr} {len cap : Nat} {zs : List Int} (h : IsRow .u8 w a len cap zs) : RB w a len (zs.take len) ∧ len ≤ cap ∧ cap ≤ 9223372036854775807 := by
  rcases h with ⟨rfl, rfl, rfl, rfl⟩ | ⟨x, rfl, hl, hm, hz, hcell, hwz⟩
  · exact ⟨RB.nothing _ _, by omega, by omega⟩
  · refine ⟨⟨by rw [List.length_take]; omega, fun hp => ?_, fun i => ?_⟩, hl, by unfold maxLen at hm; omega⟩
    · obtain ⟨b, off, spot⟩ := x
      have hc := hcell 0 (by omega)
      have hspot : spot = none := by simpa [Addr.add] using World.cell?_spot hc
      subst hspot
      refine ⟨b, off, rfl, ?_, fun i hi => ?_⟩
      · simpa [Addr.add] using World.block_lt_of_cell? w _ hc
      · have := hcell i (by omega)
        rw [Addr.add_lit] at this
        rw [this]
        simp [List.getD, hi]
    · by_cases hi : i < (zs.take len).length
      · have hm : (zs.take len).getD i 0 ∈ zs := by
          simp only [List.getD, List.getElem?_eq_getElem hi, Option.getD_some]
          exact List.mem_of_mem_take (List.getElem_mem hi)
        exact bounds_u8 (hwz _ hm)
      · simp only [List.getD, List.getElem?_eq_none (show (zs.take len).length ≤ i by omega), Option.getD_none]
        omega

/-- What is owned reads as a list. -/
theorem rb_of_own {w : World} {B : Nat} {A : Option Addr} {c : Nat} {l : List Int} {n : Nat} (h : w.ownsRow B 5 1 (.slice A n c) n (u8s l)) (hb : ∀ x ∈ l, 0 ≤ x ∧ x ≤ 255) :
    RB w A n l ∧ n ≤ c ∧ c ≤ 9223372036854775807 := by
  have hn : l.length = n := by have := h.1; simpa [u8s] using this
  have hd : ∀ i, 0 ≤ l.getD i 0 ∧ l.getD i 0 ≤ 255 := fun i => by
    by_cases hi : i < l.length
    · simp only [List.getD, List.getElem?_eq_getElem hi, Option.getD_some]
      exact hb _ (List.getElem_mem hi)
    · simp [List.getD, List.getElem?_eq_none (show l.length ≤ i by omega)]
  rcases h.2 with ⟨he, hz⟩ | ⟨g, cap, cur, he, _, hg, hnc, hm, _, _⟩
  · injection he with e1 e2 e3
    subst e1 e3
    exact ⟨⟨hn, fun hp => absurd hp (by omega), hd⟩, by omega, by omega⟩
  · injection he with e1 e2 e3
    subst e1 e3
    refine ⟨⟨hn, fun hp => ⟨g, 0, rfl, (Array.getElem?_eq_some_iff.1 hg).1, fun i hi => ?_⟩, hd⟩, hnc, by unfold maxLen at hm; omega⟩
    have := h.cells (g := g) rfl i (.int .u8 (l.getD i 0)) (by simp [u8s, List.getD, hn, hi])
    rwa [Addr.add_lit] at this

/-- append of what reads as a list of bytes onto a slice of the call's own. -/
theorem wpList_append_rb {P : Program} (w : World) {ops : Array Oper} {rest : List Oper} {o : Oper} {a : Act} {Q : Exit → Act → World → Prop} (hgd : o.guard = none) (s x : Operand) (t : TypeId)
    (ho : o.op = .call { callee := .builtin .append, args := #[s, x], argTypes := #[t, t] })
    (base : Nat) (e : TypeId) (i : TypeInfo) (ht : P.underlying t = some (.slice e)) (hi : P.info? e = some i) (hz : i.zero = some (.int .u8 0)) (hsize : i.size = 1) (hby : i.bytes = 1)
    (v : Value) (xs : List Int) (hs : a.eval s = v) (hown : w.ownsRow base e 1 v xs.length (u8s xs))
    (A : Option Addr) (m c : Nat) (ys : List Int) (hx : a.eval x = .slice A m c) (hr : RB w A m ys)
    (hnil : A = none → m = 0 ∧ c = 0) (h63 : xs.length + m ≤ 1000000) (hbase : base ≤ w.heap.size)
    (h : ∀ v' w', w'.ownsRow base e 1 v' (xs ++ ys).length (u8s (xs ++ ys)) → w.grownBy w' v.ownBlock → wpList P ops Q rest (a.put o.dst v') w') : wpList P ops Q (o :: rest) a w := by
  have hl := hr.1
  cases A with
  | none =>
    obtain ⟨rfl, rfl⟩ := hnil rfl
    have : ys = [] := List.eq_nil_of_length_eq_zero hl
    subst this
    refine wpList_append_own_none hgd s x t ho base e i 1 ht hi v _ _ hs hown hx (h v w (by simpa using hown) ⟨rfl, rfl, rfl, Nat.le_refl _, fun _ _ _ => rfl⟩)
  | some ad =>
    refine wpList_append_own _ hgd s x t ho base e i (.int .u8 0) 1 1 ht hi hz hsize hby rfl (by decide) v _ _ hs hown ad m c (u8s ys) hx (by simp [u8s, hl]) (fun j u hj => ?_) (ints_oneCell _ _) (by unfold maxLen; omega) (by omega) hbase (fun v' w' h1 h2 _ => h v' w' ?_ h2)
    · have hj' : j < m := by
        have := (List.getElem?_eq_some_iff.1 hj).1
        simpa [u8s, hl] using this
      obtain ⟨b, off, he, _, hc⟩ := hr.2.1 (by omega)
      obtain rfl := Option.some.inj he
      rw [Addr.add_lit, hc j hj']
      rw [← hj]
      simp [u8s, List.getD, show j < ys.length by omega]
    · rw [List.length_append, hl, show u8s (xs ++ ys) = u8s xs ++ u8s ys by simp [u8s]]
      exact h1

theorem own_below' {B B' : Nat} {e : TypeId} {size n : Nat} {v : Value} {xs : List Value} {w w' W : World} (h : W.ownsRow B e size v n xs) (hb : Below B' w W) (hB : B' ≤ B) (hB2 : B' ≤ w.heap.size) (hg : W.grownBy w' v.ownBlock) : Below B' w w' :=
  hb.grown hg (by have := hb.size; omega) fun k hk => Nat.le_trans hB (h.lt k hk).1
theorem own_base {w : World} {B B' : Nat} {e : TypeId} {size n : Nat} {v : Value} {xs : List Value} (h : w.ownsRow B e size v n xs) (hB : B' ≤ B) : w.ownsRow B' e size v n xs := by
  refine ⟨h.1, ?_⟩
  rcases h.2 with h' | ⟨g, cap, cur, a, b, c⟩
  · exact .inl h'
  · exact .inr ⟨g, cap, cur, a, Nat.le_trans hB b, c⟩
theorem own_drewN {w : World} {B : Nat} {e : TypeId} {size n : Nat} {v : Value} {xs : List Value} (h : w.ownsRow B e size v n xs) (k : Nat) : (w.drewN k).ownsRow B e size v n xs := h
theorem own_kb {S : Nat → Prop} {w w' : World} {B : Nat} {e : TypeId} {s n : Nat} {v : Value} {xs : List Value} (h : w.ownsRow B e s v n xs) (hk : KB S w w') (hs : ∀ k, B ≤ k → ¬ S k) : w'.ownsRow B e s v n xs := by
  refine ⟨h.1, ?_⟩
  rcases h.2 with h' | ⟨g, cap, cur, a, b, c, d⟩
  · exact .inl h'
  · exact .inr ⟨g, cap, cur, a, b, (hk.block g (Array.getElem?_eq_some_iff.1 c).1 (hs g b)).trans c, d⟩
theorem RB.kb {S : Nat → Prop} {w w' : World} {A : Option Addr} {n : Nat} {xs : List Int} (h : RB w A n xs) (hk : KB S w w') (hs : 0 < n → ∀ a, A = some a → ¬ S a.block) : RB w' A n xs :=
  ⟨h.1, fun hp => by
    obtain ⟨b, off, e, hlt, hc⟩ := h.2.1 hp
    exact ⟨b, off, e, by have := hk.size; omega, fun i hi => (hk.cell (p := ⟨b, off + i, none⟩) hlt (show ¬ S b from hs hp ⟨b, off, none⟩ e)).trans (hc i hi)⟩, h.2.2⟩

/-- string(v) of a slice that reads as a list. -/
theorem rb_string {w : World} {A : Option Addr} {n : Nat} {xs : List Int} (cap : Nat) (h : RB w A n xs) :
    (convert 25 9 (.slice A n cap)).run Try.prog w = .ok (.string (strOfNums xs)) w := by
  by_cases hn : n = 0
  · subst hn
    have : xs = [] := List.eq_nil_of_length_eq_zero h.1
    subst this
    rw [run_convert_bytes_string w 25 9 5 _ 0 cap Try.underlying25 Try.underlying5 Try.underlying9]
    cases A <;> simp [Conv.bytesToString, loadCells, strOfNums] <;> rfl
  · obtain ⟨b, off, rfl, _, hc⟩ := h.2.1 (by omega)
    exact run_convert_bytes_arg w 25 5 Try.underlying25 Try.underlying5 b off n cap xs h.1 hc 9 Try.underlying9

/-- A slice of integers reads as a list. -/
def RL (q : IntKind) (w : World) (A : Option Addr) (n : Nat) (xs : List Int) : Prop :=
  xs.length = n ∧ (0 < n → ∃ b off, A = some ⟨b, off, none⟩ ∧ b < w.heap.size ∧ ∀ i, i < n → w.cell? ⟨b, off + i, none⟩ = some (.int q (xs.getD i 0)))
theorem RL.below {q : IntKind} {w w' : World} {A : Option Addr} {n : Nat} {xs : List Int} (h : RL q w A n xs) (hb : Below w.heap.size w w') : RL q w' A n xs :=
  ⟨h.1, fun hp => by
    obtain ⟨b, off, e, hlt, hc⟩ := h.2 hp
    exact ⟨b, off, e, by have := hb.size; omega, fun i hi => (hb.cell hlt).trans (hc i hi)⟩⟩
theorem RL.cut {q : IntKind} {w : World} {b off n k : Nat} {xs : List Int} (h : RL q w (some ⟨b, off, none⟩) n xs) (hk : k ≤ n) : RL q w (some ⟨b, off + k, none⟩) (n - k) (xs.drop k) :=
  ⟨by rw [List.length_drop, h.1], fun hp => by
    obtain ⟨b', off', e, hlt, hc⟩ := h.2 (by omega)
    obtain ⟨rfl, rfl⟩ : b = b' ∧ off = off' := by injection e with e; injection e with e1 e2; exact ⟨e1, e2⟩
    refine ⟨b, off + k, rfl, hlt, fun i hi => ?_⟩
    have := hc (k + i) (by omega)
    rw [Nat.add_assoc, this]
    simp [List.getD]⟩
theorem RL.nothing (q : IntKind) (w : World) (A : Option Addr) : RL q w A 0 [] := ⟨rfl, fun h => absurd h (by omega)⟩
theorem rl_of_own {q : IntKind} {t : TypeId} {w : World} {B : Nat} {A : Option Addr} {c : Nat} {l : List Int} {n : Nat} (h : w.ownsRow B t 1 (.slice A n c) n (l.map (Value.int q))) :
    RL q w A n l ∧ n ≤ c ∧ c ≤ 9223372036854775807 := by
  have hn : l.length = n := by have := h.1; simpa using this
  rcases h.2 with ⟨he, hz⟩ | ⟨g, cap, cur, he, _, hg, hnc, hm, _, _⟩
  · injection he with e1 e2 e3
    subst e1 e3
    exact ⟨⟨hn, fun hp => absurd hp (by omega)⟩, by omega, by omega⟩
  · injection he with e1 e2 e3
    subst e1 e3
    refine ⟨⟨hn, fun hp => ⟨g, 0, rfl, (Array.getElem?_eq_some_iff.1 hg).1, fun i hi => ?_⟩⟩, hnc, by unfold maxLen at hm; omega⟩
    have := h.cells (g := g) rfl i (.int q (l.getD i 0)) (by simp [List.getD, hn, hi])
    rwa [Addr.add_lit] at this
theorem RB.rl {w : World} {A : Option Addr} {n : Nat} {xs : List Int} (h : RB w A n xs) : RL .u8 w A n xs := ⟨h.1, h.2.1⟩
end Go.Proofs.Ytfcokhdkjoimmaa
