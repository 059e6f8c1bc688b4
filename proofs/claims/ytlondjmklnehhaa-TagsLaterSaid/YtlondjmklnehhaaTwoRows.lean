/-
  Two rows of a call's own that grow side by side, and variables that are neither's. Any program, any shapes.
-/
import Derived.Test.YtlondjmklnehhaaShape
import Derived.Deep.AppendLies
namespace Go.Proofs.Ytlondjmklnehhaa
set_option linter.unusedSimpArgs false
set_option linter.unusedVariables false
open Go.RowKit

section
variable {α β : Type} {F : Shp α} {G : Shp β}
/-- Two rows of the call's own, in blocks of their own. -/
structure TwR (F : Shp α) (G : Shp β) (E D : TypeId) (g : Nat) (w W : World) (va vm : Value) (na nm : Nat) (xa : List α) (xm : List β) : Prop where
  bel : Below g w W
  size : g ≤ W.heap.size
  oa : W.ownsRow g E F.k va na (flc F xa)
  om : W.ownsRow g D G.k vm nm (flc G xm)
  ap : ∀ x, va.ownBlock = some x → vm.ownBlock ≠ some x
/-- A variable that is neither's. -/
structure Apt (W : World) (va vm : Value) (h : Nat) (T : TypeId) (cs : Array Value) : Prop where
  blk : BlkIs W h T cs
  na : va.ownBlock ≠ some h
  nm : vm.ownBlock ≠ some h
variable {E D : TypeId} {g : Nat} {w W W' : World} {va vm : Value} {na nm : Nat} {xa : List α} {xm : List β}
theorem TwR.start (w : World) : TwR F G E D w.heap.size w w (.slice none 0 0) (.slice none 0 0) 0 0 [] [] :=
  ⟨Below.refl _ _, Nat.le_refl _, World.ownsRow_nil _ _ _ _, World.ownsRow_nil _ _ _ _, fun x e => by simp [Value.ownBlock] at e⟩
theorem TwR.keep (h : TwR F G E D g w W va vm na nm xa xm) (hb : Below W.heap.size W W') : TwR F G E D g w W' va vm na nm xa xm :=
  ⟨h.bel.trans (hb.mono h.size), Nat.le_trans h.size hb.size, own_low h.oa hb, own_low h.om hb, h.ap⟩
theorem TwR.drew (h : TwR F G E D g w W va vm na nm xa xm) : TwR F G E D g w W.drew va vm na nm xa xm := ⟨h.bel.drew, h.size, h.oa, h.om, h.ap⟩
theorem TwR.alloc (h : TwR F G E D g w W va vm na nm xa xm) (o : Obj) : TwR F G E D g w (W.alloc o) va vm na nm xa xm :=
  ⟨h.bel.alloc h.size o, by rw [World.size_alloc]; have := h.size; omega, h.oa.alloc o, h.om.alloc o, h.ap⟩
/-- A cell of a variable that is neither's is stored. -/
theorem TwR.put (h : TwR F G E D g w W va vm na nm xa xm) {x : Nat} {T : TypeId} {cs : Array Value} (e : Apt W va vm x T cs) (hg : g ≤ x) (i : Nat) (u : Value) : TwR F G E D g w (W.setCell ⟨x, i, none⟩ u) va vm na nm xa xm := by
  have hk : KB (· = x) W (W.setCell ⟨x, i, none⟩ u) := (KB.refl (· = x) W).setCell (p := ⟨x, i, none⟩) (fun _ => rfl) u
  exact ⟨h.bel.setCell (p := ⟨x, i, none⟩) hg u, Nat.le_trans h.size hk.size, own_kbx h.oa hk (.inr e.na), own_kbx h.om hk (.inr e.nm), h.ap⟩
theorem Apt.keep {h : Nat} {T : TypeId} {cs : Array Value} (e : Apt W va vm h T cs) (hb : Below W.heap.size W W') : Apt W' va vm h T cs := ⟨e.blk.keep hb, e.na, e.nm⟩
theorem Apt.drew {h : Nat} {T : TypeId} {cs : Array Value} (e : Apt W va vm h T cs) : Apt W.drew va vm h T cs := ⟨e.blk, e.na, e.nm⟩
theorem Apt.alloc {h : Nat} {T : TypeId} {cs : Array Value} (e : Apt W va vm h T cs) (o : Obj) : Apt (W.alloc o) va vm h T cs := ⟨e.blk.alloc o, e.na, e.nm⟩
theorem Apt.new (h : TwR F G E D g w W va vm na nm xa xm) (T : TypeId) (cs : Array Value) : Apt (W.alloc (.cells cs T)) va vm W.heap.size T cs :=
  ⟨BlkIs.new W _ _, fun e => by have := (h.oa.lt _ e).2; omega, fun e => by have := (h.om.lt _ e).2; omega⟩
theorem own_sideS {W W' : World} {g n s : Nat} {e : TypeId} {u v : Value} {xs : List Value} (h : W.ownsRow g e s u n xs) (hg : W.grownBy W' v.ownBlock) (hne : ∀ x, v.ownBlock = some x → u.ownBlock ≠ some x) : W'.ownsRow g e s u n xs := by
  refine h.kept hg ?_
  cases hv : v.ownBlock with
  | none => cases hu : u.ownBlock <;> simp
  | some y => exact .inr (hne y hv)
/-- The first row grew. -/
theorem TwR.growA (h : TwR F G E D g w W va vm na nm xa xm) {x cap n' : Nat} {ys : List α} (hg : W.grownBy W' va.ownBlock) (ho : W'.ownsRow g E F.k (.slice (some ⟨x, 0, none⟩) n' cap) n' (flc F ys)) (hx : va.ownBlock = some x ∨ x = W.heap.size) :
    TwR F G E D g w W' (.slice (some ⟨x, 0, none⟩) n' cap) vm n' nm ys xm := by
  refine ⟨h.bel.grown hg h.size fun k hk => (h.oa.lt k hk).1, Nat.le_trans h.size hg.size, ho, own_sideS h.om hg h.ap, fun y e => ?_⟩
  simp only [Value.ownBlock, Option.some.injEq] at e
  subst e
  rcases hx with hx | hx
  · exact h.ap _ hx
  · intro e
    have := (h.om.lt _ e).2
    omega
/-- The second row grew. -/
theorem TwR.growM (h : TwR F G E D g w W va vm na nm xa xm) {x cap n' : Nat} {ys : List β} (hg : W.grownBy W' vm.ownBlock) (ho : W'.ownsRow g D G.k (.slice (some ⟨x, 0, none⟩) n' cap) n' (flc G ys)) (hx : vm.ownBlock = some x ∨ x = W.heap.size) :
    TwR F G E D g w W' va (.slice (some ⟨x, 0, none⟩) n' cap) na n' xa ys := by
  refine ⟨h.bel.grown hg h.size fun k hk => (h.om.lt k hk).1, Nat.le_trans h.size hg.size, own_sideS h.oa hg (fun y e e' => h.ap y e' e), ho, fun y e => ?_⟩
  simp only [Value.ownBlock, Option.some.injEq, ne_eq]
  rintro rfl
  rcases hx with hx | hx
  · exact h.ap _ e hx
  · have := (h.oa.lt _ e).2
    omega
theorem Apt.growA {a : Nat} {T : TypeId} {cs : Array Value} (e : Apt W va vm a T cs) {x cap n' : Nat} (hg : W.grownBy W' va.ownBlock) (hx : va.ownBlock = some x ∨ x = W.heap.size) : Apt W' (.slice (some ⟨x, 0, none⟩) n' cap) vm a T cs := by
  refine ⟨e.blk.grown hg (fun q => e.na q.symm), ?_, e.nm⟩
  simp only [Value.ownBlock, ne_eq, Option.some.injEq]
  rintro rfl
  rcases hx with hx | hx
  · exact e.na hx
  · have := e.blk.lt
    omega
theorem Apt.growM {a : Nat} {T : TypeId} {cs : Array Value} (e : Apt W va vm a T cs) {x cap n' : Nat} (hg : W.grownBy W' vm.ownBlock) (hx : vm.ownBlock = some x ∨ x = W.heap.size) : Apt W' va (.slice (some ⟨x, 0, none⟩) n' cap) a T cs := by
  refine ⟨e.blk.grown hg (fun q => e.nm q.symm), e.na, ?_⟩
  simp only [Value.ownBlock, ne_eq, Option.some.injEq]
  rintro rfl
  rcases hx with hx | hx
  · exact e.nm hx
  · have := e.blk.lt
    omega
/-- append of one element, in a straight region: where the new row lies. -/
theorem wpList_append_one {P : Program} {T : TypeId} (hI : IsS P F T E) (w : World) {ops : Array Oper} {rest : List Oper} {o : Oper} {a : Act} {Q : Exit → Act → World → Prop} (hgd : o.guard = none) (s x : Operand)
    (ho : o.op = .call { callee := .builtin .append, args := #[s, x], argTypes := #[T, T] })
    (base : Nat) (v : Value) (n : Nat) (xs : List α) (hs : a.eval s = v) (hown : w.ownsRow base E F.k v n (flc F xs))
    (h : Nat) (y : α) (hx : a.eval x = .slice (some ⟨h, 0, none⟩) 1 1) (hk : BlkIs w h E (F.f y).toArray)
    (h63 : n + 1 ≤ 1000000) (hbase : base ≤ w.heap.size)
    (hh : ∀ g cap w', w'.ownsRow base E F.k (.slice (some ⟨g, 0, none⟩) (n + 1) cap) (n + 1) (flc F (xs ++ [y])) → w.grownBy w' v.ownBlock → (v.ownBlock = some g ∨ g = w.heap.size) → wpList P ops Q rest (a.put o.dst (.slice (some ⟨g, 0, none⟩) (n + 1) cap)) w') :
    wpList P ops Q (o :: rest) a w := by
  obtain ⟨z, b, hinfo, hz, hb⟩ := hI.info
  obtain ⟨i0, hi0, hz0, hz1, hz2⟩ := info_parts hinfo
  have hbb : (n + 1) * b ≤ 1000000 * 1000 := Nat.mul_le_mul h63 hb
  refine wpList_append_lies w hgd s x _ ho base _ i0 _ F.k b hI.sl hi0 hz0 hz1 hz2 hz F.pos v n (flc F xs) hs hown ⟨h, 0, none⟩ 1 1 (F.f y) hx (by rw [F.len, Nat.one_mul]) (by simpa using World.news_of_block (cs := (F.f y).toArray) hk) (F.one y) (by omega) (by unfold maxLen; omega) (by omega) hbase _ rfl ?_
  intro g cap w' h2 h3 h4 _
  exact hh g cap w' (by rw [flc_append]; simpa [flc] using h2) h3 h4
/-- And in a drawn one. -/
theorem step_append_one {P : Program} {T : TypeId} (hI : IsS P F T E) (w : World) {ops : Array Oper} {o : Oper} {a : Act} {K : Act → World → Prop} {Q : Exit → Act → World → Prop} {X : Prop} (hgd : o.guard = none) (s x : Operand)
    (ho : o.op = .call { callee := .builtin .append, args := #[s, x], argTypes := #[T, T] })
    (base : Nat) (v : Value) (n : Nat) (xs : List α) (hs : a.eval s = v) (hown : w.ownsRow base E F.k v n (flc F xs))
    (h : Nat) (y : α) (hx : a.eval x = .slice (some ⟨h, 0, none⟩) 1 1) (hk : BlkIs w h E (F.f y).toArray)
    (h63 : n + 1 ≤ 1000000) (hbase : base ≤ w.heap.size)
    (hh : ∀ g cap w', w'.ownsRow base E F.k (.slice (some ⟨g, 0, none⟩) (n + 1) cap) (n + 1) (flc F (xs ++ [y])) → w.grownBy w' v.ownBlock → (v.ownBlock = some g ∨ g = w.heap.size) → K (a.put o.dst (.slice (some ⟨g, 0, none⟩) (n + 1) cap)) w') :
    if Region.wanted o (yielded ops a.tmps) = true then Oper.wp P o a w K Q else X := by
  obtain ⟨z, b, hinfo, hz, hb⟩ := hI.info
  obtain ⟨i0, hi0, hz0, hz1, hz2⟩ := info_parts hinfo
  have hbb : (n + 1) * b ≤ 1000000 * 1000 := Nat.mul_le_mul h63 hb
  refine step_append_lies w hgd s x _ ho base _ i0 _ F.k b hI.sl hi0 hz0 hz1 hz2 hz F.pos v n (flc F xs) hs hown ⟨h, 0, none⟩ 1 1 (F.f y) hx (by rw [F.len, Nat.one_mul]) (by simpa using World.news_of_block (cs := (F.f y).toArray) hk) (F.one y) (by omega) (by unfold maxLen; omega) (by omega) hbase _ rfl ?_
  intro g cap w' h2 h3 h4 _
  exact hh g cap w' (by rw [flc_append]; simpa [flc] using h2) h3 h4
end
end Go.Proofs.Ytlondjmklnehhaa
