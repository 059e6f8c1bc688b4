/-
  LifePriority: two lists of events that grow side by side, and the parts of a list.
-/
import Derived.Test.YtpjggodcepiagaaLfMem
import Derived.Test.YtpjggodcepiagaaLifePriorityMath
import Derived.Deep.AppendLies
namespace Go.Proofs.Ytpjggodcepiagaa.lifePriority
set_option linter.unusedSimpArgs false
set_option linter.unusedVariables false
open Go.RowKit

/-- Two rows of the call's own, in blocks of their own. -/
structure LpR (g : Nat) (w W : World) (va vm : Value) (na nm : Nat) (xa xm : List Ev) : Prop where
  bel : Below g w W
  size : g ≤ W.heap.size
  oa : W.ownsRow g 30 2 va na (ecs xa)
  om : W.ownsRow g 30 2 vm nm (ecs xm)
  ap : ∀ x, va.ownBlock = some x → vm.ownBlock ≠ some x
/-- An event in a block that is neither's. -/
structure Elt (W : World) (va vm : Value) (h : Nat) (k : Int) (b : Bool) : Prop where
  blk : BlkIs W h 30 #[.int .u8 k, .bool b]
  na : va.ownBlock ≠ some h
  nm : vm.ownBlock ≠ some h
section
variable {g : Nat} {w W W' : World} {va vm : Value} {na nm : Nat} {xa xm : List Ev}
theorem LpR.drew (h : LpR g w W va vm na nm xa xm) : LpR g w W.drew va vm na nm xa xm := ⟨h.bel.drew, h.size, h.oa, h.om, h.ap⟩
theorem LpR.alloc (h : LpR g w W va vm na nm xa xm) (o : Obj) : LpR g w (W.alloc o) va vm na nm xa xm :=
  ⟨h.bel.alloc h.size o, by rw [World.size_alloc]; have := h.size; omega, h.oa.alloc o, h.om.alloc o, h.ap⟩
theorem Elt.drew {h : Nat} {k : Int} {b : Bool} (e : Elt W va vm h k b) : Elt W.drew va vm h k b := ⟨e.blk, e.na, e.nm⟩
theorem Elt.alloc {h : Nat} {k : Int} {b : Bool} (e : Elt W va vm h k b) (o : Obj) : Elt (W.alloc o) va vm h k b := ⟨e.blk.alloc o, e.na, e.nm⟩
theorem Elt.new (h : LpR g w W va vm na nm xa xm) (k : Int) (b : Bool) : Elt (W.alloc (.cells #[.int .u8 k, .bool b] 30)) va vm W.heap.size k b :=
  ⟨BlkIs.new W _ _, fun e => by have := (h.oa.lt _ e).2; omega, fun e => by have := (h.om.lt _ e).2; omega⟩
theorem LpR.start (w : World) : LpR w.heap.size w w (.slice none 0 0) (.slice none 0 0) 0 0 [] [] :=
  ⟨Below.refl _ _, Nat.le_refl _, World.ownsRow_nil _ _ _ _, World.ownsRow_nil _ _ _ _, fun x e => by simp [Value.ownBlock] at e⟩
theorem own_side {W W' : World} {g n s : Nat} {e : TypeId} {u v : Value} {xs : List Value} (h : W.ownsRow g e s u n xs) (hg : W.grownBy W' v.ownBlock) (hne : ∀ x, v.ownBlock = some x → u.ownBlock ≠ some x) : W'.ownsRow g e s u n xs := by
  refine h.kept hg ?_
  cases hv : v.ownBlock with
  | none => cases hu : u.ownBlock <;> simp
  | some y => exact .inr (hne y hv)
/-- The first row grew. -/
theorem LpR.growA (h : LpR g w W va vm na nm xa xm) {x cap n' : Nat} {ys : List Ev} (hg : W.grownBy W' va.ownBlock) (ho : W'.ownsRow g 30 2 (.slice (some ⟨x, 0, none⟩) n' cap) n' (ecs ys)) (hx : va.ownBlock = some x ∨ x = W.heap.size) :
    LpR g w W' (.slice (some ⟨x, 0, none⟩) n' cap) vm n' nm ys xm := by
  refine ⟨h.bel.grown hg h.size fun k hk => (h.oa.lt k hk).1, Nat.le_trans h.size hg.size, ho, own_side h.om hg h.ap, fun y e => ?_⟩
  simp only [Value.ownBlock, Option.some.injEq] at e
  subst e
  rcases hx with hx | hx
  · exact h.ap _ hx
  · intro e
    have := (h.om.lt _ e).2
    omega
/-- The second row grew. -/
theorem LpR.growM (h : LpR g w W va vm na nm xa xm) {x cap n' : Nat} {ys : List Ev} (hg : W.grownBy W' vm.ownBlock) (ho : W'.ownsRow g 30 2 (.slice (some ⟨x, 0, none⟩) n' cap) n' (ecs ys)) (hx : vm.ownBlock = some x ∨ x = W.heap.size) :
    LpR g w W' va (.slice (some ⟨x, 0, none⟩) n' cap) na n' xa ys := by
  refine ⟨h.bel.grown hg h.size fun k hk => (h.om.lt k hk).1, Nat.le_trans h.size hg.size, own_side h.oa hg (fun y e e' => h.ap y e' e), ho, fun y e => ?_⟩
  simp only [Value.ownBlock, Option.some.injEq, ne_eq]
  rintro rfl
  rcases hx with hx | hx
  · exact h.ap _ e hx
  · have := (h.oa.lt _ e).2
    omega
theorem Elt.growA (h : LpR g w W va vm na nm xa xm) {a : Nat} {k : Int} {b : Bool} (e : Elt W va vm a k b) {x cap n' : Nat} (hg : W.grownBy W' va.ownBlock) (hx : va.ownBlock = some x ∨ x = W.heap.size) : Elt W' (.slice (some ⟨x, 0, none⟩) n' cap) vm a k b := by
  refine ⟨e.blk.grown hg (fun q => e.na q.symm), ?_, e.nm⟩
  simp only [Value.ownBlock, ne_eq, Option.some.injEq]
  rintro rfl
  rcases hx with hx | hx
  · exact e.na hx
  · have := e.blk.lt
    omega
theorem Elt.growM (h : LpR g w W va vm na nm xa xm) {a : Nat} {k : Int} {b : Bool} (e : Elt W va vm a k b) {x cap n' : Nat} (hg : W.grownBy W' vm.ownBlock) (hx : vm.ownBlock = some x ∨ x = W.heap.size) : Elt W' va (.slice (some ⟨x, 0, none⟩) n' cap) a k b := by
  refine ⟨e.blk.grown hg (fun q => e.nm q.symm), e.na, ?_⟩
  simp only [Value.ownBlock, ne_eq, Option.some.injEq]
  rintro rfl
  rcases hx with hx | hx
  · exact e.nm hx
  · have := e.blk.lt
    omega
end
/-- append of one event, in a straight region. -/
theorem wpList_append_ev (w : World) {ops : Array Oper} {rest : List Oper} {o : Oper} {a : Act} {Q : Exit → Act → World → Prop} (hgd : o.guard = none) (s x : Operand)
    (ho : o.op = .call { callee := .builtin .append, args := #[s, x], argTypes := #[40, 40] })
    (base : Nat) (v : Value) (n : Nat) (xs : List Ev) (hs : a.eval s = v) (hown : w.ownsRow base 30 2 v n (ecs xs))
    (h : Nat) (k : Int) (b : Bool) (hx : a.eval x = .slice (some ⟨h, 0, none⟩) 1 1) (hk : BlkIs w h 30 #[.int .u8 k, .bool b])
    (h63 : n + 1 ≤ 1000000) (hbase : base ≤ w.heap.size)
    (hh : ∀ g cap w', w'.ownsRow base 30 2 (.slice (some ⟨g, 0, none⟩) (n + 1) cap) (n + 1) (ecs (xs ++ [⟨k, b⟩])) → w.grownBy w' v.ownBlock → (v.ownBlock = some g ∨ g = w.heap.size) → wpList Try.prog ops Q rest (a.put o.dst (.slice (some ⟨g, 0, none⟩) (n + 1) cap)) w') :
    wpList Try.prog ops Q (o :: rest) a w := by
  obtain ⟨i0, hi0, hz0, hz1, hz2⟩ := info_parts ev_info
  refine wpList_append_lies w hgd s x _ ho base _ i0 _ 2 2 Try.underlying40 hi0 hz0 hz1 hz2 rfl (by omega) v n (ecs xs) hs hown ⟨h, 0, none⟩ 1 1 [.int .u8 k, .bool b] hx rfl (World.news_of_block (cs := #[.int .u8 k, .bool b]) hk) (by simp [Value.oneCell']) (by omega) (by unfold maxLen; omega) (by omega) hbase _ rfl ?_
  intro g cap w' h2 h3 h4 _
  exact hh g cap w' (by rw [ecs_append]; exact h2) h3 h4
/-- And in a drawn one. -/
theorem step_append_ev (w : World) {ops : Array Oper} {o : Oper} {a : Act} {K : Act → World → Prop} {Q : Exit → Act → World → Prop} {E : Prop} (hgd : o.guard = none) (s x : Operand)
    (ho : o.op = .call { callee := .builtin .append, args := #[s, x], argTypes := #[40, 40] })
    (base : Nat) (v : Value) (n : Nat) (xs : List Ev) (hs : a.eval s = v) (hown : w.ownsRow base 30 2 v n (ecs xs))
    (h : Nat) (k : Int) (b : Bool) (hx : a.eval x = .slice (some ⟨h, 0, none⟩) 1 1) (hk : BlkIs w h 30 #[.int .u8 k, .bool b])
    (h63 : n + 1 ≤ 1000000) (hbase : base ≤ w.heap.size)
    (hh : ∀ g cap w', w'.ownsRow base 30 2 (.slice (some ⟨g, 0, none⟩) (n + 1) cap) (n + 1) (ecs (xs ++ [⟨k, b⟩])) → w.grownBy w' v.ownBlock → (v.ownBlock = some g ∨ g = w.heap.size) → K (a.put o.dst (.slice (some ⟨g, 0, none⟩) (n + 1) cap)) w') :
    if Region.wanted o (yielded ops a.tmps) = true then Oper.wp Try.prog o a w K Q else E := by
  obtain ⟨i0, hi0, hz0, hz1, hz2⟩ := info_parts ev_info
  refine step_append_lies w hgd s x _ ho base _ i0 _ 2 2 Try.underlying40 hi0 hz0 hz1 hz2 rfl (by omega) v n (ecs xs) hs hown ⟨h, 0, none⟩ 1 1 [.int .u8 k, .bool b] hx rfl (World.news_of_block (cs := #[.int .u8 k, .bool b]) hk) (by simp [Value.oneCell']) (by omega) (by unfold maxLen; omega) (by omega) hbase _ rfl ?_
  intro g cap w' h2 h3 h4 _
  exact hh g cap w' (by rw [ecs_append]; exact h2) h3 h4

theorem ev_size2 : (Try.prog.info? (Try.prog.elem 40)).map (·.size) = some 2 := by kernel_rfl
theorem ev_under : Try.prog.underlying 40 = some (.slice (Try.prog.elem 40)) := by kernel_rfl
theorem el_nothing {w : World} {A : Option Addr} {c : Nat} (hn : A = none → c = 0) (hm : c ≤ maxLen) : EL w A 0 c [] := ⟨rfl, Nat.zero_le _, hm, hn, fun k p h => by simp at h⟩
/-- l[:k]. -/
theorem slice_head {w : World} {A : Option Addr} {n c : Nat} {l : List Ev} (h : EL w A n c l) (k : Nat) (hk : k ≤ n) :
    (∀ w', (Instr.slice 40 (.slice A n c) none (some (.int .i64 (k : Int))) none).run Try.prog w' = .ok (.slice A k c) w') ∧ EL w A k c (l.take k) := by
  have hle := h.le
  refine ⟨fun w' => ?_, ?_⟩
  · rw [run_slice_h w' 40 A n c ev_under .i64 (k : Int) (by omega) (by omega), run_size_is ev_size2]
    simp only [sliced, Nat.zero_mul, Nat.sub_zero, Int.toNat_zero, Int.toNat_natCast]
    cases A with
    | none => simp
    | some a =>
      have ha : a.add 0 = a := by obtain ⟨b, off, sp⟩ := a; unfold Addr.add; cases sp <;> simp
      simp [ha]
  · refine ⟨by rw [List.length_take, h.len]; omega, by omega, h.max, h.nil_, fun j p hp => ?_⟩
    rw [List.getElem?_take] at hp
    split at hp
    · exact h.at_ j p hp
    · cases hp
/-- l[k:]. -/
theorem slice_tail {w : World} {A : Option Addr} {n c : Nat} {l : List Ev} (h : EL w A n c l) (k : Nat) (hk : k ≤ n) :
    ∃ Q c', (∀ w', (Instr.slice 40 (.slice A n c) (some (.int .i64 (k : Int))) none none).run Try.prog w' = .ok (.slice Q (n - k) c') w') ∧ EL w Q (n - k) c' (l.drop k) := by
  have hle := h.le
  have hmx := h.max
  have hr : ∀ w', (Instr.slice 40 (.slice A n c) (some (.int .i64 (k : Int))) none none).run Try.prog w' = .ok (sliced A k n c 2) w' := by
    intro w'
    rw [run_slice_l w' 40 A n c ev_under .i64 (k : Int) (by omega) (by omega), run_size_is ev_size2]
    rfl
  by_cases he : n = k
  · subst he
    have hx : l.drop n = [] := List.drop_eq_nil_of_le (by rw [h.len]; exact Nat.le_refl _)
    rw [hx, Nat.sub_self]
    cases A with
    | none =>
      have := h.nil_ rfl
      subst this
      have : n = 0 := by omega
      subst this
      exact ⟨none, 0, fun w' => by rw [hr w']; rfl, EL.none_ _⟩
    | some a =>
      by_cases hcm : c = n
      · exact ⟨some a, 0, fun w' => by rw [hr w']; simp [sliced, hcm], el_nothing (fun e => by cases e) (Nat.zero_le _)⟩
      · exact ⟨some (a.add (n * 2)), c - n, fun w' => by rw [hr w']; simp [sliced, hcm], el_nothing (fun e => by cases e) (by omega)⟩
  · obtain ⟨b, off, rfl, _, _⟩ := h.at_ 0 (l[0]'(by rw [h.len]; omega)) (List.getElem?_eq_getElem _)
    have hcm : ¬ c = k := by omega
    refine ⟨some ⟨b, off + k * 2, none⟩, c - k, fun w' => by rw [hr w']; simp [sliced, hcm, Addr.add], ⟨by rw [List.length_drop, h.len], by omega, by omega, (fun e => by cases e), fun j p hp => ?_⟩⟩
    rw [List.getElem?_drop] at hp
    obtain ⟨b', off', e, hlt, q0, q1⟩ := h.at_ (k + j) p hp
    injection e with e
    injection e with e1 e2
    subst e1 e2
    refine ⟨b, off + k * 2, rfl, hlt, ?_, ?_⟩
    · rw [← q0]; congr 2; omega
    · rw [← q1]; congr 2; omega
end Go.Proofs.Ytpjggodcepiagaa.lifePriority
