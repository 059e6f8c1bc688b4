/-
  Layer 15: new lists as they read; a table stored and handed back.
-/
import Derived.Test.YtjjgnhdaaicmeaaIdDel
import Derived.Test.YtjjgnhdaaicmeaaIdCheck
namespace Go.Proofs.Ytjjgnhdaaicmeaa
set_option linter.unusedSimpArgs false
set_option linter.unusedVariables false
open Go.RowKit

theorem NL.alloc {k : IntKind} {w : World} {A : Option Addr} {n c : Nat} {l : List Int} (h : NL k w A n c l) (o : Obj) : NL k (w.alloc o) A n c l := h.keep (bel1 w o)
theorem NL.drop {k : IntKind} {w : World} {b off n c : Nat} {l : List Int} (h : NL k w (some ⟨b, off, none⟩) n c l) {i : Nat} (hi : i ≤ n) : NL k w (some ⟨b, off + i, none⟩) (n - i) (c - i) (l.drop i) :=
  ⟨by rw [List.length_drop, h.len], by have := h.le; omega, by have := h.max; omega, fun j x hj => by
    rw [List.getElem?_drop] at hj
    obtain ⟨b', off', e, hlt, c0, hw⟩ := h.at_ (i + j) x hj
    injection e with e
    injection e with e1 e2
    subst e1 e2
    exact ⟨b, off + i, rfl, hlt, by rw [Nat.add_assoc]; exact c0, hw⟩⟩
/-- A call that answers a list of numbers. -/
def GivesNL (l : List Int) (w : World) (e : Ending) (w' : World) : Prop := (∃ A c, e = .returned (.slice A l.length c) ∧ NL .i64 w' A l.length c l) ∧ Below w.heap.size w w'
theorem GivesRow.nl {l : List Int} {w : World} {e : Ending} {w' : World} (h : GivesRow l w e w') (hw : AllN l) : GivesNL l w e w' := by
  obtain ⟨A, c, rfl, ho, hb⟩ := h
  exact ⟨⟨A, c, rfl, nl_own ho hw⟩, hb⟩
theorem id_Clone2 (A : Option Addr) (n c : Nat) (l : List Int) (w : World) (hl : NL .i64 w A n c l) (hn : (n : Int) ≤ 1000) :
    Calls Try.prog 27 #[.slice A n c] w (GivesNL l w) := (id_Clone A n c l w hl (by omega)).mono fun e w' h => h.nl hl.all
theorem all_snoc {l : List Int} {x : Int} (h : AllN l) (hx : (Lit.int .i64 x).wf = true) : AllN (l ++ [x]) := fun y hy => by
  rcases List.mem_append.1 hy with e | e
  · exact h y e
  · rw [List.mem_singleton.1 e]; exact hx
theorem id_behind2 (A : Option Addr) (n c : Nat) (l : List Int) (x : Int) (w : World) (hl : NL .i64 w A n c l) (hn : (n : Int) ≤ 1000) (hx : (Lit.int .i64 x).wf = true) :
    Calls Try.prog 28 #[.slice A n c, .int .i64 x] w (GivesNL (l ++ [x]) w) := (id_behind A n c l x w hl hn hx).mono fun e w' h => h.nl (all_snoc hl.all hx)
theorem own_base {w : World} {B B' n : Nat} {e : TypeId} {v : Value} {xs : List Value} (h : w.ownsRow B e 1 v n xs) (hB : B' ≤ B) : w.ownsRow B' e 1 v n xs := by
  refine ⟨h.1, ?_⟩
  rcases h.2 with h | ⟨g, cap, cur, rfl, hb, hx⟩
  · exact .inl h
  · exact .inr ⟨g, cap, cur, rfl, Nat.le_trans hB hb, hx⟩

set_option maxRecDepth 100000 in
set_option maxHeartbeats 1600000 in
theorem id_without (A : Option Addr) (n c : Nat) (l : List Int) (id : Int) (w : World) (hl : NL .i64 w A n c l) (hn : (n : Int) ≤ 1000) :
    Calls Try.prog 26 #[.slice A n c, .int .i64 id] w (GivesRow (l.filter (offP id)) w) := by
  have HB1 := hide (bel1 w (.cells #[.int .i64 id] 3))
  have HK := hide (BlkIs.new w 3 #[.int .i64 id])
  have HC := hide (id_Clone A n c l _ (hl.keep HB1.out) (by omega))
  have HALL := hide hl.all
  have HLN := hide (show (l.length : Int) ≤ 1000000 by rw [hl.len]; omega)
  obtain ⟨wb, hwb⟩ : ∃ wb, wb = w.alloc (.cells #[.int .i64 id] 3) := ⟨_, rfl⟩
  have HZ := hide (show wb.heap.size = w.heap.size + 1 by rw [hwb, World.size_alloc])
  rw [← hwb] at HB1 HK HC
  have HWB := hide hwb
  clear hl hwb hn
  go_enter Try.func26, Try.ntmps26
  go_wp2_with fail
  rw [← HWB.out]
  refine HC.out.mono ?_
  rintro e w1 ⟨A1, c1, rfl, ho, hb⟩
  have HD := hide (id_delete A1 l.length c1 l id w.heap.size wb.heap.size w1 ho (HK.out.keep hb) (by rw [HZ.out]; omega) HALL.out HLN.out)
  have HB2 := hide hb
  clear ho hb HC
  go_wp2_with fail
  refine HD.out.mono ?_
  rintro e w2 ⟨rfl, ho2, hb2⟩
  have HO2 := hide ho2
  have HB3 := hide (HB1.out.trans ((HB2.out.trans (hb2.mono (Nat.le_refl _))).mono HB1.out.size))
  clear ho2 hb2 HD
  go_wp2
  go_ret
  exact ⟨A1, c1, rfl, own_base HO2.out (by rw [HZ.out]; omega), HB3.out⟩

/-! ## A table of the program -/
theorem tb_zero : (Try.prog.info? 28).bind (·.zero) = some (.agg #[.int .i64 0, .slice none 0 0, .slice none 0 0]) := by kernel_rfl
theorem tb_size : (Try.prog.info? 28).map (·.size) = some 3 := by kernel_rfl
theorem tb_one (m : Int) (A B : Option Addr) (n c k d : Nat) : (#[Value.int .i64 m, .slice A n c, .slice B k d] : Array Value).all (·.oneCell') = true := by simp [Value.oneCell']
section
variable {ops : Array Oper} {rest : List Oper} {o : Oper} {a : Act} {w : World} {Q : Exit → Act → World → Prop}
/-- A table is stored into a block that is known whole. -/
theorem wpList_tb_blk (hg : o.guard = none) (x y : Operand) (g : Nat) (m : Int) (A B : Option Addr) (n c k d : Nat) (z1 z2 z3 : Value) (ho : o.op = .store 28 x y) (hk : BlkIs w g 28 #[z1, z2, z3])
    (hx : a.eval x = .pointer (some ⟨g, 0, none⟩)) (hy : a.eval y = .agg #[.int .i64 m, .slice A n c, .slice B k d])
    (h : ∀ w', BlkIs w' g 28 #[.int .i64 m, .slice A n c, .slice B k d] → KB (· = g) w w' → wpList Try.prog ops Q rest (a.put o.dst undef) w') : wpList Try.prog ops Q (o :: rest) a w :=
  wpList_store_blk hg _ _ _ ho g #[.int .i64 m, .slice A n c, .slice B k d] #[z1, z2, z3] _ hx hy hk tb_size rfl (tb_one m A B n c k d) (h _ (hk.row _) ((KB.refl (· = g) w).setRow (fun _ => rfl) _))
end
theorem results_tbc {fn : Func} {p u : Tmp} (h : fn.results = #[.cell p 28, .tmp u]) (tmps : Array Value) (w : World) (g : Nat) (s1 s2 s3 : Value)
    (hp : tmps.getD p undef = .pointer (some ⟨g, 0, none⟩)) (hg : BlkIs w g 28 #[s1, s2, s3]) (x : Value) (hv : tmps.getD u undef = x) :
    (results fn tmps).run Try.prog w = .ok (.tuple #[.agg #[s1, s2, s3], x]) w :=
  results_cell_tmp_blk h tmps w g _ _ _ hp hg Try.underlying28 rfl tb_size x hv
theorem results_tb {fn : Func} {p : Tmp} (h : fn.results = #[.cell p 28]) (tmps : Array Value) (w : World) (g : Nat) (s1 s2 s3 : Value)
    (hp : tmps.getD p undef = .pointer (some ⟨g, 0, none⟩)) (hg : BlkIs w g 28 #[s1, s2, s3]) :
    (results fn tmps).run Try.prog w = .ok (.agg #[s1, s2, s3]) w :=
  results_cell_blk h tmps w g _ _ _ hp hg Try.underlying28 rfl tb_size
theorem below_kb {B g : Nat} {a w w' : World} (h : Below B a w) (k : KB (· = g) w w') (hB : B ≤ a.heap.size) (hg : B ≤ g) : Below B a w' :=
  ⟨k.os.trans h.os, k.tape.trans h.tape, k.output.trans h.output, Nat.le_trans h.size k.size, fun i hi => (k.block i (by have := h.size; omega) (fun e => by omega)).trans (h.block i hi)⟩
/-- A list that does not lie in block g. -/
def ApL (g : Nat) (A : Option Addr) (l : List Int) : Prop := l = [] ∨ ∃ b off, A = some ⟨b, off, none⟩ ∧ b ≠ g
structure ApT (g : Nat) (T : Tb) (A B : Option Addr) : Prop where
  op : ApL g A T.op
  cu : ApL g B T.cu
theorem NL.kbx {w w' : World} {g : Nat} {A : Option Addr} {n c : Nat} {l : List Int} (h : NL .i64 w A n c l) (ha : ApL g A l) (kb : KB (· = g) w w') : NL .i64 w' A n c l :=
  ⟨h.len, h.le, h.max, fun i x hx => by
    obtain ⟨b, off, e, hlt, c0, hw⟩ := h.at_ i x hx
    rcases ha with rfl | ⟨b', off', e', hne⟩
    · simp at hx
    · rw [e] at e'
      injection e' with e'
      injection e' with e1 e2
      subst e1 e2
      exact ⟨b, off, e, Nat.lt_of_lt_of_le hlt kb.size, (kb.cell (p := ⟨b, _, none⟩) hlt hne).trans c0, hw⟩⟩
theorem TL.kbx {w w' : World} {g : Nat} {T : Tb} {A : Option Addr} {n c : Nat} {B : Option Addr} {m d : Nat} (h : TL w T A n c B m d) (ha : ApT g T A B) (kb : KB (· = g) w w') : TL w' T A n c B m d := ⟨h.op.kbx ha.op kb, h.cu.kbx ha.cu kb⟩
/-- A call that answers a table, and a code: what lay apart lies apart. -/
def GivesTC (T : Tb) (A B : Option Addr) (r : Tb × Int) (w : World) (e : Ending) (w' : World) : Prop :=
  ∃ A' n c B' m d, e = .returned (.tuple #[.agg #[.int .i64 r.1.l, .slice A' n c, .slice B' m d], .int .u32 r.2]) ∧ TL w' r.1 A' n c B' m d ∧ Below w.heap.size w w' ∧ ∀ g, g < w.heap.size → ApT g T A B → ApT g r.1 A' B'
/-- A call that answers a table. -/
def GivesT (T : Tb) (A B : Option Addr) (U : Tb) (w : World) (e : Ending) (w' : World) : Prop :=
  ∃ A' n c B' m d, e = .returned (.agg #[.int .i64 U.l, .slice A' n c, .slice B' m d]) ∧ TL w' U A' n c B' m d ∧ Below w.heap.size w w' ∧ ∀ g, g < w.heap.size → ApT g T A B → ApT g U A' B'
end Go.Proofs.Ytjjgnhdaaicmeaa
