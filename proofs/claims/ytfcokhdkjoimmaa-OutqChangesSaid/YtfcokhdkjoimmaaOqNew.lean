/-
  Layer 19: Clone of texts; what Push and Drain answer (written by gen19push.py).
-/
import Derived.Test.YtfcokhdkjoimmaaOqLen
import Derived.Test.YtfcokhdkjoimmaaBytes2
import Derived.Lib.SliceRun
namespace Go.Proofs.Ytfcokhdkjoimmaa
set_option linter.unusedSimpArgs false
set_option linter.unusedVariables false
open Go.RowKit
/-- What a call answers that makes a list of texts. -/
def GivesTs (w : World) (l : List ByteArray) (e : Ending) (w' : World) : Prop := ∃ A c, e = .returned (.slice A l.length c) ∧ w'.ownsRow w.heap.size 9 1 (.slice A l.length c) l.length (tcs l) ∧ Below w.heap.size w w'
set_option maxRecDepth 100000 in
set_option maxHeartbeats 1600000 in
theorem oq_Clone (A : Option Addr) (n c : Nat) (l : List ByteArray) (w : World) (hl : TX w A n c l) (hn : (n : Int) ≤ 1000000) :
    Calls Try.prog 22 #[.slice A n c] w (GivesTs w l) := by
  have hq := fun w => Lib.run_eql_slice_nil (P := Try.prog) w 22 9 A n c 0 0 Try.underlying22
  cases A with
  | none =>
    have hl0 := hl.len
    obtain rfl : l = [] := by
      cases l with
      | nil => rfl
      | cons x l =>
        obtain ⟨_, _, e, _⟩ := hl.at_ 0 x rfl
        cases e
    have hn0 : n = 0 := hl0.symm
    subst hn0
    clear hl hl0
    go_enter Try.func22, Try.ntmps22
    go_wp2
    go_ret
    exact ⟨none, 0, rfl, World.ownsRow_nil _ _ _ _, Below.refl _ _⟩
  | some ad =>
    have HL := hide hl
    have HN := hide hn
    clear hl hn
    go_enter Try.func22, Try.ntmps22
    have HO := hide (World.ownsRow_lit (size := 1) (base := w.heap.size) (e := 9) w #[] 0 (Nat.le_refl _) (Nat.zero_le _) rfl)
    have HFA := hide (HL.out.keep (bel1 w (.cells #[] 9)))
    go_wp2_with (at_builtin; refine wpList_append_tx _ rfl (.tmp 5) (.tmp 6) rfl w.heap.size _ 0 [] rfl HO.out (some ad) n c l rfl HFA.out (by have := HN.out; omega) (by simp) ?_; intro v1 w1 hown1 hg1; have HO1 := hide hown1; have HG1 := hide hg1; clear hown1 hg1)
    go_ret
    obtain ⟨A1, c1, e1, -⟩ := own_texts (l := l) (n := 0 + n) (by simpa using HO1.out)
    subst e1
    have hlen := HL.out.len
    subst hlen
    exact ⟨A1, c1, by simp, by simpa using HO1.out, own_bel HO.out (bel1 _ _) (Nat.le_refl _) (Nat.le_refl _) HG1.out⟩

theorem below_kbq {B g : Nat} {a w w' : World} (h : Below B a w) (k : KB (· = g) w w') (hB : B ≤ a.heap.size) (hg : B ≤ g) : Below B a w' :=
  ⟨k.os.trans h.os, k.tape.trans h.tape, k.output.trans h.output, Nat.le_trans h.size k.size, fun i hi => (k.block i (by have := h.size; omega) (fun e => by omega)).trans (h.block i hi)⟩
section
variable {ops : Array Oper} {rest : List Oper} {o : Oper} {a : Act} {w : World} {Q : Exit → Act → World → Prop}
/-- A queue is stored into a block. -/
theorem wpList_q_blk (T : TypeId) (hT : (Try.prog.info? T).map (·.size) = some 3) (hg : o.guard = none) (x y : Operand) (g : Nat) (A : Option Addr) (n c : Nat) (m k : Int) (z1 z2 z3 : Value) (ho : o.op = .store T x y) (hk : BlkIs w g T #[z1, z2, z3])
    (hx : a.eval x = .pointer (some ⟨g, 0, none⟩)) (hy : a.eval y = .agg #[.slice A n c, .int .i64 m, .int .i64 k])
    (h : ∀ w', BlkIs w' g T #[.slice A n c, .int .i64 m, .int .i64 k] → KB (· = g) w w' → wpList Try.prog ops Q rest (a.put o.dst undef) w') : wpList Try.prog ops Q (o :: rest) a w :=
  wpList_store_blk hg _ _ _ ho g #[.slice A n c, .int .i64 m, .int .i64 k] #[z1, z2, z3] _ hx hy hk hT rfl (by simp [Value.oneCell']) (h _ (hk.row _) ((KB.refl (· = g) w).setRow (fun _ => rfl) _))
end
theorem pq_size : (Try.prog.info? 28).map (·.size) = some 3 := by kernel_rfl
theorem dq_size : (Try.prog.info? 24).map (·.size) = some 3 := by kernel_rfl
theorem pq_zero : (Try.prog.info? 28).bind (·.zero) = some (.agg #[.slice none 0 0, .int .i64 0, .int .i64 0]) := by kernel_rfl
theorem dq_zero : (Try.prog.info? 24).bind (·.zero) = some (.agg #[.slice none 0 0, .int .i64 0, .int .i64 0]) := by kernel_rfl
theorem pq_built (A : Option Addr) (n c : Nat) (m g : Int) : Try.prog.built 28 [(0, .slice A n c), (1, .int .i64 m), (2, .int .i64 g)] = some #[.slice A n c, .int .i64 m, .int .i64 g] := by kernel_rfl
theorem dq_built (A : Option Addr) (n c : Nat) (m g : Int) : Try.prog.built 24 [(0, .slice A n c), (1, .int .i64 m), (2, .int .i64 g)] = some #[.slice A n c, .int .i64 m, .int .i64 g] := by kernel_rfl
theorem dq_built2 (m g : Int) : Try.prog.built 24 [(1, .int .i64 m), (2, .int .i64 g)] = some #[.slice none 0 0, .int .i64 m, .int .i64 g] := by kernel_rfl
theorem results_pq {fn : Func} {p u : Tmp} (h : fn.results = #[.cell p 28, .tmp u]) (tmps : Array Value) (w : World) (g : Nat) (s1 s2 s3 : Value)
    (hp : tmps.getD p undef = .pointer (some ⟨g, 0, none⟩)) (hg : BlkIs w g 28 #[s1, s2, s3]) (x : Value) (hv : tmps.getD u undef = x) :
    (results fn tmps).run Try.prog w = .ok (.tuple #[.agg #[s1, s2, s3], x]) w :=
  results_cell_tmp_blk h tmps w g _ _ _ hp hg Try.underlying28 rfl pq_size x hv
theorem results_dq {fn : Func} {p u : Tmp} (h : fn.results = #[.cell p 24, .tmp u]) (tmps : Array Value) (w : World) (g : Nat) (s1 s2 s3 : Value)
    (hp : tmps.getD p undef = .pointer (some ⟨g, 0, none⟩)) (hg : BlkIs w g 24 #[s1, s2, s3]) (x : Value) (hv : tmps.getD u undef = x) :
    (results fn tmps).run Try.prog w = .ok (.tuple #[.agg #[s1, s2, s3], x]) w :=
  results_cell_tmp_blk h tmps w g _ _ _ hp hg Try.underlying24 rfl dq_size x hv
/-- A list of texts is kept where a queue's block is written. -/
theorem own_q {w w' : World} {B g : Nat} {T : TypeId} {n : Nat} {v : Value} {xs : List Value} {cs : Array Value} (h : w.ownsRow B 9 1 v n xs) (hk : BlkIs w g T cs) (hT : T ≠ 9) (kb : KB (· = g) w w') : w'.ownsRow B 9 1 v n xs :=
  own_kbx h kb (own_apartx h hk hT)
theorem own_qb {w w' : World} {B g : Nat} {T : TypeId} {n : Nat} {v : Value} {xs : List Value} {cs : Array Value} (h : w.ownsRow B 5 1 v n xs) (hk : BlkIs w g T cs) (hT : T ≠ 5) (kb : KB (· = g) w w') : w'.ownsRow B 5 1 v n xs :=
  own_kbx h kb (own_apartx h hk hT)
/-- What Push answers. -/
def GivesQE (q : Qu) (x : Int) (w : World) (e : Ending) (w' : World) : Prop := (∃ A n c, e = .returned (.tuple #[.agg #[.slice A n c, .int .i64 q.m, .int .i64 q.g], .int .i64 x]) ∧ TX w' A n c q.ps) ∧ Below w.heap.size w w'
/-- What Drain answers. -/
def GivesQB (q : Qu) (xs : List Int) (w : World) (e : Ending) (w' : World) : Prop := (∃ A n c B k d, e = .returned (.tuple #[.agg #[.slice A n c, .int .i64 q.m, .int .i64 q.g], .slice B k d]) ∧ TX w' A n c q.ps ∧ RB w' B k xs) ∧ Below w.heap.size w w'
end Go.Proofs.Ytfcokhdkjoimmaa
