/-
  Layer 4: a table's copy within another size.
-/
import Derived.Test.YtchndegcnjejiaaDyConcat
import Derived.Test.YtchndegcnjejiaaDyCheck
namespace Go.Proofs.Ytchndegcnjejiaa
open Go.RowKit

theorem tab_zero : (Try.prog.info? 27).bind (·.zero) = some (.agg #[.int .i64 0, .slice none 0 0]) := by kernel_rfl
theorem tab_size : (Try.prog.info? 27).map (·.size) = some 2 := by kernel_rfl
theorem tab_built2 (m : Int) (A : Option Addr) (n c : Nat) : Try.prog.built 27 [(0, .int .i64 m), (1, .slice A n c)] = some #[.int .i64 m, .slice A n c] := by kernel_rfl
theorem tab_built1 (m : Int) : Try.prog.built 27 [(0, .int .i64 m)] = some #[.int .i64 m, .slice none 0 0] := by kernel_rfl
theorem tab_built0 : Try.prog.built 27 [] = some #[.int .i64 0, .slice none 0 0] := by kernel_rfl
theorem tab_one (m : Int) (A : Option Addr) (n c : Nat) : (#[Value.int .i64 m, .slice A n c] : Array Value).all (·.oneCell') = true := by simp [Value.oneCell']

section
variable {ops : Array Oper} {rest : List Oper} {o : Oper} {a : Act} {w : World} {Q : Exit → Act → World → Prop}
theorem wpList_tab2 (hg : o.guard = none) (x y : Operand) (m : Int) (A : Option Addr) (n c : Nat) (ho : o.op = .build 27 #[(0, x), (1, y)]) (hx : a.eval x = .int .i64 m) (hy : a.eval y = .slice A n c)
    (h : wpList Try.prog ops Q rest (a.put o.dst (.agg #[.int .i64 m, .slice A n c])) w) : wpList Try.prog ops Q (o :: rest) a w :=
  wpList_built hg _ _ ho _ (by simp only [List.map_toArray, List.map_cons, List.map_nil, hx, hy]; exact tab_built2 m A n c) h
theorem wpList_tab1 (hg : o.guard = none) (x : Operand) (m : Int) (ho : o.op = .build 27 #[(0, x)]) (hx : a.eval x = .int .i64 m)
    (h : wpList Try.prog ops Q rest (a.put o.dst (.agg #[.int .i64 m, .slice none 0 0])) w) : wpList Try.prog ops Q (o :: rest) a w :=
  wpList_built hg _ _ ho _ (by simp only [List.map_toArray, List.map_cons, List.map_nil, hx]; exact tab_built1 m) h
theorem wpList_tab0 (hg : o.guard = none) (ho : o.op = .build 27 #[])
    (h : wpList Try.prog ops Q rest (a.put o.dst (.agg #[.int .i64 0, .slice none 0 0])) w) : wpList Try.prog ops Q (o :: rest) a w :=
  wpList_built hg _ _ ho _ (by simp only [List.map_toArray, List.map_nil]; exact tab_built0) h
/-- A table is stored into a block that is known whole. -/
theorem wpList_tab_blk (hg : o.guard = none) (x y : Operand) (g : Nat) (m m' : Int) (A A' : Option Addr) (n c n' c' : Nat) (ho : o.op = .store 27 x y) (hk : BlkIs w g 27 #[.int .i64 m', .slice A' n' c'])
    (hx : a.eval x = .pointer (some ⟨g, 0, none⟩)) (hy : a.eval y = .agg #[.int .i64 m, .slice A n c])
    (h : ∀ w', BlkIs w' g 27 #[.int .i64 m, .slice A n c] → KB (· = g) w w' → wpList Try.prog ops Q rest (a.put o.dst undef) w') : wpList Try.prog ops Q (o :: rest) a w :=
  wpList_store_blk hg _ _ _ ho g #[.int .i64 m, .slice A n c] #[.int .i64 m', .slice A' n' c'] _ hx hy hk tab_size rfl (tab_one m A n c) (h _ (hk.row _) ((KB.refl (· = g) w).setRow (fun _ => rfl) _))
end
theorem results_tab {fn : Func} {p u : Tmp} (h : fn.results = #[.cell p 27, .tmp u]) (tmps : Array Value) (w : World) (g : Nat) (m : Int) (A : Option Addr) (n c : Nat)
    (hp : tmps.getD p undef = .pointer (some ⟨g, 0, none⟩)) (hg : BlkIs w g 27 #[.int .i64 m, .slice A n c]) (x : Value) (hv : tmps.getD u undef = x) :
    (results fn tmps).run Try.prog w = .ok (.tuple #[.agg #[.int .i64 m, .slice A n c], x]) w :=
  results_cell_tmp_blk h tmps w g _ _ _ hp hg Try.underlying27 rfl tab_size x hv

/-- A block of a table is no block of fields. -/
theorem FL.apart {w : World} {A : Option Addr} {n c : Nat} {l : List Fd} (h : FL w A n c l) {g : Nat} {t : TypeId} {m : Int} {A' : Option Addr} {n' c' : Nat} (hk : BlkIs w g t #[.int .i64 m, .slice A' n' c'])
    {k : Nat} {f : Fd} (hf : l[k]? = some f) {b off : Nat} (hA : A = some ⟨b, off, none⟩) : b ≠ g := by
  rintro rfl
  obtain ⟨b', off', e, _, c0, _, _⟩ := h.at_ k f hf
  rw [hA] at e
  injection e with e
  injection e with e1 e2
  subst e1 e2
  rw [hk.cell] at c0
  generalize off + k * 3 = j at c0
  match j with
  | 0 => simp at c0
  | 1 => simp at c0
  | j + 2 => simp at c0
theorem FL.kb {w w' : World} {A : Option Addr} {n c : Nat} {l : List Fd} (h : FL w A n c l) {g : Nat} {t : TypeId} {m : Int} {A' : Option Addr} {n' c' : Nat} (hk : BlkIs w g t #[.int .i64 m, .slice A' n' c']) (kb : KB (· = g) w w') : FL w' A n c l :=
  ⟨h.len, h.le, h.max, h.nil_, fun k f hf => by
    obtain ⟨b, off, e, hlt, c0, c1, c2⟩ := h.at_ k f hf
    have hne := h.apart hk hf e
    exact ⟨b, off, e, Nat.lt_of_lt_of_le hlt kb.size, (kb.cell (p := ⟨b, _, none⟩) hlt hne).trans c0, (kb.cell (p := ⟨b, _, none⟩) hlt hne).trans c1, (kb.cell (p := ⟨b, _, none⟩) hlt hne).trans c2⟩⟩

theorem below_kb2 {B g : Nat} {a w w' : World} (h : Below B a w) (k : KB (· = g) w w') (hB : B ≤ a.heap.size) (hg : B ≤ g) : Below B a w' :=
  ⟨k.os.trans h.os, k.tape.trans h.tape, k.output.trans h.output, Nat.le_trans h.size k.size, fun i hi => (k.block i (by have := h.size; omega) (fun e => by omega)).trans (h.block i hi)⟩
theorem blk_new2' (w : World) (o : Obj) (t : TypeId) (cs : Array Value) : BlkIs ((w.alloc o).alloc (.cells cs t)) (w.heap.size + 1) t cs := by
  have := BlkIs.new (w.alloc o) t cs
  rwa [World.size_alloc] at this

/-- A table, and an error, handed back. -/
def TabIs (m : Int) (l : List Fd) (er : Int) (w : World) (e : Ending) (w' : World) : Prop := ∃ A n c, e = .returned (.tuple #[.agg #[.int .i64 m, .slice A n c], .int .i64 er]) ∧ FL w' A n c l ∧ Below w.heap.size w w'

set_option maxRecDepth 100000 in
set_option maxHeartbeats 1600000 in
theorem dy_within_no (m : Int) (A : Option Addr) (n c : Nat) (l : List Fd) (q : Int) (hq : rmB q = false) (w : World) (hfl : FL w A n c l) :
    Calls Try.prog 32 #[.agg #[.int .i64 m, .slice A n c], .int .i64 q] w (TabIs m l 8 w) := by
  have hz := run_zero_is tab_zero
  have HFL := hide ((hfl.alloc (.cells #[.int .i64 m, .slice A n c] 27)).alloc (.cells #[.int .i64 m, .slice A n c] 27))
  have HQ := hide hq
  clear hfl hq
  go_enter Try.func32, Try.ntmps32
  go_wp2_with (go_at_call 27; refine (dy_rightMax_no _ HQ.out _).mono ?_; rintro e w2 ⟨rfl, rfl⟩)
  exact bodyPost_ret (results_tab rfl _ _ (w.heap.size + 1) m A n c rfl (blk_new2' _ _ _ _) (.int .i64 8) rfl) rfl ⟨A, n, c, rfl, HFL.out, ((Below.refl _ _).alloc (Nat.le_refl _) _).alloc (by simp) _⟩

set_option maxRecDepth 100000 in
set_option maxHeartbeats 1600000 in
theorem dy_within_yes (m : Int) (A : Option Addr) (n c : Nat) (l : List Fd) (q : Int) (hq : rmB q = true) (w : World) (hfl : FL w A n c l) (hs : (szs l : Int) ≤ 1099511627776) (hn : (n : Int) ≤ 1000000000) :
    Calls Try.prog 32 #[.agg #[.int .i64 m, .slice A n c], .int .i64 q] w (TabIs q (l.take (fitK l q)) 0 w) := by
  have hz := run_zero_is tab_zero
  have HFL := hide ((hfl.alloc (.cells #[.int .i64 m, .slice A n c] 27)).alloc (.cells #[.int .i64 0, .slice none 0 0] 27))
  have B0 := hide (((Below.refl w.heap.size w).alloc (Nat.le_refl _) (.cells #[.int .i64 m, .slice A n c] 27)).alloc (by simp) (.cells #[.int .i64 0, .slice none 0 0] 27))
  have K0 := hide (blk_new2' w (.cells #[.int .i64 m, .slice A n c] 27) 27 #[.int .i64 0, .slice none 0 0])
  have HQ := hide hq
  have HS := hide hs
  have hb := rmB_bd hq
  have HB := hide hb
  have HL := hide hfl.len
  clear hfl hq hs
  have hq0 : 0 ≤ q := hb.1
  have hq1 : q ≤ 4096 := hb.2
  have HK := hide (fitK_le l q)
  have HNW := hide (fun w' (h : FL w' A n c l) => dy_newest m A n c l q HB.out.1 (by have := HB.out.2; omega) w' h HS.out)
  obtain ⟨k, hk⟩ : ∃ k, k = fitK l q := ⟨_, rfl⟩
  rw [← hk] at HK HNW ⊢
  have hkn : (k : Int) ≤ 1000000000 := by have h1 := HK.out; have h2 := HL.out; omega
  have HKN := hide (show k ≤ n by have h1 := HK.out; have h2 := HL.out; omega)
  have HKI := hide hkn
  clear hb hk hkn
  go_enter Try.func32, Try.ntmps32
  go_wp2_with (go_at_call 27; refine (dy_rightMax_yes _ HQ.out _).mono ?_; rintro e w2 ⟨rfl, rfl⟩)
  refine (HNW.out _ HFL.out).mono ?_
  rintro e w2 ⟨rfl, hb2⟩
  have F2 := hide ((HFL.out.keep hb2).take HKN.out)
  have K2 := hide (K0.out.keep hb2)
  have B2 := hide (B0.out.trans (hb2.mono B0.out.size))
  clear hb2 HNW HFL K0 B0
  go_wp2_with fail
  refine (sl_Clone A k c _ _ F2.out HKI.out).mono ?_
  rintro e w3 ⟨A3, n3, c3, rfl, hf3, hb3⟩
  have F3 := hide hf3
  have K3 := hide (K2.out.keep hb3)
  have B3 := hide (B2.out.trans (hb3.mono B2.out.size))
  obtain ⟨g, hg⟩ : ∃ g, g = w.heap.size + 1 := ⟨_, rfl⟩
  rw [← hg] at K3 ⊢
  have HG := hide hg
  clear hf3 hb3 hg F2 K2 B2
  go_wp2_with (first
    | (with_reducible refine wpList_tab2 rfl _ _ _ _ _ _ rfl rfl rfl ?_)
    | (refine wpList_tab_blk rfl _ _ g _ _ _ _ _ _ _ _ rfl K3.out rfl rfl ?_; intro w4 hk4 hb4; have K4 := hide hk4; have KB4 := hide hb4; clear hk4 hb4))
  exact bodyPost_ret (results_tab rfl _ _ g q A3 n3 c3 rfl K4.out (.int .i64 0) rfl) rfl ⟨A3, n3, c3, rfl, F3.out.kb K3.out KB4.out, below_kb2 B3.out KB4.out (Nat.le_refl _) (by have := HG.out; omega)⟩
end Go.Proofs.Ytchndegcnjejiaa
