/-
  Layer 4: At, the program's and the document's.
-/
import Derived.Test.YtchndegcnjejiaaDySame
namespace Go.Proofs.Ytchndegcnjejiaa
open Go.RowKit

theorem atB_low (l : List Fd) {i : Int} (h : i < 62) : atB l i = isAt i := by
  unfold atB isAt
  have h1 : decide (i ≤ 61 + (l.length : Int)) = true := by simp; omega
  have h2 : decide (i ≤ 61) = true := by simp; omega
  rw [h1, h2]
theorem atF_low (l : List Fd) {i : Int} (h : i < 62) : fldAt i = fldV (atF l i).n (atF l i).v (atF l i).x := by
  unfold atF
  rw [atB_low l h]
  cases hi : isAt i with
  | false => rw [fldAt_out i hi]; rfl
  | true =>
    unfold isAt at hi
    simp only [Bool.and_eq_true, decide_eq_true_eq] at hi
    rw [if_pos rfl, fdL_low l (show (i - 1).toNat < 61 by omega)]
    unfold fldAt nmAt vlAt
    rw [if_pos hi.1, if_pos hi.1]
theorem atF_high (l : List Fd) {k : Nat} {f : Fd} (h : l[k]? = some f) : atF l ((k : Int) + 62) = f ∧ atB l ((k : Int) + 62) = true := by
  have hk := (List.getElem?_eq_some_iff.1 h).1
  have hb : atB l ((k : Int) + 62) = true := by unfold atB; simp; omega
  refine ⟨?_, hb⟩
  unfold atF
  rw [if_pos hb, show ((k : Int) + 62 - 1).toNat = 61 + k by omega, fdL_high l h]
theorem atF_none (l : List Fd) {k : Nat} (h : l.length ≤ k) : atF l ((k : Int) + 62) = noFd ∧ atB l ((k : Int) + 62) = false := by
  have hb : atB l ((k : Int) + 62) = false := by unfold atB; simp; omega
  refine ⟨?_, hb⟩
  unfold atF
  rw [hb]
  rfl

theorem results_fldN {fn : Func} {p u : Tmp} (h : fn.results = #[.cell p 29, .tmp u]) (tmps : Array Value) (w : World) (g : Nat) (n v : ByteArray) (b : Bool)
    (hp : tmps.getD p undef = .pointer (some ⟨g, 0, none⟩)) (hg : BlkIs w g 29 #[.string n, .string v, .bool b]) (x : Value) (hv : tmps.getD u undef = x) :
    (results fn tmps).run Try.prog w = .ok (.tuple #[.agg #[.string n, .string v, .bool b], x]) w := results_fld h tmps w g n v b hp hg x hv

section
variable {ops : Array Oper} {rest : List Oper} {o : Oper} {a : Act} {w : World} {Q : Exit → Act → World → Prop}
theorem wpList_fld0r (hg : o.guard = none) (ho : o.op = .build 29 #[])
    (h : wpList Try.prog ops Q rest (a.put o.dst (.agg #[.string ⟨#[]⟩, .string ⟨#[]⟩, .bool false])) w) : wpList Try.prog ops Q (o :: rest) a w := wpList_fld0 hg ho h
/-- A field is stored into a block that is known whole. -/
theorem wpList_fld_blk (hg : o.guard = none) (x y : Operand) (g : Nat) (n v n' v' : ByteArray) (b b' : Bool) (ho : o.op = .store 29 x y) (hk : BlkIs w g 29 #[.string n', .string v', .bool b'])
    (hx : a.eval x = .pointer (some ⟨g, 0, none⟩)) (hy : a.eval y = .agg #[.string n, .string v, .bool b])
    (h : ∀ w', BlkIs w' g 29 #[.string n, .string v, .bool b] → KB (· = g) w w' → wpList Try.prog ops Q rest (a.put o.dst undef) w') : wpList Try.prog ops Q (o :: rest) a w :=
  wpList_store_blk hg _ _ _ ho g #[.string n, .string v, .bool b] #[.string n', .string v', .bool b'] _ hx hy hk st_size_fld rfl (fldV_one n v b) (h _ (hk.row _) ((KB.refl (· = g) w).setRow (fun _ => rfl) _))
end

theorem below_kb {B g : Nat} {a w w' : World} (h : Below B a w) (k : KB (· = g) w w') (hB : B ≤ a.heap.size) (hg : B ≤ g) : Below B a w' :=
  ⟨k.os.trans h.os, k.tape.trans h.tape, k.output.trans h.output, Nat.le_trans h.size k.size, fun i hi => (k.block i (by have := h.size; omega) (fun e => by omega)).trans (h.block i hi)⟩

theorem blk_new2 (w : World) (o : Obj) (t : TypeId) (cs : Array Value) : BlkIs ((w.alloc o).alloc (.cells cs t)) (w.heap.size + 1) t cs := by
  have := BlkIs.new (w.alloc o) t cs
  rwa [World.size_alloc] at this

/-- What At answers, of either. -/
def AtIs (l : List Fd) (i : Int) (w : World) (e : Ending) (w' : World) : Prop := e = .returned (.tuple #[.agg #[.string (atF l i).n, .string (atF l i).v, .bool (atF l i).x], .bool (atB l i)]) ∧ Below w.heap.size w w'

theorem st_At_raw (i : Int) (w : World) : Calls Try.prog 23 #[.int .i64 i] w fun e w' => e = .returned (.tuple #[.agg #[.string (nmAt i), .string (vlAt i), .bool false], .bool (isAt i)]) ∧ Below w.heap.size w w' := st_At i w
theorem rf_At_raw (i : Int) (w : World) : Calls Try.prog 24 #[.int .i64 i] w fun e w' => e = .returned (.tuple #[.agg #[.string (nmAt i), .string (vlAt i), .bool false], .bool (isAt i)]) ∧ Below w.heap.size w w' := rf_At i w

set_option maxRecDepth 100000 in
set_option maxHeartbeats 1600000 in
theorem dy_At_low (m : Int) (A : Option Addr) (n c : Nat) (l : List Fd) (i : Int) (hi : i < 62) (w : World) :
    Calls Try.prog 8 #[.agg #[.int .i64 m, .slice A n c], .int .i64 i] w (AtIs l i w) := by
  have hA := atF_low l hi
  have hB := atB_low l hi
  have HC := hide (st_At_raw i)
  obtain ⟨N, hN⟩ : ∃ N, N = nmAt i := ⟨_, rfl⟩
  obtain ⟨V, hV⟩ : ∃ V, V = vlAt i := ⟨_, rfl⟩
  obtain ⟨T, hT⟩ : ∃ T, T = isAt i := ⟨_, rfl⟩
  rw [← hN, ← hV, ← hT] at HC
  have hfin : ∀ w', Below w.heap.size w w' → AtIs l i w (.returned (.tuple #[.agg #[.string N, .string V, .bool false], .bool T])) w' := fun w' hb => by
    unfold AtIs
    rw [hB, ← hT]
    have e : fldAt i = #[.string N, .string V, .bool false] := by rw [hN, hV]; rfl
    rw [hA] at e
    exact ⟨by rw [← e]; rfl, hb⟩
  have HFIN := hide hfin
  have hz := run_zero_is st_zero_raw
  clear hA hB hN hV hT hfin
  have K0 := hide (BlkIs.new (w.alloc (.cells #[.int .i64 m, .slice A n c] 27)) 29 #[.string ⟨#[]⟩, .string ⟨#[]⟩, .bool false])
  have B0 := hide (((Below.refl w.heap.size w).alloc (Nat.le_refl _) (.cells #[.int .i64 m, .slice A n c] 27)).alloc (by simp) (.cells #[.string ⟨#[]⟩, .string ⟨#[]⟩, .bool false] 29))
  go_enter Try.func8, Try.ntmps8
  go_wp2_with fail
  refine (HC.out _).mono ?_
  rintro e w2 ⟨rfl, hb2⟩
  have K2 := hide (K0.out.keep hb2)
  have B2 := hide (B0.out.trans (hb2.mono B0.out.size))
  obtain ⟨g, hg⟩ : ∃ g, g = w.heap.size + 1 := ⟨_, rfl⟩
  rw [show (w.alloc (.cells #[.int .i64 m, .slice A n c] 27)).heap.size = g by rw [hg]; simp] at K2
  rw [← hg]
  have HG := hide hg
  clear hb2 HC K0 B0 hg
  go_wp2_with (refine wpList_fld_blk rfl _ _ g _ _ _ _ _ _ rfl K2.out rfl rfl ?_; intro w3 hk3 hb3; have K3 := hide hk3; have B3 := hide hb3; clear hk3 hb3)
  refine bodyPost_ret (results_fldN rfl _ _ g _ _ _ rfl K3.out (.bool T) rfl) rfl ?_
  exact HFIN.out _ (below_kb B2.out B3.out (Nat.le_refl _) (by have := HG.out; omega))

set_option maxRecDepth 100000 in
set_option maxHeartbeats 1600000 in
theorem rf_At_low (m : Int) (A : Option Addr) (n c : Nat) (l : List Fd) (i : Int) (hi : i < 62) (w : World) :
    Calls Try.prog 9 #[.agg #[.int .i64 m, .slice A n c], .int .i64 i] w (AtIs l i w) := by
  have hA := atF_low l hi
  have hB := atB_low l hi
  have HC := hide (rf_At_raw i)
  obtain ⟨N, hN⟩ : ∃ N, N = nmAt i := ⟨_, rfl⟩
  obtain ⟨V, hV⟩ : ∃ V, V = vlAt i := ⟨_, rfl⟩
  obtain ⟨T, hT⟩ : ∃ T, T = isAt i := ⟨_, rfl⟩
  rw [← hN, ← hV, ← hT] at HC
  have hfin : ∀ w', Below w.heap.size w w' → AtIs l i w (.returned (.tuple #[.agg #[.string N, .string V, .bool false], .bool T])) w' := fun w' hb => by
    unfold AtIs
    rw [hB, ← hT]
    have e : fldAt i = #[.string N, .string V, .bool false] := by rw [hN, hV]; rfl
    rw [hA] at e
    exact ⟨by rw [← e]; rfl, hb⟩
  have HFIN := hide hfin
  have hz := run_zero_is st_zero_raw
  have hle : i ≤ 61 := by omega
  clear hA hB hN hV hT hfin hi
  have K0 := hide (BlkIs.new (w.alloc (.cells #[.int .i64 m, .slice A n c] 24)) 29 #[.string ⟨#[]⟩, .string ⟨#[]⟩, .bool false])
  have B0 := hide (((Below.refl w.heap.size w).alloc (Nat.le_refl _) (.cells #[.int .i64 m, .slice A n c] 24)).alloc (by simp) (.cells #[.string ⟨#[]⟩, .string ⟨#[]⟩, .bool false] 29))
  go_enter Try.func9, Try.ntmps9
  go_wp2_with fail
  refine (HC.out _).mono ?_
  rintro e w2 ⟨rfl, hb2⟩
  have K2 := hide (K0.out.keep hb2)
  have B2 := hide (B0.out.trans (hb2.mono B0.out.size))
  obtain ⟨g, hg⟩ : ∃ g, g = w.heap.size + 1 := ⟨_, rfl⟩
  rw [show (w.alloc (.cells #[.int .i64 m, .slice A n c] 24)).heap.size = g by rw [hg]; simp] at K2
  rw [← hg]
  have HG := hide hg
  clear hb2 HC K0 B0 hg
  go_wp2_with (refine wpList_fld_blk rfl _ _ g _ _ _ _ _ _ rfl K2.out rfl rfl ?_; intro w3 hk3 hb3; have K3 := hide hk3; have B3 := hide hb3; clear hk3 hb3)
  refine bodyPost_ret (results_fldN rfl _ _ g _ _ _ rfl K3.out (.bool T) rfl) rfl ?_
  exact HFIN.out _ (below_kb B2.out B3.out (Nat.le_refl _) (by have := HG.out; omega))

set_option maxRecDepth 100000 in
set_option maxHeartbeats 1600000 in
theorem dy_At_high (m : Int) (A : Option Addr) (n c : Nat) (l : List Fd) (w : World) (hfl : FL w A n c l) (_hn : (n : Int) ≤ 1099511627776) (k : Nat) (hk : (k : Int) + 62 ≤ 9223372036854775807) :
    Calls Try.prog 8 #[.agg #[.int .i64 m, .slice A n c], .int .i64 ((k : Int) + 62)] w (AtIs l ((k : Int) + 62) w) := by
  have h2 : ¬ (k : Int) + 62 < 62 := by omega
  have hwr : IntKind.i64.wrap (k : Int) = (k : Int) := by rw [IntKind.wrap_i64]; omega
  have HFL := hide ((hfl.alloc (.cells #[.int .i64 m, .slice A n c] 27)).alloc (.cells #[.string ⟨#[]⟩, .string ⟨#[]⟩, .bool false] 29))
  clear hfl hk
  by_cases hlt : k < n
  · have hlt' : (k : Int) < (n : Int) := by omega
    obtain ⟨f, b, off, hf, rfl, hbl, c0, c1, c2⟩ := HFL.out.round hlt
    obtain ⟨ea, eb⟩ := atF_high l hf
    have hz := run_zero_is st_zero_raw
    unfold AtIs
    rw [ea, eb]
    have HF := hide hf
    clear hf ea eb
    go_enter Try.func8, Try.ntmps8
    go_wp2_with (first
      | (with_reducible refine wpList_fld_new rfl _ _ _ _ _ _ _ _ rfl rfl rfl ?_))
    exact bodyPost_ret (results_fldN rfl _ _ (w.heap.size + 1) _ _ _ rfl (blk_new2 _ _ _ _) (.bool true) rfl) rfl ⟨rfl, ((Below.refl _ _).alloc (Nat.le_refl _) _).alloc (by simp) _⟩
  · have hge : (n : Int) ≤ (k : Int) := by omega
    obtain ⟨ea, eb⟩ := atF_none l (show l.length ≤ k by rw [HFL.out.len]; omega)
    have hz := run_zero_is st_zero_raw
    unfold AtIs
    rw [ea, eb]
    clear ea eb
    go_enter Try.func8, Try.ntmps8
    go_wp2_with (first
      | (with_reducible refine wpList_fld0r rfl rfl ?_))
    exact bodyPost_ret (results_fldN rfl _ _ (w.heap.size + 1) _ _ _ rfl (blk_new2 _ _ _ _) (.bool false) rfl) rfl ⟨rfl, ((Below.refl _ _).alloc (Nat.le_refl _) _).alloc (by simp) _⟩

set_option maxRecDepth 100000 in
set_option maxHeartbeats 1600000 in
theorem rf_At_high (m : Int) (A : Option Addr) (n c : Nat) (l : List Fd) (w : World) (hfl : FL w A n c l) (_hn : (n : Int) ≤ 1099511627776) (k : Nat) (hk : (k : Int) + 62 ≤ 9223372036854775807) :
    Calls Try.prog 9 #[.agg #[.int .i64 m, .slice A n c], .int .i64 ((k : Int) + 62)] w (AtIs l ((k : Int) + 62) w) := by
  have h2 : ¬ (k : Int) + 62 ≤ 61 := by omega
  have hwr : IntKind.i64.wrap ((k : Int) + 1) = (k : Int) + 1 := by rw [IntKind.wrap_i64]; omega
  have hwr0 : IntKind.i64.wrap (k : Int) = (k : Int) := by rw [IntKind.wrap_i64]; omega
  have hsub : (k : Int) + 62 - 61 = (k : Int) + 1 := by omega
  have HFL := hide ((hfl.alloc (.cells #[.int .i64 m, .slice A n c] 24)).alloc (.cells #[.string ⟨#[]⟩, .string ⟨#[]⟩, .bool false] 29))
  clear hfl hk
  by_cases hlt : k < n
  · have hlt' : ¬ (n : Int) < (k : Int) + 1 := by omega
    have hlt2 : (k : Int) < (n : Int) := by omega
    obtain ⟨f, b, off, hf, rfl, hbl, c0, c1, c2⟩ := HFL.out.round hlt
    obtain ⟨ea, eb⟩ := atF_high l hf
    have hz := run_zero_is st_zero_raw
    unfold AtIs
    rw [ea, eb]
    have HF := hide hf
    clear hf ea eb
    go_enter Try.func9, Try.ntmps9
    go_wp2_with (first
      | (with_reducible refine wpList_fld_new rfl _ _ _ _ _ _ _ _ rfl rfl rfl ?_))
    exact bodyPost_ret (results_fldN rfl _ _ (w.heap.size + 1) _ _ _ rfl (blk_new2 _ _ _ _) (.bool true) rfl) rfl ⟨rfl, ((Below.refl _ _).alloc (Nat.le_refl _) _).alloc (by simp) _⟩
  · have hge : (n : Int) < (k : Int) + 1 := by omega
    obtain ⟨ea, eb⟩ := atF_none l (show l.length ≤ k by rw [HFL.out.len]; omega)
    have hz := run_zero_is st_zero_raw
    unfold AtIs
    rw [ea, eb]
    clear ea eb
    go_enter Try.func9, Try.ntmps9
    go_wp2_with (first
      | (with_reducible refine wpList_fld0r rfl rfl ?_))
    exact bodyPost_ret (results_fldN rfl _ _ (w.heap.size + 1) _ _ _ rfl (blk_new2 _ _ _ _) (.bool false) rfl) rfl ⟨rfl, ((Below.refl _ _).alloc (Nat.le_refl _) _).alloc (by simp) _⟩

theorem dy_At (m : Int) (A : Option Addr) (n c : Nat) (l : List Fd) (w : World) (hfl : FL w A n c l) (hn : (n : Int) ≤ 1099511627776) (i : Int) (hi : i ≤ 9223372036854775807) :
    Calls Try.prog 8 #[.agg #[.int .i64 m, .slice A n c], .int .i64 i] w (AtIs l i w) := by
  by_cases h : i < 62
  · exact dy_At_low m A n c l i h w
  · have := dy_At_high m A n c l w hfl hn (i - 62).toNat (by omega)
    rwa [show (((i - 62).toNat : Nat) : Int) + 62 = i by omega] at this
theorem rf_At04 (m : Int) (A : Option Addr) (n c : Nat) (l : List Fd) (w : World) (hfl : FL w A n c l) (hn : (n : Int) ≤ 1099511627776) (i : Int) (hi : i ≤ 9223372036854775807) :
    Calls Try.prog 9 #[.agg #[.int .i64 m, .slice A n c], .int .i64 i] w (AtIs l i w) := by
  by_cases h : i < 62
  · exact rf_At_low m A n c l i h w
  · have := rf_At_high m A n c l w hfl hn (i - 62).toNat (by omega)
    rwa [show (((i - 62).toNat : Nat) : Int) + 62 = i by omega] at this
end Go.Proofs.Ytchndegcnjejiaa
