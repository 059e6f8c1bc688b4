/-
  Layer 3: At, the document's.
-/
import Derived.Test.YtchndegcnjejiaaStTab
namespace Go.Proofs.Ytchndegcnjejiaa
open Go.RowKit

/-- The name at a place; whether it is a place. -/
def nmAt (n : Int) : ByteArray := if 0 < n then nm (n - 1).toNat else ⟨#[]⟩
def isAt (n : Int) : Bool := decide (0 < n) && decide (n ≤ 61)
theorem nm_out (k : Nat) (h : 61 ≤ k) : nm k = ⟨#[]⟩ := by
  unfold nm
  rw [List.getD, List.getElem?_eq_none (by rw [flds_len]; omega)]
  rfl
/-- The field at a place. -/
def fldAt (n : Int) : Array Value := fldV (nmAt n) (vlAt n) false
theorem fldAt_out (n : Int) (h : isAt n = false) : fldAt n = fldV ⟨#[]⟩ ⟨#[]⟩ false := by
  unfold isAt at h
  have e1 : nmAt n = ⟨#[]⟩ := by
    unfold nmAt
    split
    · exact nm_out _ (by simp at h; omega)
    · rfl
  have e2 : vlAt n = ⟨#[]⟩ := by
    unfold vlAt
    split
    · exact vl_out _ (by simp at h; omega)
    · rfl
  rw [fldAt, e1, e2]
theorem isAt_ors (n : Int) (h : isAt n = true) : (n == 1 || n == 2 || n == 3 || n == 4 || n == 5 || n == 6 || n == 7 || n == 8 || n == 9 || n == 10 || n == 11 || n == 12 || n == 13 || n == 14 || n == 15 || n == 16 || n == 17 || n == 18 || n == 19 || n == 20 || n == 21 || n == 22 || n == 23 || n == 24 || n == 25 || n == 26 || n == 27 || n == 28 || n == 29 || n == 30 || n == 31 || n == 32 || n == 33 || n == 34 || n == 35 || n == 36 || n == 37 || n == 38 || n == 39 || n == 40 || n == 41 || n == 42 || n == 43 || n == 44 || n == 45 || n == 46 || n == 47 || n == 48 || n == 49 || n == 50 || n == 51 || n == 52 || n == 53 || n == 54 || n == 55 || n == 56 || n == 57 || n == 58 || n == 59 || n == 60 || n == 61) = true := by
  have key : ∀ k : Nat, k < 61 → (fun n : Int => (n == 1 || n == 2 || n == 3 || n == 4 || n == 5 || n == 6 || n == 7 || n == 8 || n == 9 || n == 10 || n == 11 || n == 12 || n == 13 || n == 14 || n == 15 || n == 16 || n == 17 || n == 18 || n == 19 || n == 20 || n == 21 || n == 22 || n == 23 || n == 24 || n == 25 || n == 26 || n == 27 || n == 28 || n == 29 || n == 30 || n == 31 || n == 32 || n == 33 || n == 34 || n == 35 || n == 36 || n == 37 || n == 38 || n == 39 || n == 40 || n == 41 || n == 42 || n == 43 || n == 44 || n == 45 || n == 46 || n == 47 || n == 48 || n == 49 || n == 50 || n == 51 || n == 52 || n == 53 || n == 54 || n == 55 || n == 56 || n == 57 || n == 58 || n == 59 || n == 60 || n == 61)) ((k : Int) + 1) = true := by decide +kernel
  unfold isAt at h
  simp only [Bool.and_eq_true, decide_eq_true_eq] at h
  have := key (n - 1).toNat (by omega)
  rw [show (((n - 1).toNat : Nat) : Int) + 1 = n by omega] at this
  exact this
theorem isAt_no (n : Int) (h : (n == 1 || n == 2 || n == 3 || n == 4 || n == 5 || n == 6 || n == 7 || n == 8 || n == 9 || n == 10 || n == 11 || n == 12 || n == 13 || n == 14 || n == 15 || n == 16 || n == 17 || n == 18 || n == 19 || n == 20 || n == 21 || n == 22 || n == 23 || n == 24 || n == 25 || n == 26 || n == 27 || n == 28 || n == 29 || n == 30 || n == 31 || n == 32 || n == 33 || n == 34 || n == 35 || n == 36 || n == 37 || n == 38 || n == 39 || n == 40 || n == 41 || n == 42 || n == 43 || n == 44 || n == 45 || n == 46 || n == 47 || n == 48 || n == 49 || n == 50 || n == 51 || n == 52 || n == 53 || n == 54 || n == 55 || n == 56 || n == 57 || n == 58 || n == 59 || n == 60 || n == 61) = false) : isAt n = false := by
  cases e : isAt n with
  | false => rfl
  | true => rw [isAt_ors n e] at h; exact absurd h (by decide)
theorem ret_at {a b : Array Value} {x y : Bool} (h : a = b) (h' : x = y) : Ending.returned (.tuple #[.agg a, .bool x]) = .returned (.tuple #[.agg b, .bool y]) := by rw [h, h']

theorem fld_built0 : Try.prog.built 29 [] = some (fldV ⟨#[]⟩ ⟨#[]⟩ false) := by kernel_rfl
theorem fld_built1 (a : ByteArray) : Try.prog.built 29 [(0, .string a)] = some (fldV a ⟨#[]⟩ false) := by kernel_rfl
theorem fld_built2 (a b : ByteArray) : Try.prog.built 29 [(0, .string a), (1, .string b)] = some (fldV a b false) := by kernel_rfl
section
variable {ops : Array Oper} {rest : List Oper} {o : Oper} {a : Act} {w : World} {Q : Exit → Act → World → Prop}
theorem wpList_fld0 (hg : o.guard = none) (ho : o.op = .build 29 #[])
    (h : wpList Try.prog ops Q rest (a.put o.dst (.agg (fldV ⟨#[]⟩ ⟨#[]⟩ false))) w) : wpList Try.prog ops Q (o :: rest) a w :=
  wpList_built hg _ _ ho _ (by simp only [List.map_toArray, List.map_nil]; exact fld_built0) h
theorem wpList_fld1 (hg : o.guard = none) (x : Operand) (n : ByteArray) (ho : o.op = .build 29 #[(0, x)]) (hx : a.eval x = .string n)
    (h : wpList Try.prog ops Q rest (a.put o.dst (.agg (fldV n ⟨#[]⟩ false))) w) : wpList Try.prog ops Q (o :: rest) a w :=
  wpList_built hg _ _ ho _ (by simp only [List.map_toArray, List.map_cons, List.map_nil, hx]; exact fld_built1 n) h
theorem wpList_fld2 (hg : o.guard = none) (x y : Operand) (n v : ByteArray) (ho : o.op = .build 29 #[(0, x), (1, y)]) (hx : a.eval x = .string n) (hy : a.eval y = .string v)
    (h : wpList Try.prog ops Q rest (a.put o.dst (.agg (fldV n v false))) w) : wpList Try.prog ops Q (o :: rest) a w :=
  wpList_built hg _ _ ho _ (by simp only [List.map_toArray, List.map_cons, List.map_nil, hx, hy]; exact fld_built2 n v) h
theorem wpList_fld_new (hg : o.guard = none) (x y : Operand) (n v n' v' : ByteArray) (b b' : Bool) (ho : o.op = .store 29 x y) (hx : a.eval x = .pointer (some ⟨w.heap.size, 0, none⟩)) (hy : a.eval y = .agg (fldV n v b))
    (h : wpList Try.prog ops Q rest (a.put o.dst undef) (w.alloc (.cells (fldV n v b) 29))) : wpList Try.prog ops Q (o :: rest) a (w.alloc (.cells (fldV n' v' b') 29)) :=
  wpList_store_new hg _ _ _ ho _ _ _ hx hy st_size_fld rfl (fldV_one _ _ _) h
end

theorem results_fld {fn : Func} {p u : Tmp} (h : fn.results = #[.cell p 29, .tmp u]) (tmps : Array Value) (w : World) (g : Nat) (n v : ByteArray) (b : Bool)
    (hp : tmps.getD p undef = .pointer (some ⟨g, 0, none⟩)) (hg : BlkIs w g 29 (fldV n v b)) (x : Value) (hv : tmps.getD u undef = x) :
    (results fn tmps).run Try.prog w = .ok (.tuple #[.agg (fldV n v b), x]) w :=
  results_cell_tmp_blk h tmps w g _ _ _ hp hg Try.underlying29 rfl st_size_fld x hv

set_option maxRecDepth 100000 in
set_option maxHeartbeats 16000000 in
theorem rf_At (n : Int) (w : World) : Calls Try.prog 24 #[.int .i64 n] w fun e w' => e = .returned (.tuple #[.agg (fldAt n), .bool (isAt n)]) ∧ Below w.heap.size w w' := by
  obtain ⟨V, hV⟩ : ∃ V, V = fldAt n := ⟨_, rfl⟩
  obtain ⟨B, hB⟩ : ∃ B, B = isAt n := ⟨_, rfl⟩
  rw [← hV, ← hB]
  have HV := hide hV
  have HB := hide hB
  clear hV hB
  have hz := run_zero_is st_zero_fld
  go_enter Try.func24, Try.ntmps24
  go_wp2_with (first
    | (with_reducible refine wpList_fld1 rfl _ _ rfl rfl ?_)
    | (with_reducible refine wpList_fld2 rfl _ _ _ _ rfl rfl rfl ?_)
    | (with_reducible refine wpList_fld_new rfl _ _ _ _ _ _ _ _ rfl rfl rfl ?_))
  all_goals refine bodyPost_ret (results_fld rfl _ _ w.heap.size _ _ _ rfl (BlkIs.new _ _ _) _ rfl) rfl ⟨ret_at ?_ ?_, (Below.refl _ _).alloc (Nat.le_refl _) _⟩
  all_goals first
    | (obtain rfl := eq_of_beq (by assumption)
       first
         | (rw [HV.out]; rfl)
         | (rw [HB.out]; rfl))
    | (have hno : isAt n = false := isAt_no n (by simp only [*, Bool.or_false])
       first
         | (rw [HV.out, fldAt_out n hno])
         | (rw [HB.out, hno]))
end Go.Proofs.Ytchndegcnjejiaa
