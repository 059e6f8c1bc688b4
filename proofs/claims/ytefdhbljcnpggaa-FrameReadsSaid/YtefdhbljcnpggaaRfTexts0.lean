/-
  Layer 9: the document's reading of DATA and HEADERS (texts).
-/
import Derived.Test.YtefdhbljcnpggaaRfWeigh
namespace Go.Proofs.Ytefdhbljcnpggaa
open Go.RowKit

theorem rfa_size : (Try.prog.info? 37).map (·.size) = some 2 := by kernel_rfl
theorem results_rffa {fn : Func} {p q : Tmp} (h : fn.results = #[.cell p 35, .cell q 37]) (tmps : Array Value) (w : World) (g k : Nat) (F : Fr) (A : Option Addr) (n c : Nat) (x y : Value)
    (hp : tmps.getD p undef = .pointer (some ⟨g, 0, none⟩)) (hq : tmps.getD q undef = .pointer (some ⟨k, 0, none⟩)) (hg : BlkIs w g 35 (F.cs A n c)) (hk : BlkIs w k 37 #[x, y]) :
    (results fn tmps).run Try.prog w = .ok (.tuple #[.agg (F.cs A n c), .agg #[x, y]]) w :=
  results_cell_cell_blk h tmps w g k _ _ _ _ _ _ hp hq hg hk Try.underlying35 rfl rfr_sz Try.underlying37 rfl rfa_size
/-- What the document's reading leaves. -/
def GivesRr (R : Rd) (w : World) (e : Ending) (w' : World) : Prop :=
  ∃ A c, e = .returned (.tuple #[.agg (R.F.cs A R.l.length c), .agg #[.int .i64 R.code, .int .i64 R.st]]) ∧ PL w' A R.l.length c R.l ∧ Below w.heap.size w w'
/-- The end of the document's reading: both answers stored. -/
theorem rr_done {a b : Nat} {w w' : World} (R : Rd) (A : Option Addr) (c : Nat) {F0 : Fr} {A0 : Option Addr} {n0 c0 : Nat} {x y : Value} (hf : BlkIs w' a 35 (F0.cs A0 n0 c0)) (hq : BlkIs w' b 37 #[x, y]) (hx : ∀ i, x ≠ .int .u16 i) (hy : ∀ i, y ≠ .int .u16 i)
    (hb : Below w.heap.size w w') (ha' : w.heap.size ≤ a) (hb' : w.heap.size ≤ b) (hp : PL w' A R.l.length c R.l) :
    BlkIs ((w'.setRow a (R.F.cs A R.l.length c)).setRow b #[.int .i64 R.code, .int .i64 R.st]) a 35 (R.F.cs A R.l.length c) ∧
    BlkIs ((w'.setRow a (R.F.cs A R.l.length c)).setRow b #[.int .i64 R.code, .int .i64 R.st]) b 37 #[.int .i64 R.code, .int .i64 R.st] ∧
    GivesRr R w (.returned (.tuple #[.agg (R.F.cs A R.l.length c), .agg #[.int .i64 R.code, .int .i64 R.st]])) ((w'.setRow a (R.F.cs A R.l.length c)).setRow b #[.int .i64 R.code, .int .i64 R.st]) := by
  have hab : a ≠ b := hf.ne_ hq (by decide)
  have h2 := hq.row_other (Ne.symm hab) (R.F.cs A R.l.length c)
  refine ⟨(hf.row _).row_other hab _, h2.row _, ⟨A, c, rfl, ?_, below_setRow (below_setRow hb ha' _) hb' _⟩⟩
  exact (hp.farRow hf (fr_no16' F0 A0 n0 c0) _).farRow h2 (by intro i z; match i with | 0 => simp [hx] | 1 => simp [hy] | k + 2 => simp) _
theorem rr_start (w : World) (F : Fr) (A : Option Addr) (n c : Nat) :
    BlkIs (((w.alloc (.cells (F.cs A n c) 35)).alloc (.cells #[.int .u8 0, .int .u8 0, .int .i64 0, .string ⟨#[]⟩, .int .i64 0, .int .i64 0, .bool false, .int .u8 0, .int .u32 0, .int .i64 0, .int .i64 0, .slice none 0 0] 35)).alloc (.cells #[.int .i64 0, .int .i64 0] 37)) w.heap.size 35 (F.cs A n c) ∧
    BlkIs (((w.alloc (.cells (F.cs A n c) 35)).alloc (.cells #[.int .u8 0, .int .u8 0, .int .i64 0, .string ⟨#[]⟩, .int .i64 0, .int .i64 0, .bool false, .int .u8 0, .int .u32 0, .int .i64 0, .int .i64 0, .slice none 0 0] 35)).alloc (.cells #[.int .i64 0, .int .i64 0] 37)) (w.heap.size + 1) 35 (Fr.zero.cs none 0 0) ∧
    BlkIs (((w.alloc (.cells (F.cs A n c) 35)).alloc (.cells #[.int .u8 0, .int .u8 0, .int .i64 0, .string ⟨#[]⟩, .int .i64 0, .int .i64 0, .bool false, .int .u8 0, .int .u32 0, .int .i64 0, .int .i64 0, .slice none 0 0] 35)).alloc (.cells #[.int .i64 0, .int .i64 0] 37)) (w.heap.size + 1 + 1) 37 #[.int .i64 0, .int .i64 0] ∧
    Below w.heap.size w (((w.alloc (.cells (F.cs A n c) 35)).alloc (.cells #[.int .u8 0, .int .u8 0, .int .i64 0, .string ⟨#[]⟩, .int .i64 0, .int .i64 0, .bool false, .int .u8 0, .int .u32 0, .int .i64 0, .int .i64 0, .slice none 0 0] 35)).alloc (.cells #[.int .i64 0, .int .i64 0] 37)) := by
  refine ⟨((BlkIs.new w _ _).alloc _).alloc _, blk_mid, ?_, below_three⟩
  have := BlkIs.new ((w.alloc (.cells (F.cs A n c) 35)).alloc (.cells #[.int .u8 0, .int .u8 0, .int .i64 0, .string ⟨#[]⟩, .int .i64 0, .int .i64 0, .bool false, .int .u8 0, .int .u32 0, .int .i64 0, .int .i64 0, .slice none 0 0] 35)) 37 #[.int .i64 0, .int .i64 0]
  simpa using this
theorem i64_no16 (x : Int) : ∀ i, (Value.int .i64 x) ≠ .int .u16 i := fun i h => by injection h with h; cases h

/-- What reading answers of DATA and HEADERS, the padding parted. -/
theorem rd01 {t f s : Int} {xs : List Int} (ht : t = 0 ∨ t = 1) :
    (if rightB t f (bodyR t f xs).length = false then Rd.fault 6 (if t = 2 then s else 0) else if shI t = true ∧ (fillR t f s xs).inc = 0 then Rd.fault 1 s else (⟨fillR t f s xs, prsRd t f xs, 0, 0⟩ : Rd)) =
    if shD t f = true ∧ (bodyR t f xs).length < 5 then Rd.fault 6 0 else ⟨{ fillD (shD t f) (Fr.start t f s (padR t f xs)) (bodyR t f xs) with data := strOfNums (cutB (shD t f) 5 (bodyR t f xs)) }, [], 0, 0⟩ := by
  have h1 : shL t = false := by rcases ht with rfl | rfl <;> kernel_rfl
  have h2 : shC t = false := by rcases ht with rfl | rfl <;> kernel_rfl
  have h3 : shI t = false := by rcases ht with rfl | rfl <;> kernel_rfl
  have h4 : shX t = true := by rcases ht with rfl | rfl <;> kernel_rfl
  have h5 : shR t f = false := by rcases ht with rfl | rfl <;> rfl
  have h6 : ¬ t = 6 := by omega
  have h7 : ¬ t = 2 := by omega
  have hr : rightB t f (bodyR t f xs).length = decide ((if shD t f then 5 else 0 : Int) ≤ ((bodyR t f xs).length : Int)) := by
    rw [rightB, if_neg h6, h5, h4, fixT, h1, h2, h3]
    simp [fixN, b4]
  rw [hr, h3, if_neg h7]
  have hF : fillR t f s xs = { fillD (shD t f) (Fr.start t f s (padR t f xs)) (bodyR t f xs) with data := strOfNums (cutB (shD t f) 5 (bodyR t f xs)) } := by
    rw [fillR, h1, h2, h3, h4]; rfl
  have hP : prsRd t f xs = [] := by rw [prsRd, h5]; rfl
  rw [hF, hP]
  cases hD : shD t f with
  | false => simp
  | true =>
    by_cases hl : (bodyR t f xs).length < 5
    · have e1 : decide ((if (true : Bool) = true then 5 else 0 : Int) ≤ ((bodyR t f xs).length : Int)) = false := by simp; omega
      rw [if_pos e1, if_pos ⟨rfl, hl⟩]
    · have e1 : ¬ decide ((if (true : Bool) = true then 5 else 0 : Int) ≤ ((bodyR t f xs).length : Int)) = false := by simp; omega
      rw [if_neg e1, if_neg (by simp), if_neg (fun h => hl h.2)]
end Go.Proofs.Ytefdhbljcnpggaa
