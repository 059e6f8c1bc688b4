/-
  Layer 11: On: what it answers, case by case; what the walks know of memory.
-/
import Derived.Test.YtighhdgaaelcdaaBkCheck
import Derived.Test.YtighhdgaaelcdaaFhHasR
namespace Go.Proofs.Ytighhdgaaelcdaa
set_option linter.unusedSimpArgs false
set_option linter.unusedVariables false
open Go.RowKit

/-- Four results: two structs in memory, and two slots. -/
theorem results_cell2_tmp2_blk {P : Program} {fn : Func} {p q u v : Tmp} {tp tq : TypeId} (h : fn.results = #[.cell p tp, .cell q tq, .tmp u, .tmp v]) (tmps : Array Value) (w : World) (g k : Nat) (t t' : TypeId) (cs ds : Array Value) (d e : TypeDesc)
    (hp : tmps.getD p undef = .pointer (some ⟨g, 0, none⟩)) (hq : tmps.getD q undef = .pointer (some ⟨k, 0, none⟩)) (hg : BlkIs w g t cs) (hk : BlkIs w k t' ds)
    (hu : P.underlying tp = some d) (hd : (match d with | .struct _ | .array _ _ => true | _ => false) = true) (hi : (P.info? tp).map (·.size) = some cs.size)
    (hu' : P.underlying tq = some e) (hd' : (match e with | .struct _ | .array _ _ => true | _ => false) = true) (hi' : (P.info? tq).map (·.size) = some ds.size)
    (x y : Value) (hx : tmps.getD u undef = x) (hy : tmps.getD v undef = y) :
    (results fn tmps).run P w = .ok (.tuple #[.agg cs, .agg ds, x, y]) w := by
  have l1 := run_loadVar_row w g t tp cs (0, 0) d hg hu hd hi
  have l2 := run_loadVar_row w k t' tq ds (0, 0) e hk hu' hd' hi'
  have hp' : tmps[p]?.getD undef = .pointer (some ⟨g, 0, none⟩) := by simpa using hp
  have hq' : tmps[q]?.getD undef = .pointer (some ⟨k, 0, none⟩) := by simpa using hq
  have hx' : tmps[u]?.getD undef = x := by simpa using hx
  have hy' : tmps[v]?.getD undef = y := by simpa using hy
  simp only [results, h]
  simp [Sem.run_bind, Result.andThen, hp', hq', hx', hy', asAddr, l1, l2]

/-- What On leaves. -/
def GivesOn (k : IntKind) (r : OnR) (w : World) (e : Ending) (w' : World) : Prop :=
  e = .returned (.tuple #[.agg #[.int .i64 r.st.s, .string r.st.d, .bool r.st.e], .agg #[.int .i64 r.wh.s, .string r.wh.d, .bool r.wh.e], .bool r.is, .int k r.c]) ∧ Below w.heap.size w w'

/-- The cases of On. -/
inductive OnK (s : Int) (d : ByteArray) (e : Bool) (F : Fr) : Prop
  | bad (hc : ¬ Bk.chk ⟨s, d, e⟩ = 0) (r : onB ⟨s, d, e⟩ F = ⟨⟨s, d, e⟩, Bk.zero, false, 0⟩)
  | far (hc : Bk.chk ⟨s, d, e⟩ = 0) (hp : partB F.ty = true) (hs : strB F.st = false) (r : onB ⟨s, d, e⟩ F = ⟨⟨s, d, e⟩, Bk.zero, false, 0⟩)
  | between (hc : Bk.chk ⟨s, d, e⟩ = 0) (hp : partB F.ty = true → strB F.st = true) (hz : ¬ s = 0) (h9 : ¬ F.ty = 9) (r : onB ⟨s, d, e⟩ F = ⟨⟨s, d, e⟩, Bk.zero, false, 1⟩)
  | other (hc : Bk.chk ⟨s, d, e⟩ = 0) (hs : strB F.st = true) (hz : ¬ s = 0) (h9 : F.ty = 9) (hne : ¬ F.st = s) (r : onB ⟨s, d, e⟩ F = ⟨⟨s, d, e⟩, Bk.zero, false, 1⟩)
  | alone (hc : Bk.chk ⟨s, d, e⟩ = 0) (hs : strB F.st = true) (hz : s = 0) (h9 : F.ty = 9) (r : onB ⟨s, d, e⟩ F = ⟨⟨s, d, e⟩, Bk.zero, false, 1⟩)
  | nothing (hc : Bk.chk ⟨s, d, e⟩ = 0) (hz : s = 0) (h1 : ¬ F.ty = 1) (h9 : ¬ F.ty = 9) (r : onB ⟨s, d, e⟩ F = ⟨⟨s, d, e⟩, Bk.zero, false, 0⟩)
  | long (hc : Bk.chk ⟨s, d, e⟩ = 0) (hs : strB F.st = true) (hk : s = 0 ∧ F.ty = 1 ∨ ¬ s = 0 ∧ F.ty = 9 ∧ F.st = s) (hl : 4096 < d.size + F.data.size) (r : onB ⟨s, d, e⟩ F = ⟨⟨s, d, e⟩, Bk.zero, false, 11⟩)
  | whole (hc : Bk.chk ⟨s, d, e⟩ = 0) (hs : strB F.st = true) (hk : s = 0 ∧ F.ty = 1 ∨ ¬ s = 0 ∧ F.ty = 9 ∧ F.st = s) (hl : ¬ 4096 < d.size + F.data.size) (h4 : hasB F.fl 4 = true) (r : onB ⟨s, d, e⟩ F = ⟨Bk.zero, Bk.grow ⟨s, d, e⟩ F, true, 0⟩)
  | more (hc : Bk.chk ⟨s, d, e⟩ = 0) (hs : strB F.st = true) (hk : s = 0 ∧ F.ty = 1 ∨ ¬ s = 0 ∧ F.ty = 9 ∧ F.st = s) (hl : ¬ 4096 < d.size + F.data.size) (h4 : hasB F.fl 4 = false) (r : onB ⟨s, d, e⟩ F = ⟨Bk.grow ⟨s, d, e⟩ F, Bk.zero, false, 0⟩)
theorem strB_no {n : Int} : strB n = false ↔ (n < 1 ∨ 2147483647 < n) := by simp [strB]; omega
theorem strB_yes {n : Int} : strB n = true ↔ (1 ≤ n ∧ n ≤ 2147483647) := by simp [strB]
theorem partB_yes {n : Int} : partB n = true ↔ (n = 1 ∨ n = 9) := by simp [partB]
theorem on_cases (s : Int) (d : ByteArray) (e : Bool) (F : Fr) : OnK s d e F := by
  by_cases hc : Bk.chk ⟨s, d, e⟩ = 0
  · by_cases hf : partB F.ty = true ∧ strB F.st = false
    · obtain ⟨hp, hs⟩ := hf
      refine .far hc hp hs ?_
      have h1 := partB_yes.1 hp
      have h2 := strB_no.1 hs
      rw [onB, if_pos (.inr ⟨h1, h2⟩)]
    · have n1 : ¬ (Bk.chk ⟨s, d, e⟩ ≠ 0 ∨ (F.ty = 1 ∨ F.ty = 9) ∧ (F.st < 1 ∨ 2147483647 < F.st)) := by
        rintro (h | ⟨h1, h2⟩)
        · exact h hc
        · exact hf ⟨partB_yes.2 h1, strB_no.2 h2⟩
      have hp : partB F.ty = true → strB F.st = true := fun h => by
        cases hs : strB F.st with
        | true => rfl
        | false => exact absurd ⟨h, hs⟩ hf
      by_cases hz : s = 0
      · by_cases h9 : F.ty = 9
        · refine .alone hc (hp (partB_yes.2 (.inr h9))) hz h9 ?_
          rw [onB, if_neg n1, if_neg (by simp [hz]), if_pos ⟨hz, h9⟩]
        · by_cases h1 : F.ty = 1
          · have e1 : onB ⟨s, d, e⟩ F = if 4096 < d.size + F.data.size then ⟨⟨s, d, e⟩, Bk.zero, false, 11⟩ else if hasB F.fl 4 = true then ⟨Bk.zero, Bk.grow ⟨s, d, e⟩ F, true, 0⟩ else ⟨Bk.grow ⟨s, d, e⟩ F, Bk.zero, false, 0⟩ := by
              rw [onB, if_neg n1, if_neg (by simp [hz]), if_neg (by simp [h9]), if_neg (by simp [h1])]
            have hs := hp (partB_yes.2 (.inl h1))
            by_cases hl : 4096 < d.size + F.data.size
            · exact .long hc hs (.inl ⟨hz, h1⟩) hl (by rw [e1, if_pos hl])
            · cases h4 : hasB F.fl 4 with
              | true => exact .whole hc hs (.inl ⟨hz, h1⟩) hl h4 (by rw [e1, if_neg hl, if_pos h4])
              | false => exact .more hc hs (.inl ⟨hz, h1⟩) hl h4 (by rw [e1, if_neg hl, if_neg (by simp [h4])])
          · refine .nothing hc hz h1 h9 ?_
            rw [onB, if_neg n1, if_neg (by simp [hz]), if_neg (by simp [h9]), if_pos (by simp [h1, h9])]
      · by_cases h9 : F.ty = 9
        · have hs := hp (partB_yes.2 (.inr h9))
          by_cases hne : F.st = s
          · have e1 : onB ⟨s, d, e⟩ F = if 4096 < d.size + F.data.size then ⟨⟨s, d, e⟩, Bk.zero, false, 11⟩ else if hasB F.fl 4 = true then ⟨Bk.zero, Bk.grow ⟨s, d, e⟩ F, true, 0⟩ else ⟨Bk.grow ⟨s, d, e⟩ F, Bk.zero, false, 0⟩ := by
              rw [onB, if_neg n1, if_neg (by simp [h9, hne]), if_neg (by simp [hz]), if_neg (by simp [h9])]
            by_cases hl : 4096 < d.size + F.data.size
            · exact .long hc hs (.inr ⟨hz, h9, hne⟩) hl (by rw [e1, if_pos hl])
            · cases h4 : hasB F.fl 4 with
              | true => exact .whole hc hs (.inr ⟨hz, h9, hne⟩) hl h4 (by rw [e1, if_neg hl, if_pos h4])
              | false => exact .more hc hs (.inr ⟨hz, h9, hne⟩) hl h4 (by rw [e1, if_neg hl, if_neg (by simp [h4])])
          · refine .other hc hs hz h9 hne ?_
            rw [onB, if_neg n1, if_pos ⟨hz, .inr hne⟩]
        · refine .between hc hp hz h9 ?_
          rw [onB, if_neg n1, if_pos ⟨hz, .inl h9⟩]
  · refine .bad hc ?_
    rw [onB, if_pos (.inl hc)]

/-- What On's walk knows of memory: the state, the frame, and the two results' variables. -/
structure OnS (B : Nat) (ts tf tw : TypeId) (w0 w : World) (g : Nat) (s : Int) (d : ByteArray) (e : Bool) (cs : Array Value) : Prop where
  st : BlkIs w g ts #[.int .i64 s, .string d, .bool e]
  fr : BlkIs w (g + 1) tf cs
  r4 : BlkIs w (g + 2) ts #[.int .i64 0, .string ⟨#[]⟩, .bool false]
  r5 : BlkIs w (g + 3) tw #[.int .i64 0, .string ⟨#[]⟩, .bool false]
  bl : Below B w0 w
  le : B ≤ g
section
variable {B : Nat} {ts tf tw : TypeId} {w0 w w' : World} {g : Nat} {s : Int} {d : ByteArray} {e : Bool} {cs : Array Value}
theorem OnS.keep (h : OnS B ts tf tw w0 w g s d e cs) (hb : Below w.heap.size w w') (hB : w0.heap.size = B) : OnS B ts tf tw w0 w' g s d e cs :=
  ⟨h.st.keep hb, h.fr.keep hb, h.r4.keep hb, h.r5.keep hb, h.bl.trans (hb.mono (by have := h.bl.size; omega)), h.le⟩
theorem OnS.drew (h : OnS B ts tf tw w0 w g s d e cs) : OnS B ts tf tw w0 w.drew g s d e cs := ⟨h.st.drew, h.fr.drew, h.r4.drew, h.r5.drew, h.bl.drew, h.le⟩
theorem OnS.alloc (h : OnS B ts tf tw w0 w g s d e cs) (hB : w0.heap.size = B) (o : Obj) : OnS B ts tf tw w0 (w.alloc o) g s d e cs :=
  ⟨h.st.alloc o, h.fr.alloc o, h.r4.alloc o, h.r5.alloc o, h.bl.alloc (by have := h.bl.size; omega) o, h.le⟩
theorem OnS.start (w : World) (ts tf tw : TypeId) (s : Int) (d : ByteArray) (e : Bool) (cs : Array Value) :
    OnS w.heap.size ts tf tw w ((((w.alloc (.cells #[.int .i64 s, .string d, .bool e] ts)).alloc (.cells cs tf)).alloc (.cells #[.int .i64 0, .string ⟨#[]⟩, .bool false] ts)).alloc (.cells #[.int .i64 0, .string ⟨#[]⟩, .bool false] tw)) w.heap.size s d e cs := by
  refine ⟨(((BlkIs.new w _ _).alloc _).alloc _).alloc _, ((blk_two).alloc _).alloc _, ?_, ?_, (below_three).alloc (by simp; omega) _, Nat.le_refl _⟩
  · have := (BlkIs.new ((w.alloc (.cells #[.int .i64 s, .string d, .bool e] ts)).alloc (.cells cs tf)) ts #[.int .i64 0, .string ⟨#[]⟩, .bool false]).alloc (.cells #[.int .i64 0, .string ⟨#[]⟩, .bool false] tw)
    simpa using this
  · have := (BlkIs.new (((w.alloc (.cells #[.int .i64 s, .string d, .bool e] ts)).alloc (.cells cs tf)).alloc (.cells #[.int .i64 0, .string ⟨#[]⟩, .bool false] ts)) tw #[.int .i64 0, .string ⟨#[]⟩, .bool false])
    simpa using this
/-- A result stored. -/
theorem OnS.done (h : OnS B ts tf tw w0 w g s d e cs) (x y : Array Value) : BlkIs ((w.setRow (g + 2) x).setRow (g + 3) y) (g + 2) ts x ∧ BlkIs ((w.setRow (g + 2) x).setRow (g + 3) y) (g + 3) tw y ∧ Below B w0 ((w.setRow (g + 2) x).setRow (g + 3) y) := by
  have hl := h.le
  exact ⟨(h.r4.row x).row_other (by omega) y, (h.r5.row_other (by omega) x).row y, below_setRow (below_setRow h.bl (by omega) x) (by omega) y⟩
theorem OnS.done' (h : OnS B ts tf tw w0 w g s d e cs) (x y : Array Value) : BlkIs ((w.setRow (g + 3) y).setRow (g + 2) x) (g + 2) ts x ∧ BlkIs ((w.setRow (g + 3) y).setRow (g + 2) x) (g + 3) tw y ∧ Below B w0 ((w.setRow (g + 3) y).setRow (g + 2) x) := by
  have hl := h.le
  exact ⟨(h.r4.row_other (by omega) y).row x, (h.r5.row y).row_other (by omega) x, below_setRow (below_setRow h.bl (by omega) y) (by omega) x⟩
/-- Both results stored cell by cell. -/
theorem OnS.put6 (h : OnS B ts tf tw w0 w g s d e cs) (x0 x1 x2 y0 y1 y2 : Value) :
    BlkIs ((((((w.setCell ⟨g + 2, 0, none⟩ x0).setCell ⟨g + 2, 1, none⟩ x1).setCell ⟨g + 2, 2, none⟩ x2).setCell ⟨g + 3, 0, none⟩ y0).setCell ⟨g + 3, 1, none⟩ y1).setCell ⟨g + 3, 2, none⟩ y2).drew (g + 2) ts #[x0, x1, x2] ∧
    BlkIs ((((((w.setCell ⟨g + 2, 0, none⟩ x0).setCell ⟨g + 2, 1, none⟩ x1).setCell ⟨g + 2, 2, none⟩ x2).setCell ⟨g + 3, 0, none⟩ y0).setCell ⟨g + 3, 1, none⟩ y1).setCell ⟨g + 3, 2, none⟩ y2).drew (g + 3) tw #[y0, y1, y2] ∧
    Below B w0 ((((((w.setCell ⟨g + 2, 0, none⟩ x0).setCell ⟨g + 2, 1, none⟩ x1).setCell ⟨g + 2, 2, none⟩ x2).setCell ⟨g + 3, 0, none⟩ y0).setCell ⟨g + 3, 1, none⟩ y1).setCell ⟨g + 3, 2, none⟩ y2).drew := by
  have hl := h.le
  refine ⟨?_, ?_, ?_⟩
  · exact (((((((h.r4.put 0 x0).put 1 x1).put 2 x2).far (by simp) y0).far (by simp) y1).far (by simp) y2).drew)
  · exact (((((((h.r5.far (by simp) x0).far (by simp) x1).far (by simp) x2).put 0 y0).put 1 y1).put 2 y2).drew)
  · exact ((((((h.bl.setCell (p := ⟨g + 2, 0, none⟩) (by simp; omega) x0).setCell (p := ⟨g + 2, 1, none⟩) (by simp; omega) x1).setCell (p := ⟨g + 2, 2, none⟩) (by simp; omega) x2).setCell (p := ⟨g + 3, 0, none⟩) (by simp; omega) y0).setCell (p := ⟨g + 3, 1, none⟩) (by simp; omega) y1).setCell (p := ⟨g + 3, 2, none⟩) (by simp; omega) y2).drew
end
end Go.Proofs.Ytighhdgaaelcdaa
