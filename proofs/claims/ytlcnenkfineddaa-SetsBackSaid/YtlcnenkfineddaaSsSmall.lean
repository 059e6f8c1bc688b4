/-
  Layer 12: the program's small functions; whether two values, two of them by their numbers, are one.
-/
import Derived.Test.YtlcnenkfineddaaSsMath
import Derived.Test.YtlcnenkfineddaaRegW
import Derived.Laws.StructEq
import Derived.DeepKeys
namespace Go.Proofs.Ytlcnenkfineddaa
set_option linter.unusedSimpArgs false
set_option linter.unusedVariables false
open Go.RowKit

theorem ss_size : (Try.prog.info? 26).map (·.size) = some 6 := by kernel_rfl
theorem rs_size : (Try.prog.info? 23).map (·.size) = some 6 := by kernel_rfl
theorem sn_size : (Try.prog.info? 50).map (·.size) = some 7 := by kernel_rfl

/-- '==' of two values by their numbers. -/
theorem eq_arr (v w : Vs) (W : World) : (Op.equalIn 10000 50 (.agg v.arr) (.agg w.arr)).run Try.prog W = .ok (decide (v = w)) W := by
  obtain ⟨a, b, c, d, e, f⟩ := v
  obtain ⟨a', b', c', d', e', f'⟩ := w
  have u3 := Try.underlying3
  have a3 := Try.isAgg3
  have z3 := Try.sizeOf3
  rw [show (10000 : Nat) = 9999 + 1 from rfl, Op.equalIn]
  simp only [Sem.run_bind, run_underlying Try.underlying50, Result.andThen_ok]
  simp only [Std.Legacy.Range.forIn_eq_forIn_range', Std.Legacy.Range.size, Nat.sub_zero, Nat.add_sub_cancel, Nat.div_one, List.range'_succ, List.range'_zero, List.forIn_cons, List.forIn_nil, Vs.arr]
  go_simp
  by_cases h1 : a = a' <;> simp [h1]
  by_cases h2 : b = b' <;> simp [h2]
  by_cases h3 : c = c' <;> simp [h3]
  by_cases h4 : d = d' <;> simp [h4]
  by_cases h5 : e = e' <;> simp [h5]
  by_cases h6 : f = f' <;> simp [h6]
theorem eq_cs (v w : Vs) (W : World) : (Op.equalIn 10000 26 (.agg v.cs) (.agg w.cs)).run Try.prog W = .ok (decide (v = w)) W := by
  obtain ⟨a, b, c, d, e, f⟩ := v
  obtain ⟨a', b', c', d', e', f'⟩ := w
  have u3 := Try.underlying3
  have a3 := Try.isAgg3
  have z3 := Try.sizeOf3
  have hS : Try.prog.underlying 26 = some (.struct (Try.prog.fieldsOf 26)) := by kernel_rfl
  have hp : Try.prog.stoodInHeld 26 = false := by kernel_rfl
  rw [show (10000 : Nat) = 9999 + 1 from rfl, run_equalIn_agg W 9999 26 _ _ hS hp]
  simp only [Program.fieldsOf, Try.underlying26, Vs.cs]
  go_simp
  by_cases h1 : a = a' <;> simp [h1]
  by_cases h2 : b = b' <;> simp [h2]
  by_cases h3 : c = c' <;> simp [h3]
  by_cases h4 : d = d' <;> simp [h4]
  by_cases h5 : e = e' <;> simp [h5]
  by_cases h6 : f = f' <;> simp [h6]
theorem eq_rcs (v w : Vs) (W : World) : (Op.equalIn 10000 23 (.agg v.cs) (.agg w.cs)).run Try.prog W = .ok (decide (v = w)) W := by
  obtain ⟨a, b, c, d, e, f⟩ := v
  obtain ⟨a', b', c', d', e', f'⟩ := w
  have u3 := Try.underlying3
  have a3 := Try.isAgg3
  have z3 := Try.sizeOf3
  have hS : Try.prog.underlying 23 = some (.struct (Try.prog.fieldsOf 23)) := by kernel_rfl
  have hp : Try.prog.stoodInHeld 23 = false := by kernel_rfl
  rw [show (10000 : Nat) = 9999 + 1 from rfl, run_equalIn_agg W 9999 23 _ _ hS hp]
  simp only [Program.fieldsOf, Try.underlying23, Vs.cs]
  go_simp
  by_cases h1 : a = a' <;> simp [h1]
  by_cases h2 : b = b' <;> simp [h2]
  by_cases h3 : c = c' <;> simp [h3]
  by_cases h4 : d = d' <;> simp [h4]
  by_cases h5 : e = e' <;> simp [h5]
  by_cases h6 : f = f' <;> simp [h6]

theorem new2 (w : World) (o : Obj) (t : TypeId) (cs : Array Value) : BlkIs ((w.alloc o).alloc (.cells cs t)) (w.heap.size + 1) t cs := by
  have := BlkIs.new (w.alloc o) t cs
  rwa [World.size_alloc] at this
theorem new3 (w : World) (o o' : Obj) (t : TypeId) (cs : Array Value) : BlkIs (((w.alloc o).alloc o').alloc (.cells cs t)) (w.heap.size + 1 + 1) t cs := by
  have := BlkIs.new ((w.alloc o).alloc o') t cs
  rwa [World.size_alloc, World.size_alloc] at this
theorem bel1 (w : World) (o : Obj) : Below w.heap.size w (w.alloc o) := (Below.refl _ _).alloc (Nat.le_refl _) _
theorem bel2 (w : World) (o o' : Obj) : Below w.heap.size w ((w.alloc o).alloc o') := (bel1 w o).alloc (by simp) _
theorem bel3 (w : World) (o o' o'' : Obj) : Below w.heap.size w (((w.alloc o).alloc o').alloc o'') := (bel2 w o o').alloc (by simp; omega) _
theorem vs_zero : Vs.zero.cs = #[.int .i64 0, .int .i64 0, .int .i64 0, .int .i64 0, .int .i64 0, .int .i64 0] := rfl
/-- What a call gives that answers values. -/
def GivesCs (x : Array Value) (w : World) (e : Ending) (w' : World) : Prop := e = .returned (.agg x) ∧ Below w.heap.size w w'

theorem ss_First (w : World) : Calls Try.prog 12 #[] w (GivesCs Vs.first.cs w) := by
  go_enter Try.func12, Try.ntmps12
  go_wp2
  exact bodyPost_ret (results_cell_blk rfl _ _ w.heap.size 26 Vs.first.cs _ rfl (BlkIs.new w _ _) Try.underlying26 rfl ss_size) rfl ⟨rfl, (Below.refl _ _).alloc (Nat.le_refl _) _⟩
theorem rs_First (w : World) : Calls Try.prog 13 #[] w (GivesCs Vs.first.cs w) := by
  go_enter Try.func13, Try.ntmps13
  go_wp2
  exact bodyPost_ret (results_cell_blk rfl _ _ w.heap.size 23 Vs.first.cs _ rfl (BlkIs.new w _ _) Try.underlying23 rfl rs_size) rfl ⟨rfl, (Below.refl _ _).alloc (Nat.le_refl _) _⟩

theorem ss_isNumber (i : Int) (w : World) : Calls Try.prog 21 #[.int .u16 i] w fun e w' => e = .returned (.bool (isN i)) ∧ w' = w := by
  have HS := hide (show isN i = (decide (1 ≤ i) && decide (i ≤ 6)) from rfl)
  by_cases h1 : 1 ≤ i
  · go_enter Try.func21, Try.ntmps21
    go_wp2
    go_ret
    exact ⟨by rw [HS.out]; simp [h1], rfl⟩
  · go_enter Try.func21, Try.ntmps21
    go_wp2
    go_ret
    exact ⟨by rw [HS.out]; simp; omega, rfl⟩
theorem ss_fault {p : Pr} (h : ¬ fltC p = 0) (w : World) : Calls Try.prog 22 #[.int .u16 p.i] w fun e w' => e = .returned (.int .u32 (fltC p)) ∧ w' = w := by
  have HF := hide (flt_code h)
  generalize fltC p = c at *
  generalize p.i = i at *
  clear h
  by_cases h4 : i = 4
  · have HC := hide (HF.out.trans (if_pos h4))
    subst h4
    clear HF
    go_enter Try.func22, Try.ntmps22
    go_wp2
    go_ret
    exact ⟨by rw [HC.out]; rfl, rfl⟩
  · have HC := hide (HF.out.trans (if_neg h4))
    clear HF
    go_enter Try.func22, Try.ntmps22
    go_wp2
    go_ret
    exact ⟨by rw [HC.out]; rfl, rfl⟩

set_option maxHeartbeats 1600000 in
theorem ss_byNumber (v : Vs) (w : World) : Calls Try.prog 19 #[.agg v.cs] w (GivesCs v.arr w) := by
  obtain ⟨a, b, c, d, e, f⟩ := v
  show Calls Try.prog 19 #[.agg #[.int .i64 a, .int .i64 b, .int .i64 c, .int .i64 d, .int .i64 e, .int .i64 f]] w (GivesCs #[.int .i64 0, .int .i64 a, .int .i64 b, .int .i64 c, .int .i64 d, .int .i64 e, .int .i64 f] w)
  go_enter Try.func19, Try.ntmps19
  go_wp2
  exact bodyPost_ret (results_cell_blk rfl _ _ (w.heap.size + 1) 50 _ _ rfl (new2 w _ _ _) Try.underlying50 rfl sn_size) rfl ⟨rfl, bel2 w _ _⟩
set_option maxHeartbeats 1600000 in
theorem ss_byName (v : Vs) (w : World) : Calls Try.prog 23 #[.agg v.arr] w (GivesCs v.cs w) := by
  obtain ⟨a, b, c, d, e, f⟩ := v
  show Calls Try.prog 23 #[.agg #[.int .i64 0, .int .i64 a, .int .i64 b, .int .i64 c, .int .i64 d, .int .i64 e, .int .i64 f]] w (GivesCs #[.int .i64 a, .int .i64 b, .int .i64 c, .int .i64 d, .int .i64 e, .int .i64 f] w)
  go_enter Try.func23, Try.ntmps23
  go_wp2
  exact bodyPost_ret (results_cell_blk rfl _ _ (w.heap.size + 1) 26 _ _ rfl (new2 w _ _ _) Try.underlying26 rfl ss_size) rfl ⟨rfl, bel2 w _ _⟩
end Go.Proofs.Ytlcnenkfineddaa
