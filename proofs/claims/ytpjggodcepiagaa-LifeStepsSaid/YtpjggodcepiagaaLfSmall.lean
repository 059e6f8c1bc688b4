/-
  Layer 16: the program's small functions.
-/
import Derived.Test.YtpjggodcepiagaaLfMath
import Derived.Test.YtpjggodcepiagaaRows
import Derived.Test.YtpjggodcepiagaaMem
import Derived.Test.YtpjggodcepiagaaOps
import Derived.Test.YtpjggodcepiagaaChecked
namespace Go.Proofs.Ytpjggodcepiagaa
set_option linter.unusedSimpArgs false
set_option linter.unusedVariables false
open Go.RowKit

/-- Results: a slot, and a struct in memory. -/
theorem results_tmp_cell_blk {P : Program} {fn : Func} {p u : Tmp} {ty : TypeId} (h : fn.results = #[.tmp u, .cell p ty]) (tmps : Array Value) (w : World) (g : Nat) (t : TypeId) (cs : Array Value) (d : TypeDesc)
    (hp : tmps.getD p undef = .pointer (some ⟨g, 0, none⟩)) (hg : BlkIs w g t cs)
    (hu : P.underlying ty = some d) (hd : (match d with | .struct _ | .array _ _ => true | _ => false) = true) (hi : (P.info? ty).map (·.size) = some cs.size) (v : Value) (hv : tmps.getD u undef = v) :
    (results fn tmps).run P w = .ok (.tuple #[v, .agg cs]) w := by
  simp only [results, h]
  simp only [Array.getD_eq_getD_getElem?] at hp hv
  simp [Sem.run_bind, Result.andThen, hp, hv, asAddr, run_loadVar_row w g t ty cs (0, 0) d hg hu hd hi]
/-- And a slot behind it. -/
theorem results_tmp_cell_tmp_blk {P : Program} {fn : Func} {p u q : Tmp} {ty : TypeId} (h : fn.results = #[.tmp u, .cell p ty, .tmp q]) (tmps : Array Value) (w : World) (g : Nat) (t : TypeId) (cs : Array Value) (d : TypeDesc)
    (hp : tmps.getD p undef = .pointer (some ⟨g, 0, none⟩)) (hg : BlkIs w g t cs)
    (hu : P.underlying ty = some d) (hd : (match d with | .struct _ | .array _ _ => true | _ => false) = true) (hi : (P.info? ty).map (·.size) = some cs.size) (v : Value) (hv : tmps.getD u undef = v) (x : Value) (hx : tmps.getD q undef = x) :
    (results fn tmps).run P w = .ok (.tuple #[v, .agg cs, x]) w := by
  simp only [results, h]
  simp only [Array.getD_eq_getD_getElem?] at hp hv hx
  simp [Sem.run_bind, Result.andThen, hp, hv, hx, asAddr, run_loadVar_row w g t ty cs (0, 0) d hg hu hd hi]

theorem vd_size : (Try.prog.info? 27).map (·.size) = some 3 := by kernel_rfl
theorem vr_size : (Try.prog.info? 32).map (·.size) = some 3 := by kernel_rfl
/-- Results: a state and a verdict. -/
theorem results_sv {fn : Func} {p u : Tmp} (h : fn.results = #[.tmp u, .cell p 27]) (tmps : Array Value) (w : World) (g : Nat) (a b c v : Value)
    (hp : tmps.getD p undef = .pointer (some ⟨g, 0, none⟩)) (hg : BlkIs w g 27 #[a, b, c]) (hv : tmps.getD u undef = v) :
    (results fn tmps).run Try.prog w = .ok (.tuple #[v, .agg #[a, b, c]]) w := results_tmp_cell_blk h tmps w g _ _ _ hp hg Try.underlying27 rfl vd_size v hv
theorem results_rv {fn : Func} {p u : Tmp} (h : fn.results = #[.tmp u, .cell p 32]) (tmps : Array Value) (w : World) (g : Nat) (a b c v : Value)
    (hp : tmps.getD p undef = .pointer (some ⟨g, 0, none⟩)) (hg : BlkIs w g 32 #[a, b, c]) (hv : tmps.getD u undef = v) :
    (results fn tmps).run Try.prog w = .ok (.tuple #[v, .agg #[a, b, c]]) w := results_tmp_cell_blk h tmps w g _ _ _ hp hg Try.underlying32 rfl vr_size v hv
theorem results_v {fn : Func} {p : Tmp} (h : fn.results = #[.cell p 27]) (tmps : Array Value) (w : World) (g : Nat) (a b c : Value)
    (hp : tmps.getD p undef = .pointer (some ⟨g, 0, none⟩)) (hg : BlkIs w g 27 #[a, b, c]) :
    (results fn tmps).run Try.prog w = .ok (.agg #[a, b, c]) w := results_cell_blk h tmps w g _ _ _ hp hg Try.underlying27 rfl vd_size
theorem results_r {fn : Func} {p : Tmp} (h : fn.results = #[.cell p 32]) (tmps : Array Value) (w : World) (g : Nat) (a b c : Value)
    (hp : tmps.getD p undef = .pointer (some ⟨g, 0, none⟩)) (hg : BlkIs w g 32 #[a, b, c]) :
    (results fn tmps).run Try.prog w = .ok (.agg #[a, b, c]) w := results_cell_blk h tmps w g _ _ _ hp hg Try.underlying32 rfl vr_size

theorem lf_Takes (s : Int) (w : World) : Calls Try.prog 10 #[.int .u8 s] w fun e w' => e = .returned (.bool (tkB s)) ∧ w' = w := by
  by_cases h1 : s = 1
  · subst h1
    go_enter Try.func10, Try.ntmps10
    go_wp2
    go_ret
    exact ⟨rfl, rfl⟩
  · go_enter Try.func10, Try.ntmps10
    go_wp2
    go_ret
    exact ⟨rfl, rfl⟩

theorem lf_Sends (s : Int) (w : World) : Calls Try.prog 11 #[.int .u8 s] w fun e w' => e = .returned (.bool (sdB s)) ∧ w' = w := by
  by_cases h1 : s = 1
  · subst h1
    go_enter Try.func11, Try.ntmps11
    go_wp2
    go_ret
    exact ⟨rfl, rfl⟩
  · go_enter Try.func11, Try.ntmps11
    go_wp2
    go_ret
    exact ⟨rfl, rfl⟩

theorem lf_Over (s : Int) (w : World) : Calls Try.prog 12 #[.int .u8 s] w fun e w' => e = .returned (.bool (ovB s)) ∧ w' = w := by
  by_cases h1 : s = 4
  · subst h1
    go_enter Try.func12, Try.ntmps12
    go_wp2
    go_ret
    exact ⟨rfl, rfl⟩
  · go_enter Try.func12, Try.ntmps12
    go_wp2
    go_ret
    exact ⟨rfl, rfl⟩

theorem lf_isLive (s : Int) (w : World) : Calls Try.prog 20 #[.int .u8 s] w fun e w' => e = .returned (.bool (lvB s)) ∧ w' = w := by
  have H1 := hide (fun w => lf_Takes s w)
  have H2 := hide (fun w => lf_Sends s w)
  unfold lvB
  cases ht : tkB s
  all_goals
    rw [ht] at H1
    clear ht
    cases hs : sdB s
    all_goals
      rw [hs] at H2
      clear hs
      go_enter Try.func20, Try.ntmps20
      go_wp2_with (first | (go_at_call 10; refine (H1.out _).mono ?_; rintro e w1 ⟨rfl, rfl⟩) | (go_at_call 11; refine (H2.out _).mono ?_; rintro e w1 ⟨rfl, rfl⟩))
      go_ret
      exact ⟨rfl, rfl⟩

theorem lf_behind (s : Int) (b : Bool) (h : Int) (w : World) : Calls Try.prog 17 #[.int .u8 s, .bool b, .int .u8 h] w fun e w' => e = .returned (.int .u8 (behR s b h)) ∧ w' = w := by
  cases b with
  | false =>
    rw [show behR s false h = s by unfold behR; simp]
    go_enter Try.func17, Try.ntmps17
    go_wp2
    go_ret
    exact ⟨rfl, rfl⟩
  | true =>
    by_cases h1 : s = 1
    · subst h1
      rw [show behR 1 true h = h by unfold behR; simp]
      go_enter Try.func17, Try.ntmps17
      go_wp2
      go_ret
      exact ⟨rfl, rfl⟩
    · rw [show behR s true h = 4 by unfold behR; simp [h1]]
      go_enter Try.func17, Try.ntmps17
      go_wp2
      go_ret
      exact ⟨rfl, rfl⟩

theorem lf_ofConn (c : Int) (w : World) : Calls Try.prog 16 #[.int .u32 c] w fun e w' => e = .returned (.agg #[.int .u32 c, .bool true, .bool false]) ∧ Below w.heap.size w w' := by
  go_enter Try.func16, Try.ntmps16
  go_wp2
  exact bodyPost_ret (results_v rfl _ _ w.heap.size _ _ _ rfl (BlkIs.new _ _ _)) rfl ⟨rfl, bel1 w _⟩

theorem lf_ofStream (c : Int) (w : World) : Calls Try.prog 18 #[.int .u32 c] w fun e w' => e = .returned (.agg #[.int .u32 c, .bool false, .bool false]) ∧ Below w.heap.size w w' := by
  go_enter Try.func18, Try.ntmps18
  go_wp2
  exact bodyPost_ret (results_v rfl _ _ w.heap.size _ _ _ rfl (BlkIs.new _ _ _)) rfl ⟨rfl, bel1 w _⟩

end Go.Proofs.Ytpjggodcepiagaa
