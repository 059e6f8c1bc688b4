/-
  Layer 2: a coder builds its tree once.
-/
import Derived.Test.YtjnjganmdbkpoaaHfBuild
namespace Go.Proofs.Ytjnjganmdbkpoaa
open Go.RowKit

/-- What the first Do leaves. -/
def Did (w : World) (g : Nat) (e : Ending) (w' : World) : Prop :=
  ∃ T, e = .returned (.tuple #[]) ∧ BlkIs w' g 68 (coderA 1 0 1 (.slice (some ⟨T, 0, none⟩) 256 256)) ∧ BlkIs w' T 72 (treeA treeL) ∧ w.heap.size ≤ T ∧ KB (· = g) w w'

set_option maxRecDepth 100000 in
set_option maxHeartbeats 1600000 in
theorem hf_slow (g : Nat) (w : World) (hg : BlkIs w g 68 (coderA 0 0 0 (.slice none 0 0))) :
    Calls Try.prog 33 #[.pointer (some ⟨g, 0, none⟩), .func (.func 24) #[.pointer (some ⟨g, 0, none⟩)] #[]] w (Did w g) := by
  have c1 : w.cell? ⟨g, 1, none⟩ = some (.int .i32 0) := hg.cell 1
  have f1 := hg.frozen 1
  have G1 := hide (hg.put 1 (.int .i32 1))
  have K1 := hide ((KB.refl (· = g) w).setCell (p := ⟨g, 1, none⟩) (fun _ => rfl) (.int .i32 1))
  have c0 : (w.setCell ⟨g, 1, none⟩ (.int .i32 1)).cell? ⟨g, 0, none⟩ = some (.int .u32 0) := G1.out.cell 0
  have hl := run_call_load (P := Try.prog) Try.func37 (by kernel_rfl) (by kernel_rfl) (by kernel_rfl) .u32 (by kernel_rfl) c0
  have hnot : ∀ (x : Bool) (w : World), (Op.unary .not (.bool x)).run Try.prog w = .ok (.bool (!x)) w := fun _ _ => rfl
  have GL := hide hg.lt
  clear hg c0
  go_enter_defers Try.func33, Try.ntmps33
  go_wp2_with (first
    | (go_at_call 38; refine (sy_lock_free ⟨g, 1, none⟩ _ c1 f1).mono ?_; rintro e w' ⟨rfl, rfl⟩)
    | (go_at_call 32; go_in)
    | (go_at_call 24; refine (hf_build g 1 _ G1.out).mono ?_; rintro e w5 ⟨T, rfl, hg5, hT5, hle, hK5⟩))
  have hTne : g ≠ T := by have := GL.out; have : w.heap.size ≤ T := by simpa [World.setCell] using hle
                          omega
  have d1 : BlkIs (w5.drew.setCell ⟨g, 0, none⟩ (.int .u32 1)) g 68 (coderA 1 1 1 (.slice (some ⟨T, 0, none⟩) 256 256)) := hg5.drew.put 0 _
  refine leaves_cons (f := 40) (args := #[.pointer (some ⟨g, 0, none⟩), .bool true]) (by simp) (by simp [go_sem]) ?_
  refine (sy_store_deferred ⟨g, 0, none⟩ (.int .u32 0) .returning _ (hg5.cell 0) (hg5.frozen 0)).mono ?_
  rintro e u' w'' ⟨rfl, rfl, rfl⟩
  refine leaves_cons (f := 39) (args := #[.pointer (some ⟨g, 1, none⟩)]) (by simp [settle]) (by simp [go_sem]) ?_
  refine (sy_unlock_deferred ⟨g, 1, none⟩ _ _ (d1.cell 1) (d1.frozen 1)).mono ?_
  rintro e u' w'' ⟨rfl, rfl, rfl⟩
  have d2 : BlkIs ((w5.drew.setCell ⟨g, 0, none⟩ (.int .u32 1)).setCell ⟨g, 1, none⟩ (.int .i32 0)) g 68 (coderA 1 0 1 (.slice (some ⟨T, 0, none⟩) 256 256)) := d1.put 1 _
  have D : Did w g (.returned (.tuple #[])) ((w5.drew.setCell ⟨g, 0, none⟩ (.int .u32 1)).setCell ⟨g, 1, none⟩ (.int .i32 0)) :=
    ⟨T, rfl, d2, (hT5.drew.far (p := ⟨g, 0, none⟩) hTne.symm _).far (p := ⟨g, 1, none⟩) hTne.symm _, by simpa [World.setCell] using hle, ((K1.out.trans hK5).drew.setCell (fun _ => rfl) _).setCell (fun _ => rfl) _⟩
  have HD := hide D
  clear D d1 d2 hT5 hg5 hK5
  simp only [Leaves, settle, results, Try.results33]
  simp [Leaves, settle, results, Try.results33]
  exact HD.out

set_option maxRecDepth 100000 in
set_option maxHeartbeats 1600000 in
theorem hf_do_first (g : Nat) (w : World) (hg : BlkIs w g 68 (coderA 0 0 0 (.slice none 0 0))) :
    Calls Try.prog 23 #[.pointer (some ⟨g, 0, none⟩), .func (.func 24) #[.pointer (some ⟨g, 0, none⟩)] #[]] w (Did w g) := by
  have c0 : w.cell? ⟨g, 0, none⟩ = some (.int .u32 0) := hg.cell 0
  have hl := run_call_load (P := Try.prog) Try.func37 (by kernel_rfl) (by kernel_rfl) (by kernel_rfl) .u32 (by kernel_rfl) c0
  have hnot : ∀ (x : Bool) (w : World), (Op.unary .not (.bool x)).run Try.prog w = .ok (.bool (!x)) w := fun _ _ => rfl
  have HS := hide (hf_slow g w hg)
  clear hg
  go_enter Try.func23, Try.ntmps23
  go_wp2_with (first
    | (go_at_call 33; refine HS.out.mono ?_; rintro e w' hd; (have HD := hide hd); (have he : e = .returned (.tuple #[]) := by obtain ⟨T, he, _⟩ := hd; exact he); subst he; clear hd)
    | (go_at_call 32; go_in))
  go_end0
  exact HD.out

theorem hf_do_done (g : Nat) (w : World) (m b : Int) (T : Value) (fv : Value) (hg : BlkIs w g 68 (coderA 1 m b T)) :
    Calls Try.prog 23 #[.pointer (some ⟨g, 0, none⟩), fv] w fun e w' => e = .returned (.tuple #[]) ∧ w = w' := by
  have c0 : w.cell? ⟨g, 0, none⟩ = some (.int .u32 1) := hg.cell 0
  have hl := run_call_load (P := Try.prog) Try.func37 (by kernel_rfl) (by kernel_rfl) (by kernel_rfl) .u32 (by kernel_rfl) c0
  have hnot : ∀ (x : Bool) (w : World), (Op.unary .not (.bool x)).run Try.prog w = .ok (.bool (!x)) w := fun _ _ => rfl
  go_enter Try.func23, Try.ntmps23
  go_wp2
  go_end0
  exact ⟨rfl, rfl⟩
end Go.Proofs.Ytjnjganmdbkpoaa
