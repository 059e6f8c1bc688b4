/-
  Layer 3: At, the program's; Size, both.
-/
import Derived.Test.YtchndegcnjejiaaStAt
import Derived.Deep.RegionWith
import Derived.RegionCalls
namespace Go.Proofs.Ytchndegcnjejiaa
open Go.RowKit

theorem nmAt_nat (k : Nat) : nmAt ((k : Int) + 1) = nm k := by
  unfold nmAt
  rw [if_pos (by omega), show ((k : Int) + 1 - 1).toNat = k by omega]
theorem vlAt_nat (k : Nat) : vlAt ((k : Int) + 1) = vl k := by
  unfold vlAt
  rw [if_pos (by omega), show ((k : Int) + 1 - 1).toNat = k by omega]
theorem fldAt_nat (k : Nat) : fldAt ((k : Int) + 1) = fldV (nm k) (vl k) false := by rw [fldAt, nmAt_nat, vlAt_nat]
theorem isAt_nat (k : Nat) (h : k < 61) : isAt ((k : Int) + 1) = true := by
  unfold isAt
  simp
  omega

theorem fld_store_run (w : World) (g : Nat) (n v : ByteArray) (b : Bool) {n' v' : ByteArray} {b' : Bool} (hg : BlkIs w g 29 (fldV n' v' b')) (l : List Value) (hl : l = [.string n, .string v, .bool b]) :
    Sem.run Try.prog (storeCells ⟨g, 0, none⟩ l) w = .ok () (w.setRow g (fldV n v b)) := by
  subst hl
  rw [run_storeCells_from g 29 [.string n, .string v, .bool b] 0 (fldV n' v' b') w hg rfl (by intro x hx; simp at hx; rcases hx with rfl | rfl | rfl <;> rfl)]
  rfl

set_option maxRecDepth 100000 in
set_option maxHeartbeats 1600000 in
theorem st_At_yes (k : Nat) (hk : k < 61) (w : World) : Calls Try.prog 23 #[.int .i64 ((k : Int) + 1)] w fun e w' => e = .returned (.tuple #[.agg (fldV (nm k) (vl k) false), .bool true]) ∧ Below w.heap.size w w' := by
  have hz := run_zero_is st_zero_fld
  have hidx := names_index k hk .i64
  have hv := vlAt_nat k
  have h1 : ¬ (k : Int) + 1 < 1 := by omega
  have hwr : IntKind.i64.wrap (k : Int) = (k : Int) := by rw [IntKind.wrap_i64]; omega
  have h2 : (k : Int) + 1 < 62 := by omega
  obtain ⟨N, hN⟩ : ∃ N, N = nm k := ⟨_, rfl⟩
  obtain ⟨V, hV⟩ : ∃ V, V = vl k := ⟨_, rfl⟩
  rw [← hN] at hidx ⊢
  rw [← hV] at hv ⊢
  have HV := hide hv
  clear hN hV hv
  go_enter Try.func23, Try.ntmps23
  go_wp2_with fail
  go_region_with (first
    | (go_at_call 35; refine (st_names _).mono ?_; rintro e w1 ⟨rfl, hb1⟩; have hst := fld_store_run w1 w.heap.size N (vlAt ((k : Int) + 1)) false (((BlkIs.new w 29 (fldV ⟨#[]⟩ ⟨#[]⟩ false)).drew).keep hb1) _ (show ((fldV ⟨#[]⟩ ⟨#[]⟩ false).toList.set 0 (Value.string N)).set 1 (Value.string (vlAt ((k : Int) + 1))) = _ from rfl); have HB1 := hide hb1; clear hb1)
    | (go_at_call 36; refine (st_valueAt _ _).mono ?_; rintro e w1 ⟨rfl, rfl⟩)
    | (with_reducible refine wpList_fld2 rfl _ _ _ _ rfl rfl rfl ?_))
  all_goals
    go_wp2_with fail
    exact bodyPost_ret (results_fld rfl _ _ w.heap.size _ _ _ rfl ((((BlkIs.new w 29 (fldV ⟨#[]⟩ ⟨#[]⟩ false)).drew).keep HB1.out).row _) _ rfl) rfl
      ⟨ret_at (by rw [HV.out]) rfl, below_setRow ((((Below.refl w.heap.size w).alloc (Nat.le_refl _) _).drew).trans (HB1.out.mono (by simp))) (Nat.le_refl _) _⟩

theorem st_At_no (n : Int) (h : isAt n = false) (w : World) : Calls Try.prog 23 #[.int .i64 n] w fun e w' => e = .returned (.tuple #[.agg (fldAt n), .bool false]) ∧ Below w.heap.size w w' := by
  have hz := run_zero_is st_zero_fld
  rw [fldAt_out n h]
  unfold isAt at h
  have h1 : n < 1 ∨ ¬ n < 1 ∧ 62 ≤ n := by simp at h; omega
  clear h
  rcases h1 with h1 | ⟨h1, h2⟩
  all_goals
    go_enter Try.func23, Try.ntmps23
    go_wp2_with (first
      | (with_reducible refine wpList_fld0 rfl rfl ?_)
      | (with_reducible refine wpList_fld_new rfl _ _ _ _ _ _ _ _ rfl rfl rfl ?_))
    exact bodyPost_ret (results_fld rfl _ _ w.heap.size _ _ _ rfl (BlkIs.new _ _ _) _ rfl) rfl ⟨rfl, (Below.refl _ _).alloc (Nat.le_refl _) _⟩

theorem st_At (n : Int) (w : World) : Calls Try.prog 23 #[.int .i64 n] w fun e w' => e = .returned (.tuple #[.agg (fldAt n), .bool (isAt n)]) ∧ Below w.heap.size w w' := by
  cases h : isAt n with
  | false => exact st_At_no n h w
  | true =>
    have h' := h
    unfold isAt at h'
    simp only [Bool.and_eq_true, decide_eq_true_eq] at h'
    have := st_At_yes (n - 1).toNat (by omega) w
    rw [← fldAt_nat, show (((n - 1).toNat : Nat) : Int) + 1 = n by omega] at this
    exact this

theorem st_Size (a b : ByteArray) (n : Bool) (ha : a.size ≤ 100) (hb : b.size ≤ 100) (w : World) : Calls Try.prog 22 #[.agg (fldV a b n)] w fun e w' => e = .returned (.int .i64 ((a.size : Int) + (b.size : Int) + 32)) ∧ Below w.heap.size w w' := by
  unfold fldV
  go_enter Try.func22, Try.ntmps22
  go_wp2
  go_ret
  exact ⟨rfl, (Below.refl _ _).alloc (Nat.le_refl _) _⟩
theorem rf_Size (a b : ByteArray) (n : Bool) (ha : a.size ≤ 100) (hb : b.size ≤ 100) (w : World) : Calls Try.prog 37 #[.agg (fldV a b n)] w fun e w' => e = .returned (.int .i64 ((a.size : Int) + (b.size : Int) + 32)) ∧ Below w.heap.size w w' := by
  unfold fldV
  go_enter Try.func37, Try.ntmps37
  go_wp2
  go_ret
  exact ⟨rfl, (Below.refl _ _).alloc (Nat.le_refl _) _⟩

theorem st_zero_raw : (Try.prog.info? 29).bind (·.zero) = some (.agg #[.string ⟨#[]⟩, .string ⟨#[]⟩, .bool false]) := st_zero_fld
theorem rf_At_nat (k : Nat) (hk : k < 61) (w : World) : Calls Try.prog 24 #[.int .i64 ((k : Int) + 1)] w fun e w' => e = .returned (.tuple #[.agg #[.string (nm k), .string (vl k), .bool false], .bool true]) ∧ Below w.heap.size w w' := by
  have := rf_At ((k : Int) + 1) w
  rw [fldAt_nat, isAt_nat k hk] at this
  exact this
theorem st_At_nat (k : Nat) (hk : k < 61) (w : World) : Calls Try.prog 23 #[.int .i64 ((k : Int) + 1)] w fun e w' => e = .returned (.tuple #[.agg #[.string (nm k), .string (vl k), .bool false], .bool true]) ∧ Below w.heap.size w w' :=
  st_At_yes k hk w
end Go.Proofs.Ytchndegcnjejiaa
