/-
  Layer 11: the program's small functions.
-/
import Derived.Test.YtighhdgaaelcdaaBkMath
import Derived.Test.YtighhdgaaelcdaaFrFits
import Derived.Test.YtighhdgaaelcdaaClone
import Derived.Test.YtighhdgaaelcdaaRegs
import Derived.Laws.StructEq
namespace Go.Proofs.Ytighhdgaaelcdaa
set_option linter.unusedSimpArgs false
set_option linter.unusedVariables false
open Go.RowKit

theorem bk_size : (Try.prog.info? 29).map (·.size) = some 3 := by kernel_rfl
theorem bf_size : (Try.prog.info? 34).map (·.size) = some 12 := by kernel_rfl
theorem rff_size : (Try.prog.info? 27).map (·.size) = some 12 := by kernel_rfl
theorem bk_zero : (Try.prog.info? 29).bind (·.zero) = some (.agg #[.int .i64 0, .string ⟨#[]⟩, .bool false]) := by kernel_rfl
theorem bw_size : (Try.prog.info? 30).map (·.size) = some 3 := by kernel_rfl
theorem bw_zero : (Try.prog.info? 30).bind (·.zero) = some (.agg #[.int .i64 0, .string ⟨#[]⟩, .bool false]) := by kernel_rfl
theorem rs_size : (Try.prog.info? 23).map (·.size) = some 3 := by kernel_rfl
theorem rs_zero : (Try.prog.info? 23).bind (·.zero) = some (.agg #[.int .i64 0, .string ⟨#[]⟩, .bool false]) := by kernel_rfl
theorem bk_cells {w : World} {g : Nat} {t : TypeId} {a b c : Value} (h : BlkIs w g t #[a, b, c]) : w.cell? ⟨g, 0, none⟩ = some a ∧ w.cell? ⟨g, 1, none⟩ = some b ∧ w.cell? ⟨g, 2, none⟩ = some c := ⟨h.cell 0, h.cell 1, h.cell 2⟩

def strB (n : Int) : Bool := decide (1 ≤ n) && decide (n ≤ 2147483647)
theorem bk_isStream (n : Int) (w : World) : Calls Try.prog 18 #[.int .i64 n] w fun e w' => e = .returned (.bool (strB n)) ∧ w' = w := by
  have HS := hide (show strB n = (decide (1 ≤ n) && decide (n ≤ 2147483647)) from rfl)
  by_cases h1 : 1 ≤ n
  · by_cases h2 : n ≤ 2147483647
    · go_enter Try.func18, Try.ntmps18
      go_wp2
      go_ret
      exact ⟨by rw [HS.out]; simp [h1, h2], rfl⟩
    · have h2' : 2147483647 < n := by omega
      go_enter Try.func18, Try.ntmps18
      go_wp2
      go_ret
      exact ⟨by rw [HS.out]; simp [h1, h2], rfl⟩
  · go_enter Try.func18, Try.ntmps18
    go_wp2
    go_ret
    exact ⟨by rw [HS.out]; simp; omega, rfl⟩

theorem bk_Open (s : Int) (d : ByteArray) (e : Bool) (w : World) : Calls Try.prog 11 #[.agg #[.int .i64 s, .string d, .bool e]] w fun r w' => r = .returned (.bool (!decide (s = 0))) ∧ Below w.heap.size w w' := by
  by_cases h : s = 0
  · subst h
    go_enter Try.func11, Try.ntmps11
    go_wp2
    go_ret
    exact ⟨rfl, (Below.refl _ _).alloc (Nat.le_refl _) _⟩
  · have hb : (!decide (s = 0)) = true := by simp [h]
    rw [hb]
    go_enter Try.func11, Try.ntmps11
    go_wp2
    go_ret
    exact ⟨by simp [h], (Below.refl _ _).alloc (Nat.le_refl _) _⟩

def partB (t : Int) : Bool := decide (t = 1) || decide (t = 9)
theorem bk_isPart (F : Fr) (A : Option Addr) (n c : Nat) (w : World) : Calls Try.prog 17 #[.agg (F.cs A n c)] w fun r w' => r = .returned (.bool (partB F.ty)) ∧ Below w.heap.size w w' := by
  obtain ⟨q0, _⟩ := fr_qs F A n c
  generalize F.cs A n c = cs at *
  have HS := hide (show partB F.ty = (decide (F.ty = 1) || decide (F.ty = 9)) from rfl)
  obtain ⟨t, ht⟩ : ∃ t, t = F.ty := ⟨_, rfl⟩
  rw [← ht] at q0 HS ⊢
  clear ht
  by_cases h1 : t = 1
  · subst h1
    go_enter Try.func17, Try.ntmps17
    go_wp2
    go_ret
    exact ⟨by rw [HS.out]; rfl, (Below.refl _ _).alloc (Nat.le_refl _) _⟩
  · go_enter Try.func17, Try.ntmps17
    go_wp2
    go_ret
    exact ⟨by rw [HS.out]; simp [h1, beqI], (Below.refl _ _).alloc (Nat.le_refl _) _⟩

theorem bk_has (F : Fr) (A : Option Addr) (n c : Nat) (g : Int) (w : World) : Calls Try.prog 21 #[.agg (F.cs A n c), .int .u8 g] w fun r w' => r = .returned (.bool (bits .and .u8 F.fl g != 0)) ∧ Below w.heap.size w w' := by
  obtain ⟨_, q1, _⟩ := fr_qs F A n c
  generalize F.cs A n c = cs at *
  go_enter Try.func21, Try.ntmps21
  go_wp2
  go_ret
  exact ⟨rfl, (Below.refl _ _).alloc (Nat.le_refl _) _⟩

def folB (s : Int) (F : Fr) : Bool := if s = 0 then !decide (F.ty = 9) else decide (F.ty = 9) && decide (F.st = s)
theorem bk_follows (s : Int) (d : ByteArray) (e : Bool) (F : Fr) (A : Option Addr) (n c : Nat) (w : World) :
    Calls Try.prog 19 #[.agg #[.int .i64 s, .string d, .bool e], .agg (F.cs A n c)] w fun r w' => r = .returned (.bool (folB s F)) ∧ Below w.heap.size w w' := by
  obtain ⟨q0, _, q2, _⟩ := fr_qs F A n c
  generalize F.cs A n c = cs at *
  have HS := hide (show folB s F = if s = 0 then !decide (F.ty = 9) else decide (F.ty = 9) && decide (F.st = s) from rfl)
  obtain ⟨t, ht⟩ : ∃ t, t = F.ty := ⟨_, rfl⟩
  obtain ⟨z, hz⟩ : ∃ t, t = F.st := ⟨_, rfl⟩
  rw [← ht] at q0 HS
  rw [← hz] at q2 HS
  obtain ⟨V, hV⟩ : ∃ V, V = folB s F := ⟨_, rfl⟩
  rw [← hV] at HS ⊢
  clear ht hz hV
  have HO := hide (fun w => bk_Open s d e w)
  go_enter Try.func19, Try.ntmps19
  go_wp2_with fail
  refine (HO.out _).mono ?_
  rintro r w1 ⟨rfl, hb1⟩
  have K2 := hide ((blk_two (w := w) (t := 29) (cs := #[.int .i64 s, .string d, .bool e]) (t' := 34) (cs' := cs)).keep hb1)
  have K1 := hide (((BlkIs.new w 29 #[.int .i64 s, .string d, .bool e]).alloc (.cells cs 34)).keep hb1)
  have B1 := hide (below_two.trans (hb1.mono (by simp; omega)))
  clear hb1
  have p0 := K1.out.cell 0
  have p2 := (K2.out.cell 0).trans q0
  have p3 := (K2.out.cell 2).trans q2
  simp only [List.getElem?_toArray, List.getElem?_cons_zero] at p0
  by_cases h : s = 0
  · subst h
    go_wp2_with fail
    go_ret
    exact ⟨by rw [HS.out]; simp [bneI], B1.out⟩
  · have hd : decide (s = 0) = false := by simp [h]
    rw [hd]
    by_cases h9 : t = 9
    · subst h9
      go_wp2_with fail
      go_ret
      exact ⟨by rw [HS.out]; simp [beqI, h], B1.out⟩
    · go_wp2_with fail
      go_ret
      exact ⟨by rw [HS.out]; simp [h9, h], B1.out⟩

theorem bk_Same (s : Int) (d : ByteArray) (e : Bool) (s' : Int) (d' : ByteArray) (e' : Bool) (w : World) :
    Calls Try.prog 12 #[.agg #[.int .i64 s, .string d, .bool e], .agg #[.int .i64 s', .string d', .bool e']] w fun r w' => r = .returned (.bool (sameB s d e s' d' e')) ∧ Below w.heap.size w w' := by
  go_enter Try.func12, Try.ntmps12
  go_wp2_with fail
  all_goals go_ret
  all_goals
    refine ⟨?_, below_two⟩
    rename_i h
    simp_all [sameB, ba_list]
end Go.Proofs.Ytighhdgaaelcdaa
