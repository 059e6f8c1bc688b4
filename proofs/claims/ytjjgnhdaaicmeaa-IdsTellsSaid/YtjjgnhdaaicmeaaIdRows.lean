/-
  Layer 15: lists that the program makes: slices.Clone, behind.
-/
import Derived.Test.YtjjgnhdaaicmeaaIdNum
namespace Go.Proofs.Ytjjgnhdaaicmeaa
set_option linter.unusedSimpArgs false
set_option linter.unusedVariables false
open Go.RowKit

/-- A call that answers a new list of numbers. -/
def GivesRow (l : List Int) (w : World) (e : Ending) (w' : World) : Prop := ∃ A c, e = .returned (.slice A l.length c) ∧ w'.ownsRow w.heap.size 3 1 (.slice A l.length c) l.length (ncs l) ∧ Below w.heap.size w w'
set_option maxHeartbeats 1600000 in
theorem id_Clone (A : Option Addr) (n c : Nat) (l : List Int) (w : World) (hl : NL .i64 w A n c l) (hn : (n : Int) ≤ 1000000) :
    Calls Try.prog 27 #[.slice A n c] w (GivesRow l w) := by
  have hq := fun w => Lib.run_eql_slice_nil (P := Try.prog) w 22 3 A n c 0 0 Try.underlying22
  cases A with
  | none =>
    have hl0 := hl.len
    obtain rfl : l = [] := by
      cases l with
      | nil => rfl
      | cons x l =>
        obtain ⟨_, _, e, _⟩ := hl.at_ 0 x rfl
        cases e
    have hn0 : n = 0 := hl0.symm
    subst hn0
    clear hl hl0
    go_enter Try.func27, Try.ntmps27
    go_wp2
    go_ret
    exact ⟨none, 0, rfl, World.ownsRow_nil _ _ _ _, Below.refl _ _⟩
  | some ad =>
    have HL := hide hl
    have HN := hide hn
    clear hl hn
    go_enter Try.func27, Try.ntmps27
    have HO := hide (World.ownsRow_lit (size := 1) (base := w.heap.size) (e := 3) w #[] 0 (Nat.le_refl _) (Nat.zero_le _) rfl)
    have HFA := hide (HL.out.keep (bel1 w (.cells #[] 3)))
    go_wp2_with (at_builtin; refine wpList_append_n _ rfl (.tmp 5) (.tmp 6) rfl w.heap.size _ 0 [] rfl HO.out ad n c l rfl HFA.out (by have := HN.out; omega) (by simp) ?_; intro v1 w1 hown1 hg1; have HO1 := hide hown1; have HG1 := hide hg1; clear hown1 hg1)
    go_ret
    obtain ⟨A1, c1, rfl⟩ := own_slice HO1.out
    have hlen := HL.out.len
    subst hlen
    exact ⟨A1, c1, by simp, by simpa using HO1.out, own_bel HO.out (bel1 _ _) (Nat.le_refl _) (Nat.le_refl _) HG1.out⟩

set_option maxHeartbeats 1600000 in
theorem id_behind (A : Option Addr) (n c : Nat) (l : List Int) (x : Int) (w : World) (hl : NL .i64 w A n c l) (hn : (n : Int) ≤ 1000) (hx : (Lit.int .i64 x).wf = true) :
    Calls Try.prog 28 #[.slice A n c, .int .i64 x] w (GivesRow (l ++ [x]) w) := by
  have HC := hide (id_Clone A n c l w hl (by omega))
  have HN := hide (show l.length ≤ 1000 by rw [hl.len]; omega)
  have HX := hide hx
  clear hl hx hn
  go_enter Try.func28, Try.ntmps28
  go_wp2_with fail
  refine HC.out.mono ?_
  rintro e w1 ⟨A1, c1, rfl, ho, hb⟩
  have HB := hide hb
  have HBK := hide (BlkIs.new w1 3 #[.int .i64 x])
  have HO2 := hide (own_low ho (bel1 w1 (.cells #[.int .i64 x] 3)))
  have HB2 := hide (hb.alloc hb.size (.cells #[.int .i64 x] 3))
  have HNX := hide (nl_blk (l := [x]) HBK.out (fun y hy => by rw [List.mem_singleton.1 hy]; exact HX.out) (by unfold maxLen; simp))
  have HZ := hide hb.size
  clear ho hb HC
  go_wp2_with (at_builtin; refine wpList_append_n _ rfl (.tmp 6) (.tmp 8) rfl w.heap.size _ l.length l rfl HO2.out ⟨w1.heap.size, 0, none⟩ 1 1 [x] rfl HNX.out (by have := HN.out; omega) (by have := HZ.out; simp; omega) ?_; intro v2 w2 hown2 hg2; have HO3 := hide hown2; have HG3 := hide hg2; clear hown2 hg2)
  go_ret
  obtain ⟨A2, c2, rfl⟩ := own_slice HO3.out
  exact ⟨A2, c2, by simp, by simpa using HO3.out, own_bel HO2.out HB2.out (Nat.le_refl _) (Nat.le_refl _) HG3.out⟩
end Go.Proofs.Ytjjgnhdaaicmeaa
