/-
  Layer 25: slices.Clone of tags.
-/
import Derived.Test.YtlondjmklnehhaaTgMem
namespace Go.Proofs.Ytlondjmklnehhaa
set_option linter.unusedSimpArgs false
set_option linter.unusedVariables false
open Go.RowKit

set_option maxHeartbeats 1600000 in
theorem tg_Clone (A : Option Addr) (n c : Nat) (l : List Tg) (w : World) (hl : SL tgF w A n c l) (hn : (n : Int) ≤ 1000) :
    Calls Try.prog 32 #[.slice A n c] w (GivesS tgF 24 n l w) := by
  have hq := fun w => Lib.run_eql_slice_nil (P := Try.prog) w 47 24 A n c 0 0 Try.underlying47
  cases A with
  | none =>
    obtain ⟨rfl, rfl, rfl⟩ := sl_nil hl
    clear hl
    go_enter Try.func32, Try.ntmps32
    go_wp2
    go_ret
    exact ⟨none, 0, rfl, World.ownsRow_nil _ _ _ _, Below.refl _ _⟩
  | some ad =>
    have HL := hide hl
    have HN := hide hn
    clear hl hn
    go_enter Try.func32, Try.ntmps32
    have HO := hide (World.ownsRow_lit (size := 4) (base := w.heap.size) (e := 24) w #[] 0 (Nat.le_refl _) (Nat.zero_le _) rfl)
    have HFA := hide (HL.out.keep (bel1 w (.cells #[] 24)))
    go_wp2_with (at_builtin; refine wpList_append_sl isTg _ rfl (.tmp 5) (.tmp 6) rfl w.heap.size _ 0 [] rfl HO.out (some ad) n c l rfl HFA.out (by have := HN.out; omega) (by simp) ?_; intro A1 c1 w1 hown1 hg1; have HO1 := hide hown1; have HG1 := hide hg1; clear hown1 hg1)
    go_ret
    exact ⟨A1, c1, by simp, by simpa using HO1.out, own_bel HO.out (bel1 _ _) (Nat.le_refl _) (Nat.le_refl _) HG1.out⟩
end Go.Proofs.Ytlondjmklnehhaa
