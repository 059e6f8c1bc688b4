/-
  Layer 15: the document's Check (written by gen15rcheck.py).
-/
import Derived.Test.YtjjgnhdaaicmeaaRdCheck0
import Derived.Test.YtjjgnhdaaicmeaaRdCheck1
namespace Go.Proofs.Ytjjgnhdaaicmeaa
set_option linter.unusedSimpArgs false
set_option linter.unusedVariables false
open Go.RowKit

theorem rd_Check (T : Tb) (A : Option Addr) (n c : Nat) (B : Option Addr) (m d : Nat) (w : World) (hl : TL w T A n c B m d) :
    Calls Try.prog 10 #[.agg #[.int .i64 T.l, .slice A n c, .slice B m d]] w fun e w' => e = .returned (.int .i64 (chkI T)) ∧ Below w.heap.size w w' := by
  obtain ⟨L, op, cu⟩ := T
  have hln : op.length = n := hl.op.len
  have hlm : cu.length = m := hl.cu.len
  by_cases h0 : L = 0
  · subst h0
    by_cases h16 : 16 < (n : Int)
    · rw [chk_7 (T := ⟨0, op, cu⟩) (.inl rfl) (.inl (by show 16 < op.length; omega))]
      exact rd_chk_zero_7a A n c B m d w h16
    by_cases h8 : 8 < (m : Int)
    · rw [chk_7 (T := ⟨0, op, cu⟩) (.inl rfl) (.inr (by show 8 < cu.length; omega))]
      exact rd_chk_zero_7b A n c B m d w h16 h8
    exact rd_chk_zero op cu A n c B m d _ w hl (known (.inl rfl) ⟨by omega, by omega⟩) h16 h8
  cases ho : oddB L with
  | false =>
    rw [chk_8 (T := ⟨L, op, cu⟩) h0 ho]
    exact rd_chk_8 L _ _ w h0 ho
  | true =>
    by_cases h16 : 16 < (n : Int)
    · rw [chk_7 (T := ⟨L, op, cu⟩) (.inr ho) (.inl (by show 16 < op.length; omega))]
      exact rd_chk_odd_7a L A n c B m d w h0 ho h16
    by_cases h8 : 8 < (m : Int)
    · rw [chk_7 (T := ⟨L, op, cu⟩) (.inr ho) (.inr (by show 8 < cu.length; omega))]
      exact rd_chk_odd_7b L A n c B m d w h0 ho h16 h8
    exact rd_chk_odd L op cu A n c B m d _ w hl h0 ho (known (.inr ho) ⟨by omega, by omega⟩) h16 h8
end Go.Proofs.Ytjjgnhdaaicmeaa
