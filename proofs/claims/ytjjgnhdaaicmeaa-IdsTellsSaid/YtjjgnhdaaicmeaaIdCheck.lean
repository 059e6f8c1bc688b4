/-
  Layer 15: Check and Same (written by gen15check.py).
-/
import Derived.Test.YtjjgnhdaaicmeaaIdCheckA
import Derived.Test.YtjjgnhdaaicmeaaIdCheckB
import Derived.Test.YtjjgnhdaaicmeaaIdCheckC
import Derived.Test.YtjjgnhdaaicmeaaIdCheckD
import Derived.Test.YtjjgnhdaaicmeaaIdCheckE
namespace Go.Proofs.Ytjjgnhdaaicmeaa
set_option linter.unusedSimpArgs false
set_option linter.unusedVariables false
open Go.RowKit

theorem id_Check (T : Tb) (A : Option Addr) (n c : Nat) (B : Option Addr) (m d : Nat) (w : World) (hl : TL w T A n c B m d) (hn : (n : Int) ≤ 1000000) (hm : (m : Int) ≤ 1000000) :
    Calls Try.prog 9 #[.agg #[.int .i64 T.l, .slice A n c, .slice B m d]] w fun e w' => e = .returned (.int .i64 (chkI T)) ∧ Below w.heap.size w w' := by
  obtain ⟨L, op, cu⟩ := T
  by_cases h0 : L = 0
  · subst h0
    by_cases h16 : 16 < (n : Int)
    · exact id_chk_zero_7a op cu A n c B m d w hl hn hm h16
    · by_cases h8 : 8 < (m : Int)
      · exact id_chk_zero_7b op cu A n c B m d w hl hn hm h16 h8
      · cases hr : riseB op with
        | false => exact id_chk_zero_10 op cu A n c B m d w hl hn hm h16 h8 hr
        | true =>
          cases hs : strB ⟨0, op, cu⟩ with
          | true => exact id_chk_zero_4 op cu A n c B m d w hl hn hm h16 h8 hr hs
          | false =>
            cases ht : twB ⟨0, op, cu⟩ with
            | true => exact id_chk_zero_12 op cu A n c B m d w hl hn hm h16 h8 hr hs ht
            | false => exact id_chk_zero_0 op cu A n c B m d w hl hn hm h16 h8 hr hs ht
  cases ho : oddB L with
  | false =>
    rw [chk_8 (T := ⟨L, op, cu⟩) h0 ho]
    exact id_chk_8 L _ _ w h0 ho
  | true =>
    by_cases h16 : 16 < (n : Int)
    · exact id_chk_odd_7a L op cu A n c B m d w hl hn hm h0 ho h16
    · by_cases h8 : 8 < (m : Int)
      · exact id_chk_odd_7b L op cu A n c B m d w hl hn hm h0 ho h16 h8
      · cases hr : riseB op with
        | false => exact id_chk_odd_10 L op cu A n c B m d w hl hn hm h0 ho h16 h8 hr
        | true =>
          cases hs : strB ⟨L, op, cu⟩ with
          | true => exact id_chk_odd_4 L op cu A n c B m d w hl hn hm h0 ho h16 h8 hr hs
          | false =>
            cases ht : twB ⟨L, op, cu⟩ with
            | true => exact id_chk_odd_12 L op cu A n c B m d w hl hn hm h0 ho h16 h8 hr hs ht
            | false => exact id_chk_odd_0 L op cu A n c B m d w hl hn hm h0 ho h16 h8 hr hs ht
end Go.Proofs.Ytjjgnhdaaicmeaa
