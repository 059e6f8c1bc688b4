/-
  Layer 15: Begin and End, whole.
-/
import Derived.Test.YtjjgnhdaaicmeaaIdBegin2
import Derived.Test.YtjjgnhdaaicmeaaIdEnd3
import Derived.Test.YtjjgnhdaaicmeaaIdEnd4
namespace Go.Proofs.Ytjjgnhdaaicmeaa
set_option linter.unusedSimpArgs false
set_option linter.unusedVariables false
open Go.RowKit

theorem id_Begin (T : Tb) (A : Option Addr) (n c : Nat) (B : Option Addr) (m d : Nat) (id : Int) (w : World) (hl : TL w T A n c B m d) (hn : (n : Int) ≤ 1000) (hm : (m : Int) ≤ 1000) (hid : (Lit.int .i64 id).wf = true) :
    Calls Try.prog 14 #[.agg #[.int .i64 T.l, .slice A n c, .slice B m d], .int .i64 id] w (GivesTC T A B (begI T id) w) := by
  by_cases hck : chkI T = 0
  · by_cases hcl : clsI T id = 1
    · have hln := hl.op.len
      by_cases h16 : n = 16
      · rw [beg_11 hck hcl (by rw [hln]; exact h16)]
        exact id_beg_11 T A n c B m d id w hl hn hm hck hcl h16
      · rw [beg_0 hck hcl (by rw [hln]; exact h16)]
        exact id_beg_0 T A n c B m d id w hl hn hm hck hcl h16 hid
    · rw [beg_1 hck hcl]
      exact id_beg_1 T A n c B m d id w hl hn hm hck _ rfl hcl
  · rw [beg_2 hck]
    exact id_beg_2 T A n c B m d id w hl hn hm hck
theorem id_End (T : Tb) (A : Option Addr) (n c : Nat) (B : Option Addr) (m d : Nat) (id : Int) (cut : Bool) (w : World) (hl : TL w T A n c B m d) (hn : (n : Int) ≤ 1000) (hm : (m : Int) ≤ 1000) (hid : (Lit.int .i64 id).wf = true) :
    Calls Try.prog 13 #[.agg #[.int .i64 T.l, .slice A n c, .slice B m d], .int .i64 id, .bool cut] w (GivesT T A B (endI T id cut) w) := by
  by_cases hck : chkI T = 0
  · by_cases hcl : clsI T id = 2
    · cases cut with
      | false =>
        rw [end_no hck hcl]
        exact id_end_c T A n c B m d id w hl hn hm hck hcl
      | true =>
        rw [end_yes hck hcl]
        have h8 := (chk_ok.1 hck).ncu
        rw [hl.cu.len] at h8
        by_cases h : m = 8
        · exact id_end_d T A n c B m d id w hl hn hm hck hcl hid h
        · exact id_end_e T A n c B m d id w hl hn hm hck hcl hid (by omega)
    · rw [end_was (.inr hcl)]
      exact id_end_b T A n c B m d id cut w hl hn hm hck _ rfl hcl
  · rw [end_was (.inl hck)]
    exact id_end_a T A n c B m d id cut w hl hn hm hck
end Go.Proofs.Ytjjgnhdaaicmeaa
