/-
  Layer 15: Check and Same (written by gen15check.py).
-/
import Derived.Test.YtjjgnhdaaicmeaaIdCheck0
namespace Go.Proofs.Ytjjgnhdaaicmeaa
set_option linter.unusedSimpArgs false
set_option linter.unusedVariables false
open Go.RowKit

set_option maxRecDepth 100000 in
set_option maxHeartbeats 1600000 in
theorem id_chk_odd_12 (L : Int) (op cu : List Int) (A : Option Addr) (n c : Nat) (B : Option Addr) (m d : Nat) (w : World) (hl : TL w ⟨L, op, cu⟩ A n c B m d) (hn : (n : Int) ≤ 1000000) (hm : (m : Int) ≤ 1000000) (h0 : ¬ L = 0) (ho : oddB L = true) (hf : ¬ 16 < (n : Int)) (hf2 : ¬ 8 < (m : Int)) (hr : riseB op = true) (hs : strB ⟨L, op, cu⟩ = false) (ht : twB ⟨L, op, cu⟩ = true) :
    Calls Try.prog 9 #[.agg #[.int .i64 L, .slice A n c, .slice B m d]] w fun e w' => e = .returned (.int .i64 (chkI ⟨L, op, cu⟩)) ∧ Below w.heap.size w w' := by
  have hln : op.length = n := hl.op.len
  have hlm : cu.length = m := hl.cu.len
  rw [show chkI ⟨L, op, cu⟩ = 12 from chk_12 (.inr ho) ⟨by show op.length ≤ 16; omega, by show cu.length ≤ 8; omega⟩ hr hs ht]
  have HB1 := hide (bel1 w (.cells #[.int .i64 L, .slice A n c, .slice B m d] 28))
  have HBK := hide (BlkIs.new w 28 #[.int .i64 L, .slice A n c, .slice B m d])
  have HL1 := hide (hl.keep HB1.out)
  have HC := hide (fun w => id_isNumber L w)
  rw [ho] at HC
  clear ho
  have HR := hide (id_rises A n c op _ HL1.out.op hn)
  rw [hr] at HR
  clear hr
  have HS := hide (id_stranger ⟨L, op, cu⟩ A n c B m d _ HL1.out hn hm)
  rw [hs] at HS
  clear hs
  have HT := hide (fun w h => id_twice ⟨L, op, cu⟩ A n c B m d w h hn hm)
  rw [ht] at HT
  clear ht
  clear hl hln hlm hn hm
  go_enter Try.func9, Try.ntmps9
  go_wp2_with (first | (go_at_call 15; refine (HC.out _).mono ?_; rintro e w2 ⟨rfl, rfl⟩) | (go_at_call 20; refine HR.out.mono ?_; rintro e w2 ⟨rfl, rfl⟩) | (go_at_call 21; refine HS.out.mono ?_; rintro e w2 ⟨rfl, hb2⟩; have HB2 := hide (HB1.out.trans (hb2.mono HB1.out.size)); have HL2 := hide (HL1.out.keep hb2); obtain ⟨k0, k1, k2⟩ := cells3 (HBK.out.keep hb2); clear hb2) | (go_at_call 22; refine (HT.out _ HL2.out).mono ?_; rintro e w3 ⟨rfl, hb3⟩; have HB3 := hide (HB2.out.trans (hb3.mono HB2.out.size)); clear hb3))
  go_ret
  exact ⟨rfl, HB3.out⟩

end Go.Proofs.Ytjjgnhdaaicmeaa
