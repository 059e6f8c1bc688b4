/-
  Layer 17: the document's pseudo, front, Values, one.
-/
import Derived.Test.YtdnopjopdklelaaDoorRqList
import Derived.Test.YtdnopjopdklelaaDoorRqVals
import Derived.Test.YtdnopjopdklelaaDoorTxMem
import Derived.Test.YtdnopjopdklelaaDoorStrSame
import Derived.Test.YtdnopjopdklelaaDoorRegW
namespace Go.Proofs.YtdnopjopdklelaaDoor
set_option linter.unusedSimpArgs false
set_option linter.unusedVariables false
open Go.RowKit

set_option maxRecDepth 100000 in
set_option maxHeartbeats 1600000 in
theorem rg_Values (A : Option Addr) (n c : Nat) (l : List Fd) (nm : ByteArray) (w : World) (hfl : FL w A n c l) (hm : (n : Int) ≤ 100000) :
    Calls Tryd.prog 34 #[.slice A n c, .string nm] w (GivesTx w (vals nm l)) := by
  obtain ⟨g, hg⟩ : ∃ g, g = w.heap.size := ⟨_, rfl⟩
  have HG := hide hg
  have HFL := hide hfl
  clear hg hfl
  go_enter Tryd.func34, Tryd.ntmps34
  go_wp2_with fail
  go_loopw [5, 6] (fun s5 s6 wr => ∃ i : Nat, i ≤ n ∧ s6 = .int .i64 (i : Int) ∧ Hid (wr.ownsRow g 9 1 s5 (vals nm (l.take i)).length (tcs (vals nm (l.take i)))) ∧ Hid (Below g w wr)) (fun _ s6 _ => n - (intOf s6).toNat)
  case atStart => exact ⟨0, by omega, rfl, hide (World.ownsRow_nil _ _ _ _), hide (Below.refl _ _)⟩
  case round =>
    obtain ⟨i, hi, rfl, HO, HB⟩ := hrel
    have HZ := hide (show g ≤ wr.heap.size by rw [HG.out]; exact (show Below w.heap.size w wr by rw [← HG.out]; exact HB.out).size)
    have HLr := hide (HFL.out.keep (show Below w.heap.size w wr by rw [← HG.out]; exact HB.out))
    by_cases hlt : i < n
    · have hlt' : (i : Int) < (n : Int) := by omega
      obtain ⟨f, b, off, hfd, rfl, hbl, c0, c1, c2⟩ := HLr.out.round hlt
      have hvs := vals_succ (nm := nm) hfd
      have hle : (vals nm (l.take i)).length ≤ 100000 := by
        have := vals_le nm (l.take i)
        have := HLr.out.len
        rw [List.length_take] at *
        omega
      clear hfd
      by_cases hf : f.n = nm
      · have hs := str_same hf
        have HY := hide (tx_new1 wr f.v)
        have HB2 := hide (HB.out.alloc HZ.out (.cells #[.string f.v] 9))
        have HO2 := hide (HO.out.alloc (.cells #[.string f.v] 9))
        have HS := hide (show g ≤ (wr.alloc (.cells #[.string f.v] 9)).heap.size by have := HZ.out; simp; omega)
        rw [if_pos hf] at hvs
        have HVS := hide hvs
        have HLEN := hide hle
        clear hf hvs hle HO HB
        go_wp2_with (at_builtin; refine wpList_append_tx _ rfl (.tmp 20) (.tmp 26) rfl g _ _ (vals nm (l.take i)) rfl HO2.out (some ⟨wr.heap.size, 0, none⟩) 1 1 [f.v] rfl HY.out (by have := HLEN.out; omega) HS.out ?_; intro v1 w1 hown1 hg1; have HO1 := hide hown1; have HG1 := hide hg1; clear hown1 hg1)
        go_roundw
        case rel => exact ⟨i + 1, by omega, by go_num, hide (by have h := HO1.out; rw [← HVS.out] at h; have e : (vals nm (l.take i)).length + 1 = (vals nm (l.take (i + 1))).length := by { rw [HVS.out]; simp }; rw [e] at h; exact h), hide (own_below_f HO2.out HB2.out (Nat.le_refl _) (by have := HG.out; omega) HG1.out)⟩
        case measure => simp [intOf]; omega
      · have hs := str_not hf
        rw [if_neg hf, List.append_nil] at hvs
        have HVS := hide hvs
        clear hf hvs hle
        go_wp2_with fail
        go_roundw
        case rel => exact ⟨i + 1, by omega, by go_num, hide (by have h := HO.out; rw [← HVS.out] at h; exact h), HB⟩
        case measure => simp [intOf]; omega
    · have hge : ¬ (i : Int) < (n : Int) := by omega
      obtain rfl : i = n := by omega
      have HE := hide (show l.take i = l by rw [← HLr.out.len, List.take_length])
      go_wp2
      go_ret
      refine ⟨_, rfl, ?_, ?_⟩
      · rw [← HG.out]; have h := HO.out; rw [HE.out] at h; exact h
      · rw [← HG.out]; exact HB.out
end Go.Proofs.YtdnopjopdklelaaDoor
