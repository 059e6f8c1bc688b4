/-
  Layer 9: the document's numbers of a text, and the five bytes (weigh).
-/
import Derived.Test.YtefdhbljcnpggaaRfSmall
import Derived.Lib.ConvBytes
namespace Go.Proofs.Ytefdhbljcnpggaa
open Go.RowKit

theorem bw_below (w : World) (e : TypeId) (s : ByteArray) : Below w.heap.size w (Lib.bytesWorld w e s) :=
  ⟨by simp [Lib.bytesWorld, World.freeze, World.alloc, World.drew, -World.alloc_eq, -World.drew_eq] <;> rfl, by simp [Lib.bytesWorld, World.freeze, World.alloc, World.drew, -World.alloc_eq, -World.drew_eq] <;> rfl, by simp [Lib.bytesWorld, World.freeze, World.alloc, World.drew, -World.alloc_eq, -World.drew_eq] <;> rfl, by rw [Lib.bytesWorld_size]; omega, fun k hk => Lib.bytesWorld_at_old w e s k hk⟩
theorem bw_rb (w : World) (s : ByteArray) : RB (Lib.bytesWorld w 5 s) (some ⟨w.heap.size, 0, none⟩) s.size (bts s) := by
  refine ⟨bts_len s, fun _ => ⟨w.heap.size, 0, rfl, by rw [Lib.bytesWorld_size]; omega, fun i hi => ?_⟩, (bts_all s).getD⟩
  rw [Nat.zero_add, Lib.bytesWorld_cell w 5 s i hi]
  have hk : i < s.data.toList.length := by simpa using hi
  simp [bts, List.getD, hi]

set_option maxHeartbeats 800000 in
theorem rg_number (s : ByteArray) (h4 : s.size ≤ 4) (w : World) :
    Calls Try.prog 32 #[.string s] w fun e w' => e = .returned (.int .i64 (numL (bts s))) ∧ Below w.heap.size w w' := by
  have hc := Lib.run_convert_string_bytes (P := Try.prog) w 9 44 5 s Try.underlying9 Try.underlying44 Try.underlying5
  have HN := hide (rf_Number (some ⟨w.heap.size, 0, none⟩) s.size (grownCap w s.size 0 5) (bts s) (Lib.bytesWorld w 5 s) (bw_rb w s) h4)
  have HB := hide (bw_below w 5 s)
  clear h4
  generalize Lib.bytesWorld w 5 s = w1 at hc HN HB
  generalize grownCap w s.size 0 5 = cp at hc HN
  go_enter Try.func32, Try.ntmps32
  go_wp2_with fail
  refine HN.out.mono ?_
  rintro e w2 ⟨rfl, rfl⟩
  go_wp2
  go_ret
  exact ⟨rfl, HB.out⟩

set_option maxHeartbeats 800000 in
theorem rg_stream (s : ByteArray) (h4 : 4 ≤ s.size) (w : World) :
    Calls Try.prog 33 #[.string s] w fun e w' => e = .returned (.int .i64 (numL ((bts s).take 4) % 2147483648)) ∧ Below w.heap.size w w' := by
  have h4i : (4 : Int) ≤ (s.size : Int) := by omega
  have hb := bts_extract s 0 4
  rw [List.drop_zero, Nat.sub_zero] at hb
  have hl : (s.extract 0 4).size ≤ 4 := by
    have := bts_len (s.extract 0 4)
    rw [hb, List.length_take] at this
    omega
  have HN := hide (fun w => rg_number (s.extract 0 4) hl w)
  rw [hb] at HN
  have hbd := numL_bd 4 (bts s) (bts_all s)
  obtain ⟨N, hN⟩ : ∃ N, N = numL ((bts s).take 4) := ⟨_, rfl⟩
  rw [← hN] at HN hbd ⊢
  have n0 : 0 ≤ N := hbd.1
  have n1 : N ≤ 4294967295 := by have := hbd.2; omega
  clear hb hl hbd hN
  go_enter Try.func33, Try.ntmps33
  go_wp2_with fail
  refine (HN.out _).mono ?_
  rintro e w1 ⟨rfl, hb1⟩
  go_wp2
  go_ret
  exact ⟨rfl, hb1⟩
end Go.Proofs.Ytefdhbljcnpggaa
