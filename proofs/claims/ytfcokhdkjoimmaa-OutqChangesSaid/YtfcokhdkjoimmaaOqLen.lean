/-
  Layer 19: queues as they lie; Len, of both packages (written by gen19small.py).
-/
import Derived.Test.YtfcokhdkjoimmaaOqMath
import Derived.Test.YtfcokhdkjoimmaaTxMem
import Derived.Test.YtfcokhdkjoimmaaStrSame
import Derived.Deep.QuietTactic
namespace Go.Proofs.Ytfcokhdkjoimmaa
set_option linter.unusedSimpArgs false
set_option linter.unusedVariables false
open Go.RowKit
/-- A queue as it lies. -/
structure QL (w : World) (q : Qu) (A : Option Addr) (n c : Nat) : Prop where
  tx : TX w A n c q.ps
  few : n ≤ 10000
  sum : lenL q.ps ≤ 100000000
theorem QL.keep {w w' : World} {q : Qu} {A : Option Addr} {n c : Nat} (h : QL w q A n c) (hb : Below w.heap.size w w') : QL w' q A n c := ⟨h.tx.keep hb, h.few, h.sum⟩
theorem qcells {w : World} {x : Nat} {t : TypeId} {a b c : Value} (h : BlkIs w x t #[a, b, c]) : w.cell? ⟨x, 0, none⟩ = some a ∧ w.cell? ⟨x, 1, none⟩ = some b ∧ w.cell? ⟨x, 2, none⟩ = some c := ⟨h.cell 0, h.cell 1, h.cell 2⟩

set_option maxRecDepth 100000 in
set_option maxHeartbeats 1600000 in
theorem oq_Len (q : Qu) (A : Option Addr) (n c : Nat) (w : World) (hl : QL w q A n c) :
    Calls Try.prog 16 #[.agg #[.slice A n c, .int .i64 q.m, .int .i64 q.g]] w fun e w' => e = .returned (.int .i64 (lenL q.ps : Nat)) ∧ Below w.heap.size w w' := by
  have HB2 := hide (bel1 w (.cells #[.slice A n c, .int .i64 q.m, .int .i64 q.g] 28))
  have HX := hide (BlkIs.new w 28 #[.slice A n c, .int .i64 q.m, .int .i64 q.g])
  have HL := hide (hl.tx.keep HB2.out)
  have HS := hide hl.sum
  have HN := hide hl.few
  generalize q.m = m at *
  generalize q.g = g at *
  generalize q.ps = l at *
  clear hl
  obtain ⟨k0, k1, k2⟩ := qcells HX.out
  go_enter Try.func16, Try.ntmps16
  go_wp2_with fail
  go_loop [3, 9] (fun s3 s9 => ∃ i : Nat, i ≤ n ∧ s9 = .int .i64 (i : Int) ∧ s3 = .int .i64 (lenL (l.take i) : Nat)) (fun _ s9 => n - (intOf s9).toNat)
  case atStart => exact ⟨0, by omega, rfl, rfl⟩
  case round =>
    obtain ⟨i, hi, rfl, rfl⟩ := hrel
    have hn := HN.out
    by_cases hlt : i < n
    · have hlt' : (i : Int) < (n : Int) := by omega
      obtain ⟨s, b, off, hs, rfl, hbl, c0⟩ := HL.out.round hlt
      have HE := hide (lenL_next hs)
      have hle : ((lenL (l.take i) : Nat) : Int) + (s.size : Int) ≤ 100000000 := by have h1 := lenL_get hs; have h2 := HS.out; omega
      generalize lenL (l.take i) = L at *
      have hz : (0 : Int) ≤ (s.size : Int) := by omega
      have hz2 : (0 : Int) ≤ (L : Int) := by omega
      clear hs
      go_wp2
      go_round
      case rel => exact ⟨i + 1, by omega, by go_num, by rw [HE.out]; go_num⟩
      case measure => simp [intOf]; omega
    · have hge : ¬ (i : Int) < (n : Int) := by omega
      obtain rfl : i = n := by omega
      go_wp2
      go_ret
      exact ⟨by rw [List.take_of_length_le (by rw [HL.out.len]; exact Nat.le_refl _)]; rfl, HB2.out⟩

set_option maxRecDepth 100000 in
set_option maxHeartbeats 1600000 in
theorem rq_Len (q : Qu) (A : Option Addr) (n c : Nat) (w : World) (hl : QL w q A n c) :
    Calls Try.prog 17 #[.agg #[.slice A n c, .int .i64 q.m, .int .i64 q.g]] w fun e w' => e = .returned (.int .i64 (lenL q.ps : Nat)) ∧ Below w.heap.size w w' := by
  have HB2 := hide (bel1 w (.cells #[.slice A n c, .int .i64 q.m, .int .i64 q.g] 24))
  have HX := hide (BlkIs.new w 24 #[.slice A n c, .int .i64 q.m, .int .i64 q.g])
  have HL := hide (hl.tx.keep HB2.out)
  have HS := hide hl.sum
  have HN := hide hl.few
  generalize q.m = m at *
  generalize q.g = g at *
  generalize q.ps = l at *
  clear hl
  obtain ⟨k0, k1, k2⟩ := qcells HX.out
  go_enter Try.func17, Try.ntmps17
  go_wp2_with fail
  go_loop [3, 4] (fun s3 s4 => ∃ i : Nat, i ≤ n ∧ s4 = .int .i64 (i : Int) ∧ s3 = .int .i64 (lenL (l.take i) : Nat)) (fun _ s4 => n - (intOf s4).toNat)
  case atStart => exact ⟨0, by omega, rfl, rfl⟩
  case round =>
    obtain ⟨i, hi, rfl, rfl⟩ := hrel
    have hn := HN.out
    by_cases hlt : i < n
    · have hlt' : (i : Int) < (n : Int) := by omega
      obtain ⟨s, b, off, hs, rfl, hbl, c0⟩ := HL.out.round hlt
      have HE := hide (lenL_next hs)
      have hle : ((lenL (l.take i) : Nat) : Int) + (s.size : Int) ≤ 100000000 := by have h1 := lenL_get hs; have h2 := HS.out; omega
      generalize lenL (l.take i) = L at *
      have hz : (0 : Int) ≤ (s.size : Int) := by omega
      have hz2 : (0 : Int) ≤ (L : Int) := by omega
      clear hs
      go_wp2
      go_round
      case rel => exact ⟨i + 1, by omega, by go_num, by rw [HE.out]; go_num⟩
      case measure => simp [intOf]; omega
    · have hge : ¬ (i : Int) < (n : Int) := by omega
      obtain rfl : i = n := by omega
      go_wp2
      go_ret
      exact ⟨by rw [List.take_of_length_le (by rw [HL.out.len]; exact Nat.le_refl _)]; rfl, HB2.out⟩

end Go.Proofs.Ytfcokhdkjoimmaa
