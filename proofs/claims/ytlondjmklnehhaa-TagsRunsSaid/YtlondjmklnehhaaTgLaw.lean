/-
  Layer 25: the law's own, back.
-/
import Derived.Test.YtlondjmklnehhaaTgMemR
namespace Go.Proofs.Ytlondjmklnehhaa
set_option linter.unusedSimpArgs false
set_option linter.unusedVariables false
open Go.RowKit

set_option maxRecDepth 100000 in
set_option maxHeartbeats 1600000 in
theorem lt_own (A : Option Addr) (n c : Nat) (l : List Tg) (w : World) (hl : SL tgF w A n c l) (hn : (n : Int) ≤ 1000) :
    Calls Try.prog 19 #[.slice A n c] w (GivesS tgF 24 n l w) := by
  have HL := hide hl
  have HLN := hide hl.len
  have HN := hide hn
  clear hl
  go_enter Try.func19, Try.ntmps19
  go_wp2_with fail
  go_loopw [3, 4] (fun s3 s4 wr => ∃ i : Nat, i ≤ n ∧ s4 = .int .i64 (i : Int) ∧ Hid (wr.ownsRow w.heap.size 24 4 s3 i (flc tgF (l.take i))) ∧ Hid (Below w.heap.size w wr)) (fun _ s4 _ => n - (intOf s4).toNat)
  case atStart => exact ⟨0, by omega, rfl, World.ownsRow_nil _ _ _ _, Below.refl _ _⟩
  case round =>
    obtain ⟨i, hi, rfl, HO, HB⟩ := hrel
    by_cases h2 : i < n
    · have h2' : (i : Int) < (n : Int) := by omega
      obtain ⟨x, b, off, hx, rfl, hbl, c0, c1, c2, c3⟩ := tg_round (HL.out.keep HB.out) h2
      have HX := hide (show l[i]? = some x by rw [← hx]; exact gtT_get (by rw [HLN.out]; exact h2))
      have KX := hide (BlkIs.new wr 24 #[.int .i64 x.w, .int .i64 x.s, .int .i64 x.f, .int .i64 x.k])
      have HO1 := hide (HO.out.alloc (.cells #[.int .i64 x.w, .int .i64 x.s, .int .i64 x.f, .int .i64 x.k] 24))
      have HB1 := hide (HB.out.alloc HB.out.size (.cells #[.int .i64 x.w, .int .i64 x.s, .int .i64 x.f, .int .i64 x.k] 24))
      have HI := hide h2
      clear hx
      go_wp2_with (at_builtin; refine wpList_append_sl isTg _ rfl (.tmp 11) (.tmp 16) rfl w.heap.size _ i (l.take i) rfl HO1.out (some ⟨wr.heap.size, 0, none⟩) 1 1 [x] rfl (tg_new1 KX.out) (by have := HN.out; have := HI.out; omega) HB1.out.size ?_; intro A7 c7 w7 ho7 hg7; have HO7 := hide ho7; have HB7 := hide (own_bel HO1.out HB1.out (Nat.le_refl _) (Nat.le_refl _) hg7); clear ho7 hg7)
      go_roundw
      case rel => exact ⟨i + 1, HI.out, by go_num, by rw [List.take_add_one, HX.out]; exact HO7.out, HB7.out⟩
      case measure => simp [intOf]; omega
    · obtain rfl : i = n := by omega
      have h2' : ¬ (i : Int) < (i : Int) := by omega
      have ho := HO.out
      rw [List.take_of_length_le (by rw [HLN.out]; exact Nat.le_refl _)] at ho
      obtain ⟨A5, c5, rfl, -⟩ := own_sl (F := tgF) ho
      have HO5 := hide ho
      clear ho HO
      go_wp2
      go_ret
      exact ⟨A5, c5, rfl, HO5.out, HB.out⟩

set_option maxRecDepth 100000 in
set_option maxHeartbeats 1600000 in
theorem lt_back (A : Option Addr) (n c : Nat) (l : List Tg) (w : World) (hl : SL tgF w A n c l) (hn : (n : Int) ≤ 1000) :
    Calls Try.prog 22 #[.slice A n c] w (GivesS tgF 23 n l w) := by
  have HL := hide hl
  have HLN := hide hl.len
  have HN := hide hn
  clear hl
  go_enter Try.func22, Try.ntmps22
  go_wp2_with fail
  go_loopw [3, 4] (fun s3 s4 wr => ∃ i : Nat, i ≤ n ∧ s4 = .int .i64 (i : Int) ∧ Hid (wr.ownsRow w.heap.size 23 4 s3 i (flc tgF (l.take i))) ∧ Hid (Below w.heap.size w wr)) (fun _ s4 _ => n - (intOf s4).toNat)
  case atStart => exact ⟨0, by omega, rfl, World.ownsRow_nil _ _ _ _, Below.refl _ _⟩
  case round =>
    obtain ⟨i, hi, rfl, HO, HB⟩ := hrel
    by_cases h2 : i < n
    · have h2' : (i : Int) < (n : Int) := by omega
      obtain ⟨x, b, off, hx, rfl, hbl, c0, c1, c2, c3⟩ := tg_round (HL.out.keep HB.out) h2
      have HX := hide (show l[i]? = some x by rw [← hx]; exact gtT_get (by rw [HLN.out]; exact h2))
      have KX := hide (BlkIs.new wr 23 #[.int .i64 x.w, .int .i64 x.s, .int .i64 x.f, .int .i64 x.k])
      have HO1 := hide (HO.out.alloc (.cells #[.int .i64 x.w, .int .i64 x.s, .int .i64 x.f, .int .i64 x.k] 23))
      have HB1 := hide (HB.out.alloc HB.out.size (.cells #[.int .i64 x.w, .int .i64 x.s, .int .i64 x.f, .int .i64 x.k] 23))
      have HI := hide h2
      clear hx
      go_wp2_with (at_builtin; refine wpList_append_sl isTr _ rfl (.tmp 11) (.tmp 16) rfl w.heap.size _ i (l.take i) rfl HO1.out (some ⟨wr.heap.size, 0, none⟩) 1 1 [x] rfl (tg_new1 KX.out) (by have := HN.out; have := HI.out; omega) HB1.out.size ?_; intro A7 c7 w7 ho7 hg7; have HO7 := hide ho7; have HB7 := hide (own_bel HO1.out HB1.out (Nat.le_refl _) (Nat.le_refl _) hg7); clear ho7 hg7)
      go_roundw
      case rel => exact ⟨i + 1, HI.out, by go_num, by rw [List.take_add_one, HX.out]; exact HO7.out, HB7.out⟩
      case measure => simp [intOf]; omega
    · obtain rfl : i = n := by omega
      have h2' : ¬ (i : Int) < (i : Int) := by omega
      have ho := HO.out
      rw [List.take_of_length_le (by rw [HLN.out]; exact Nat.le_refl _)] at ho
      obtain ⟨A5, c5, rfl, -⟩ := own_sl (F := tgF) ho
      have HO5 := hide ho
      clear ho HO
      go_wp2
      go_ret
      exact ⟨A5, c5, rfl, HO5.out, HB.out⟩

end Go.Proofs.Ytlondjmklnehhaa
