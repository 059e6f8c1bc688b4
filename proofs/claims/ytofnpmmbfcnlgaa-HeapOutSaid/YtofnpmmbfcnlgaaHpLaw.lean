/-
  Layer 24: the law's own, back, the document's Same.
-/
import Derived.Test.YtofnpmmbfcnlgaaHpRow
import Derived.Test.YtofnpmmbfcnlgaaHpMemR
namespace Go.Proofs.Ytofnpmmbfcnlgaa
set_option linter.unusedSimpArgs false
set_option linter.unusedVariables false
open Go.RowKit

set_option maxRecDepth 100000 in
set_option maxHeartbeats 1600000 in
theorem lh_own (A : Option Addr) (n c : Nat) (l : List It) (w : World) (hl : IL w A n c l) (hn : (n : Int) ≤ 1000) :
    Calls Try.prog 8 #[.slice A n c] w (GivesIt 38 l w) := by
  have HL := hide hl
  have hln := hl.len
  subst hln
  have HN := hide hn
  clear hl
  go_enter Try.func8, Try.ntmps8
  go_wp2_with fail
  go_loopw [3, 4] (fun s3 s4 wr => ∃ i : Nat, i ≤ l.length ∧ s4 = .int .i64 (i : Int) ∧ Hid (wr.ownsRow w.heap.size 38 2 s3 i (ics (l.take i))) ∧ Hid (Below w.heap.size w wr)) (fun _ s4 _ => l.length - (intOf s4).toNat)
  case atStart => exact ⟨0, by omega, rfl, World.ownsRow_nil _ _ _ _, Below.refl _ _⟩
  case round =>
    obtain ⟨i, hi, rfl, HO, HB⟩ := hrel
    by_cases h2 : i < l.length
    · have h2' : (i : Int) < (l.length : Int) := by omega
      obtain ⟨x, b, off, hx, rfl, hbl, c0, c1⟩ := (HL.out.keep HB.out).round h2
      have HX := hide hx
      have KX := hide (BlkIs.new wr 38 #[.int .i64 x.k, .int .i64 x.d])
      have HO1 := hide (HO.out.alloc (.cells #[.int .i64 x.k, .int .i64 x.d] 38))
      have HB1 := hide (HB.out.alloc HB.out.size (.cells #[.int .i64 x.k, .int .i64 x.d] 38))
      have HI := hide h2
      clear hx
      go_wp2_with (at_builtin; refine wpList_append_il isH _ rfl (.tmp 11) (.tmp 16) rfl w.heap.size _ i (l.take i) rfl HO1.out (some ⟨wr.heap.size, 0, none⟩) 1 1 [x] rfl (il_new1 KX.out) (by have := HN.out; have := HI.out; omega) HB1.out.size ?_; intro A7 c7 w7 ho7 hg7; have HO7 := hide ho7; have HB7 := hide (own_bel HO1.out HB1.out (Nat.le_refl _) (Nat.le_refl _) hg7); clear ho7 hg7)
      go_roundw
      case rel => exact ⟨i + 1, HI.out, by go_num, by rw [List.take_add_one, HX.out]; exact HO7.out, HB7.out⟩
      case measure => simp [intOf]; omega
    · obtain rfl : i = l.length := by omega
      have h2' : ¬ (l.length : Int) < (l.length : Int) := by omega
      have ho := HO.out
      rw [List.take_length] at ho
      obtain ⟨A5, c5, rfl, -⟩ := own_its ho
      have HO5 := hide ho
      clear ho HO
      go_wp2
      go_ret
      exact ⟨A5, c5, rfl, HO5.out, HB.out⟩

set_option maxRecDepth 100000 in
set_option maxHeartbeats 1600000 in
theorem lh_back (A : Option Addr) (n c : Nat) (l : List It) (w : World) (hl : IL w A n c l) (hn : (n : Int) ≤ 1000) :
    Calls Try.prog 10 #[.slice A n c] w (GivesIt 24 l w) := by
  have HL := hide hl
  have hln := hl.len
  subst hln
  have HN := hide hn
  clear hl
  go_enter Try.func10, Try.ntmps10
  go_wp2_with fail
  go_loopw [3, 4] (fun s3 s4 wr => ∃ i : Nat, i ≤ l.length ∧ s4 = .int .i64 (i : Int) ∧ Hid (wr.ownsRow w.heap.size 24 2 s3 i (ics (l.take i))) ∧ Hid (Below w.heap.size w wr)) (fun _ s4 _ => l.length - (intOf s4).toNat)
  case atStart => exact ⟨0, by omega, rfl, World.ownsRow_nil _ _ _ _, Below.refl _ _⟩
  case round =>
    obtain ⟨i, hi, rfl, HO, HB⟩ := hrel
    by_cases h2 : i < l.length
    · have h2' : (i : Int) < (l.length : Int) := by omega
      obtain ⟨x, b, off, hx, rfl, hbl, c0, c1⟩ := (HL.out.keep HB.out).round h2
      have HX := hide hx
      have KX := hide (BlkIs.new wr 24 #[.int .i64 x.k, .int .i64 x.d])
      have HO1 := hide (HO.out.alloc (.cells #[.int .i64 x.k, .int .i64 x.d] 24))
      have HB1 := hide (HB.out.alloc HB.out.size (.cells #[.int .i64 x.k, .int .i64 x.d] 24))
      have HI := hide h2
      clear hx
      go_wp2_with (at_builtin; refine wpList_append_il isR _ rfl (.tmp 11) (.tmp 16) rfl w.heap.size _ i (l.take i) rfl HO1.out (some ⟨wr.heap.size, 0, none⟩) 1 1 [x] rfl (il_new1 KX.out) (by have := HN.out; have := HI.out; omega) HB1.out.size ?_; intro A7 c7 w7 ho7 hg7; have HO7 := hide ho7; have HB7 := hide (own_bel HO1.out HB1.out (Nat.le_refl _) (Nat.le_refl _) hg7); clear ho7 hg7)
      go_roundw
      case rel => exact ⟨i + 1, HI.out, by go_num, by rw [List.take_add_one, HX.out]; exact HO7.out, HB7.out⟩
      case measure => simp [intOf]; omega
    · obtain rfl : i = l.length := by omega
      have h2' : ¬ (l.length : Int) < (l.length : Int) := by omega
      have ho := HO.out
      rw [List.take_length] at ho
      obtain ⟨A5, c5, rfl, -⟩ := own_its ho
      have HO5 := hide ho
      clear ho HO
      go_wp2
      go_ret
      exact ⟨A5, c5, rfl, HO5.out, HB.out⟩

theorem same_step {a b : List It} {i : Nat} (h : a.take i = b.take i) (ha : i < a.length) (hb : i < b.length) (e : gt a i = gt b i) : a.take (i + 1) = b.take (i + 1) := by
  rw [List.take_add_one, List.take_add_one, h, gt_get ha, gt_get hb, e]
set_option maxRecDepth 100000 in
set_option maxHeartbeats 1600000 in
theorem rh_Same (A : Option Addr) (n c : Nat) (a : List It) (B : Option Addr) (m d : Nat) (b : List It) (w : World) (hl : IL w A n c a) (hm : IL w B m d b) (hn : (n : Int) ≤ 1000) (hn2 : (m : Int) ≤ 1000) :
    Calls Try.prog 9 #[.slice A n c, .slice B m d] w fun e w' => e = .returned (.bool (decide (a = b))) ∧ Below w.heap.size w w' := by
  have HA := hide hl
  have HB := hide hm
  have HLA := hide hl.len
  have HLB := hide hm.len
  clear hl hm
  by_cases h : n = m
  · subst h
    have h' : ((n : Int) != (n : Int)) = false := by simp
    go_enter Try.func9, Try.ntmps9
    go_wp2_with fail
    go_loopw [5] (fun s5 wr => ∃ i : Nat, i ≤ n ∧ s5 = .int .i64 (i : Int) ∧ Hid (a.take i = b.take i) ∧ Hid (Below w.heap.size w wr)) (fun s5 _ => n - (intOf s5).toNat)
    case atStart => exact ⟨0, by omega, rfl, rfl, Below.refl _ _⟩
    case round =>
      obtain ⟨i, hi, rfl, HT, HW⟩ := hrel
      by_cases h2 : i < n
      · have h2' : (i : Int) < (n : Int) := by omega
        obtain ⟨x, b1, o1, hx, rfl, -, c0, c1⟩ := (HA.out.keep HW.out).round h2
        obtain ⟨y, b2, o2, hy, rfl, -, d0, d1⟩ := (HB.out.keep HW.out).round h2
        have HX := hide (gt_some hx)
        have HY := hide (gt_some hy)
        clear hx hy
        obtain ⟨xk, xd⟩ := x
        obtain ⟨yk, yd⟩ := y
        simp only at c0 c1 d0 d1
        by_cases e1 : xk = yk
        · subst e1
          by_cases e2 : xd = yd
          · subst e2
            have HS := hide (same_step HT.out (by rw [HLA.out]; exact h2) (by rw [HLB.out]; exact h2) (HX.out.trans HY.out.symm))
            go_wp2_with fail
            go_region
            go_wp2_with fail
            go_roundw
            case rel => exact ⟨i + 1, h2, by go_num, HS.out, HW.out.drew⟩
            case measure => simp [intOf]; omega
          · have HNE := hide (show ¬ a = b from fun e => by subst e; have := HX.out.symm.trans HY.out; injection this with _ q; exact e2 q)
            have e2' : (xd == yd) = false := by simpa using e2
            go_wp2_with fail
            go_region
            go_wp2_with fail
            go_ret
            exact ⟨by rw [decide_eq_false HNE.out]; rfl, HW.out.drew⟩
        · have HNE := hide (show ¬ a = b from fun e => by subst e; have := HX.out.symm.trans HY.out; injection this with q _; exact e1 q)
          have e1' : (xk == yk) = false := by simpa using e1
          go_wp2_with fail
          go_region
          go_wp2_with fail
          go_ret
          exact ⟨by rw [decide_eq_false HNE.out]; rfl, HW.out.drew⟩
      · have h2' : ¬ (i : Int) < (n : Int) := by omega
        have HE := hide (show a = b by
          have := HT.out
          rwa [List.take_of_length_le (by rw [HLA.out]; omega), List.take_of_length_le (by rw [HLB.out]; omega)] at this)
        go_wp2
        go_ret
        exact ⟨by rw [decide_eq_true HE.out]; rfl, HW.out⟩
  · have h' : ((n : Int) != (m : Int)) = true := by simp; omega
    have HNE := hide (show ¬ a = b from fun e => h (by rw [← HLA.out, ← HLB.out, e]))
    go_enter Try.func9, Try.ntmps9
    go_wp2_with fail
    go_ret
    exact ⟨by rw [decide_eq_false HNE.out]; rfl, Below.refl _ _⟩
end Go.Proofs.Ytofnpmmbfcnlgaa
