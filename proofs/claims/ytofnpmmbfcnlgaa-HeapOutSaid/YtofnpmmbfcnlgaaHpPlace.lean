/-
  Layer 24: place.
-/
import Derived.Test.YtofnpmmbfcnlgaaHpMem
namespace Go.Proofs.Ytofnpmmbfcnlgaa
set_option linter.unusedSimpArgs false
set_option linter.unusedVariables false
open Go.RowKit

/-- The place of the first one of an ID; -1: there is none. -/
def fstI (l : List It) (d : Int) : Int := if plc l d < l.length then ((plc l d : Nat) : Int) else -1
def NoTo (l : List It) (d : Int) (k : Nat) : Prop := ∀ j, j < k → ¬ (gt l j).d = d
theorem fst_at {l : List It} {d : Int} {k : Nat} (hk : k < l.length) (he : (gt l k).d = d) (h : NoTo l d k) : fstI l d = (k : Int) ∧ plc l d = k := by
  have e : plc l d = k := by
    unfold plc
    rw [List.findIdx_eq hk]
    refine ⟨by rw [gt_lt hk]; simpa using he, fun j hj => ?_⟩
    rw [gt_lt (by omega)]
    simpa using h j hj
  exact ⟨by rw [fstI, e, if_pos hk], e⟩
theorem fst_no {l : List It} {d : Int} {k : Nat} (hk : l.length ≤ k) (h : NoTo l d k) : fstI l d = -1 := by
  have e : plc l d = l.length := by
    unfold plc
    rw [List.findIdx_eq_length]
    intro x hx
    obtain ⟨j, hj, rfl⟩ := List.getElem_of_mem hx
    rw [gt_lt hj]
    simpa using h j (by omega)
  rw [fstI, e, if_neg (by omega)]
theorem NoTo.step {l : List It} {d : Int} {k : Nat} (h : NoTo l d k) (q : ¬ (gt l k).d = d) : NoTo l d (k + 1) := fun j hj => by
  rcases Nat.lt_or_eq_of_le (Nat.le_of_lt_succ hj) with h1 | rfl
  · exact h j h1
  · exact q
/-- There is none, or one at a place. -/
theorem fst_or (l : List It) (d : Int) : (fstI l d = -1) ∨ ∃ k : Nat, fstI l d = (k : Int) ∧ plc l d = k ∧ k < l.length ∧ (gt l k).d = d := by
  unfold fstI
  split
  · next h =>
    refine .inr ⟨plc l d, rfl, rfl, h, ?_⟩
    have := List.findIdx_getElem (w := h)
    rw [← gt_lt h]
    exact of_decide_eq_true this
  · exact .inl rfl

set_option maxHeartbeats 1600000 in
theorem hp_is (x : It) (id : Int) (cb : Nat) (w : World) (hb : BlkIs w cb 3 #[.int .i64 id]) :
    Calls Try.prog 33 #[.agg #[.int .i64 x.k, .int .i64 x.d], .pointer (some ⟨cb, 0, none⟩)] w fun e w' => e = .returned (.bool (decide (x.d = id))) ∧ Below w.heap.size w w' := by
  have k0 := hb.cell 0
  simp only [List.getElem?_toArray, List.getElem?_cons_zero] at k0
  have hlt := hb.lt
  clear hb
  obtain ⟨a, d⟩ := x
  simp only
  by_cases h : d = id
  · subst h
    rw [show decide (d = d) = true by simp]
    go_enter Try.func33, Try.ntmps33
    go_wp2
    go_ret
    exact ⟨rfl, bel1 _ _⟩
  · rw [show decide (d = id) = false by simpa using h]
    have h' : (d == id) = false := by simpa using h
    clear h
    go_enter Try.func33, Try.ntmps33
    go_wp2
    go_ret
    exact ⟨rfl, bel1 _ _⟩

set_option maxRecDepth 100000 in
set_option maxHeartbeats 1600000 in
theorem hp_index (A : Option Addr) (n c : Nat) (l : List It) (id : Int) (cb : Nat) (w : World) (hl : IL w A n c l) (hb : BlkIs w cb 3 #[.int .i64 id]) (hn : (n : Int) ≤ 1000) :
    Calls Try.prog 32 #[.slice A n c, .func (.func 33) #[] #[.pointer (some ⟨cb, 0, none⟩)]] w fun e w' => e = .returned (.int .i64 (fstI l id)) ∧ Below w.heap.size w w' := by
  have HL := hide hl
  have HLN := hide hl.len
  have HBK := hide hb
  clear hl hb
  go_enter Try.func32, Try.ntmps32
  go_wp2_with fail
  go_loopw [8] (fun s8 wr => ∃ k : Nat, s8 = .int .i64 (k : Int) ∧ k ≤ n ∧ Hid (NoTo l id k) ∧ Hid (Below w.heap.size w wr)) (fun s8 _ => n - (intOf s8).toNat)
  case atStart => exact ⟨0, rfl, by omega, (fun j hj => by omega), Below.refl _ _⟩
  case round =>
    obtain ⟨k, rfl, hk, HP, HB⟩ := hrel
    by_cases h2 : k < n
    · have h2' : (k : Int) < (n : Int) := by omega
      obtain ⟨x, b, off, hx, hA, hbl, c0, c1⟩ := (HL.out.keep HB.out).round h2
      subst hA
      have HX := hide (gt_some hx)
      have HC := hide (hp_is x id cb wr (HBK.out.keep HB.out))
      have HIL := hide (show k < l.length by rw [HLN.out]; exact h2)
      clear hx
      cases hq : decide (x.d = id) with
      | true =>
        rw [hq] at HC
        have HXI := hide (show x.d = id by simpa using hq)
        clear hq
        have HE := hide (fst_at HIL.out (by rw [HX.out]; exact HXI.out) HP.out).1
        go_wp2_with (go_at_call 33; (with_reducible refine HC.out.mono ?_); rintro e w2 ⟨rfl, hb2⟩; have HB2 := hide (HB.out.trans (hb2.mono HB.out.size)); clear hb2)
        go_ret
        exact ⟨by rw [HE.out]; rfl, HB2.out⟩
      | false =>
        rw [hq] at HC
        have HXI := hide (show ¬ x.d = id by simpa using hq)
        clear hq
        have HS := hide (HP.out.step (by rw [HX.out]; exact HXI.out))
        go_wp2_with (go_at_call 33; (with_reducible refine HC.out.mono ?_); rintro e w2 ⟨rfl, hb2⟩; have HB2 := hide (HB.out.trans (hb2.mono HB.out.size)); clear hb2)
        go_roundw
        case rel => exact ⟨k + 1, by go_num, by omega, HS.out, HB2.out⟩
        case measure => simp [intOf]; omega
    · have h2' : ¬ (k : Int) < (n : Int) := by omega
      have HE := hide (fst_no (l := l) (d := id) (k := k) (by rw [HLN.out]; omega) HP.out)
      go_wp2
      go_ret
      exact ⟨by rw [HE.out]; rfl, HB.out⟩

set_option maxHeartbeats 1600000 in
theorem hp_place (A : Option Addr) (n c : Nat) (l : List It) (id : Int) (w : World) (hl : IL w A n c l) (hn : (n : Int) ≤ 1000) :
    Calls Try.prog 29 #[.slice A n c, .int .i64 id] w fun e w' => e = .returned (.int .i64 (fstI l id)) ∧ Below w.heap.size w w' := by
  have HI := hide (hp_index A n c l id w.heap.size (w.alloc (.cells #[.int .i64 id] 3)) (hl.alloc _) (BlkIs.new _ _ _) hn)
  clear hl
  go_enter Try.func29, Try.ntmps29
  go_wp2_with (go_at_call 32; (with_reducible refine HI.out.mono ?_); rintro e w2 ⟨rfl, hb2⟩; have HB2 := hide ((bel1 w (.cells #[.int .i64 id] 3)).trans (hb2.mono (bel1 w (.cells #[.int .i64 id] 3)).size)); clear hb2)
  go_ret
  exact ⟨rfl, HB2.out⟩

end Go.Proofs.Ytofnpmmbfcnlgaa
