/-
  Layer 15: without: slices.IndexFunc, slices.DeleteFunc over a list that the call made.
-/
import Derived.Test.YtjjgnhdaaicmeaaIdRows
import Derived.Test.YtjjgnhdaaicmeaaIdAsk
import Derived.Test.YtjjgnhdaaicmeaaOwnSet
import Derived.Lib.SliceRun
namespace Go.Proofs.Ytjjgnhdaaicmeaa
set_option linter.unusedSimpArgs false
set_option linter.unusedVariables false
open Go.RowKit

theorem id_wo1 (x id : Int) (cb : Nat) (w : World) (hb : BlkIs w cb 3 #[.int .i64 id]) :
    Calls Try.prog 32 #[.int .i64 x, .pointer (some ⟨cb, 0, none⟩)] w fun e w' => e = .returned (.bool (decide (x = id))) ∧ w = w' := by
  have k0 := hb.cell 0
  simp only [List.getElem?_toArray, List.getElem?_cons_zero] at k0
  clear hb
  by_cases h : x = id
  · subst h
    rw [show decide (x = x) = true by simp]
    go_enter Try.func32, Try.ntmps32
    go_wp2
    go_ret
    exact ⟨rfl, rfl⟩
  · rw [show decide (x = id) = false by simpa using h]
    have h' : (x == id) = false := by simpa using h
    clear h
    go_enter Try.func32, Try.ntmps32
    go_wp2
    go_ret
    exact ⟨rfl, rfl⟩

/-- What IndexFunc answers: the first place, or -1. -/
def IdxIs (l : List Int) (id r : Int) : Prop := (r = -1 ∧ ∀ (j : Nat) (y : Int), l[j]? = some y → ¬ y = id) ∨ ∃ k : Nat, k < l.length ∧ r = (k : Int) ∧ l[k]? = some id ∧ ∀ (j : Nat) (y : Int), j < k → l[j]? = some y → ¬ y = id
set_option maxRecDepth 100000 in
set_option maxHeartbeats 1600000 in
theorem id_index (A : Option Addr) (n c : Nat) (l : List Int) (id : Int) (cb : Nat) (w : World) (hl : NL .i64 w A n c l) (hb : BlkIs w cb 3 #[.int .i64 id]) (hn : (n : Int) ≤ 1000000) :
    Calls Try.prog 33 #[.slice A n c, .func (.func 32) #[] #[.pointer (some ⟨cb, 0, none⟩)]] w fun e w' => ∃ r, e = .returned (.int .i64 r) ∧ IdxIs l id r ∧ w = w' := by
  have HL := hide hl
  have HC := hide (fun x => id_wo1 x id cb w hb)
  clear hl hb
  go_enter Try.func33, Try.ntmps33
  go_wp2_with fail
  go_loop [8] (fun k => ∃ i : Nat, i ≤ n ∧ k = .int .i64 (i : Int) ∧ Hid (∀ j y, j < i → l[j]? = some y → ¬ y = id)) (fun k => n - (intOf k).toNat)
  case atStart => exact ⟨0, by omega, rfl, fun j y hj => by omega⟩
  case round =>
    obtain ⟨i, hi, rfl, HO⟩ := hrel
    by_cases hlt : i < n
    · have hlt' : (i : Int) < (n : Int) := by omega
      obtain ⟨x, b, off, hx, rfl, hbl, c0, -⟩ := HL.out.round hlt
      have HX := hide hx
      have HCX := hide (HC.out x)
      have HIL := hide (show i < l.length by rw [HL.out.len]; exact hlt)
      clear hx
      cases hq : decide (x = id) with
      | true =>
        have hxi : x = id := by simpa using hq
        have HXI := hide hxi
        rw [hq] at HCX
        clear hq hxi
        go_wp2_with (go_at_call 32; refine HCX.out.mono ?_; rintro e w2 ⟨rfl, rfl⟩)
        go_ret
        exact ⟨(i : Int), rfl, Or.inr ⟨i, HIL.out, rfl, by rw [HX.out, HXI.out], HO.out⟩, rfl⟩
      | false =>
        have hxi : ¬ x = id := by simpa using hq
        have HXI := hide hxi
        rw [hq] at HCX
        clear hq hxi
        go_wp2_with (go_at_call 32; refine HCX.out.mono ?_; rintro e w2 ⟨rfl, rfl⟩)
        go_round
        case rel => exact ⟨i + 1, by omega, by go_num, fun j y hj hy => by
          by_cases e : j = i
          · subst e
            rw [HX.out] at hy
            injection hy with hy
            rw [← hy]; exact HXI.out
          · exact HO.out j y (by omega) hy⟩
        case measure => simp [intOf]; omega
    · have hge : ¬ (i : Int) < (n : Int) := by omega
      obtain rfl : i = n := by omega
      go_wp2
      go_ret
      exact ⟨-1, rfl, Or.inl ⟨rfl, fun j y hy => HO.out j y (by have h1 := (List.getElem?_eq_some_iff.1 hy).1; have h2 := HL.out.len; omega) hy⟩, rfl⟩

/-! ## DeleteFunc -/
theorem own_setN {B n c g : Nat} {e : TypeId} : ∀ (vs : List Value) (i : Nat) (w : World) (xs : List Value), w.ownsRow B e 1 (.slice (some ⟨g, 0, none⟩) n c) n xs → i + vs.length ≤ n →
    ∃ ys, (w.setCells g i vs).ownsRow B e 1 (.slice (some ⟨g, 0, none⟩) n c) n ys ∧ ys.take i = xs.take i
  | [], i, w, xs, h, _ => ⟨xs, h, rfl⟩
  | v :: r, i, w, xs, h, hi => by
    simp only [List.length_cons] at hi
    obtain ⟨ys, hy, ht⟩ := own_setN r (i + 1) (w.setCell ⟨g, i, none⟩ v) (xs.set i v) (own_set h i (by omega) v) (by omega)
    refine ⟨ys, hy, ?_⟩
    have h1 : ys.take i = (ys.take (i + 1)).take i := by rw [List.take_take]; congr 1; omega
    rw [h1, ht, List.take_take, Nat.min_eq_left (by omega), List.take_set_of_le (Nat.le_refl _)]
theorem own_cut {w : World} {B n c g i : Nat} {e : TypeId} {xs : List Value} (h : w.ownsRow B e 1 (.slice (some ⟨g, 0, none⟩) n c) n xs) (hi : i ≤ n) : w.ownsRow B e 1 (.slice (some ⟨g, 0, none⟩) i c) i (xs.take i) := by
  have hl := h.1
  refine ⟨by rw [List.length_take]; omega, ?_⟩
  rcases h.2 with ⟨he, _⟩ | ⟨g', cap, cur, he, hb, hg, hn, hm, hs, ht⟩
  · cases he
  · injection he with e1 e2 e3
    injection e1 with e1
    injection e1 with e1
    subst e1 e3
    refine .inr ⟨g, c, cur, rfl, hb, hg, by omega, hm, hs, ?_⟩
    rw [← ht, List.take_take]
    congr 1; omega
theorem below_setN {B g : Nat} : ∀ (vs : List Value) (i : Nat) (a w : World), Below B a w → B ≤ g → Below B a (w.setCells g i vs)
  | [], _, _, _, h, _ => h
  | v :: r, i, a, w, h, hg => below_setN r (i + 1) a _ ⟨h.os, h.tape, h.output, by simpa [World.setCell] using h.size, fun k hk => (Below.heap_setCell w ⟨g, i, none⟩ v k (by show k ≠ g; omega)).trans (h.block k hk)⟩ hg
theorem below_setC {B g i : Nat} {a w : World} (h : Below B a w) (hg : B ≤ g) (v : Value) : Below B a (w.setCell ⟨g, i, none⟩ v) := below_setN [v] i a w h hg

/-- Other than. -/
def offP (id : Int) (n : Int) : Bool := !decide (n = id)
theorem off_take_eq {l : List Int} {id x : Int} {j : Nat} (hx : l[j]? = some x) (h : x = id) : (l.take (j + 1)).filter (offP id) = (l.take j).filter (offP id) := by
  rw [List.take_add_one, hx, List.filter_append]
  simp [offP, h]
theorem off_take_ne {l : List Int} {id x : Int} {j : Nat} (hx : l[j]? = some x) (h : ¬ x = id) : (l.take (j + 1)).filter (offP id) = (l.take j).filter (offP id) ++ [x] := by
  rw [List.take_add_one, hx, List.filter_append]
  simp [offP, h]
theorem off_all {l : List Int} {id : Int} (h : ∀ (j : Nat) (y : Int), l[j]? = some y → ¬ y = id) : l.filter (offP id) = l := by
  rw [List.filter_eq_self]
  intro x hx
  obtain ⟨j, hj, rfl⟩ := List.getElem_of_mem hx
  simpa [offP] using h j _ (List.getElem?_eq_getElem hj)
/-- Where the row stands: i are kept, j were looked at. -/
structure DelIs (l : List Int) (id : Int) (i j : Nat) (ks : List Int) : Prop where
  len : ks.length = l.length
  low : ks.take i = (l.take j).filter (offP id)
  high : ks.drop j = l.drop j
theorem DelIs.start {l : List Int} {id : Int} {k : Nat} (hk : l[k]? = some id) (hno : ∀ (j : Nat) (y : Int), j < k → l[j]? = some y → ¬ y = id) : DelIs l id k (k + 1) l := by
  refine ⟨rfl, ?_, rfl⟩
  rw [off_take_eq hk rfl, off_all]
  intro j y hy
  have hj : j < k := by
    have := (List.getElem?_eq_some_iff.1 hy).1
    rw [List.length_take] at this; omega
  rw [List.getElem?_take_of_lt hj] at hy
  exact hno j y hj hy
theorem DelIs.at_ {l ks : List Int} {id : Int} {i j : Nat} (h : DelIs l id i j ks) {x : Int} (hx : l[j]? = some x) : ks[j]? = some x := by
  have h1 : (ks.drop j)[0]? = (l.drop j)[0]? := by rw [h.high]
  simpa [hx] using h1
theorem DelIs.skip {l ks : List Int} {id : Int} {i j : Nat} (h : DelIs l id i j ks) {x : Int} (hx : l[j]? = some x) (he : x = id) : DelIs l id i (j + 1) ks := by
  refine ⟨h.len, by rw [off_take_eq hx he]; exact h.low, ?_⟩
  have := congrArg (List.drop 1) h.high
  simpa [List.drop_drop] using this
theorem DelIs.keep {l ks : List Int} {id : Int} {i j : Nat} (h : DelIs l id i j ks) {x : Int} (hx : l[j]? = some x) (he : ¬ x = id) (hij : i < j) (hj : j < l.length) : DelIs l id (i + 1) (j + 1) (ks.set i x) := by
  refine ⟨by rw [List.length_set]; exact h.len, ?_, ?_⟩
  · rw [off_take_ne hx he, ← h.low, List.take_add_one, List.getElem?_set_self (by rw [h.len]; omega), List.take_set_of_le (Nat.le_refl _)]
    rfl
  · rw [List.drop_set_of_lt (by omega)]
    have := congrArg (List.drop 1) h.high
    simpa [List.drop_drop] using this
theorem DelIs.done {l ks : List Int} {id : Int} {i : Nat} (h : DelIs l id i l.length ks) : ks.take i = l.filter (offP id) := by
  rw [h.low, List.take_length]
theorem DelIs.count {l ks : List Int} {id : Int} {i : Nat} (h : DelIs l id i l.length ks) (hi : i ≤ l.length) : (l.filter (offP id)).length = i := by
  rw [← h.done, List.length_take, h.len]; omega

set_option maxRecDepth 100000 in
set_option maxHeartbeats 3200000 in
theorem id_delete (A : Option Addr) (n c : Nat) (l : List Int) (id : Int) (cb B : Nat) (w : World) (ho : w.ownsRow B 3 1 (.slice A n c) n (ncs l)) (hb : BlkIs w cb 3 #[.int .i64 id]) (hcb : cb < B) (hw : AllN l) (hn : (n : Int) ≤ 1000000) :
    Calls Try.prog 31 #[.slice A n c, .func (.func 32) #[] #[.pointer (some ⟨cb, 0, none⟩)]] w fun e w' => e = .returned (.slice A (l.filter (offP id)).length c) ∧ w'.ownsRow B 3 1 (.slice A (l.filter (offP id)).length c) (l.filter (offP id)).length (ncs (l.filter (offP id))) ∧ Below B w w' := by
  have hl := nl_own ho hw
  have HIX := hide (id_index A n c l id cb w hl hb hn)
  have hln := hl.len
  subst hln
  have HO := hide ho
  have HBK := hide hb
  have HCB := hide hcb
  have HLE := hide hl.le
  clear ho hb hcb hl hw
  obtain ⟨R, hR⟩ : ∃ R, l.filter (offP id) = R := ⟨_, rfl⟩
  rw [hR]
  have HR := hide hR
  clear hR
  go_enter Try.func31, Try.ntmps31
  go_wp2_with fail
  refine HIX.out.mono ?_
  rintro e w2 ⟨r, rfl, hix, rfl⟩
  clear HIX
  rcases hix with ⟨rfl, hno⟩ | ⟨k, hk, rfl, hki, hno⟩
  · have HE := hide (show R = l from HR.out.symm.trans (off_all hno))
    clear hno HR
    go_wp2
    go_ret
    refine ⟨by rw [HE.out]; rfl, by rw [HE.out]; exact HO.out, Below.refl _ _⟩
  · obtain ⟨g, rfl⟩ : ∃ g, A = some ⟨g, 0, none⟩ := by
      rcases HO.out.2 with ⟨he, h0⟩ | ⟨g, cap, cur, he, _⟩
      · omega
      · injection he with e1
        exact ⟨g, e1⟩
    have hgB := (own_lt HO.out).1
    have HST := hide (DelIs.start hki hno)
    have hne1 : ((k : Int) == -1) = false := beq_eq_false_iff_ne.2 (by omega)
    clear hki hno
    go_wp2_with fail
    clear hne1
    go_loopw [5, 6] (fun s5 s6 wr => ∃ (i j : Nat) (ks : List Int), i < j ∧ j ≤ l.length ∧ s5 = .int .i64 (i : Int) ∧ s6 = .int .i64 (j : Int) ∧ Hid (DelIs l id i j ks) ∧ Hid (wr.ownsRow B 3 1 (.slice (some ⟨g, 0, none⟩) l.length c) l.length (ncs ks)) ∧ Hid (Below B w wr)) (fun _ s6 _ => l.length - (intOf s6).toNat)
    case atStart => exact ⟨k, k + 1, l, by omega, by omega, rfl, by go_num, HST.out, HO.out, Below.refl _ _⟩
    case round =>
      clear HST hk
      obtain ⟨i, j, ks, hij, hjn, rfl, rfl, HD, HOW, HB⟩ := hrel
      have HC := hide (fun x => id_wo1 x id cb wr (HBK.out.below HB.out HCB.out))
      by_cases hlt : j < l.length
      · have hlt' : (j : Int) < (l.length : Int) := by omega
        have hin' : (i : Int) < (l.length : Int) := by omega
        obtain ⟨x, hx⟩ : ∃ x, l[j]? = some x := ⟨l[j], List.getElem?_eq_getElem hlt⟩
        obtain ⟨y, hy⟩ : ∃ y, ks[i]? = some y := ⟨ks[i]'(by have := HD.out.len; omega), List.getElem?_eq_getElem _⟩
        have cj := HOW.out.cells (g := g) rfl j (.int .i64 x) (by simp [ncs, HD.out.at_ hx])
        have ci := HOW.out.cells (g := g) rfl i (.int .i64 y) (by simp [ncs, hy])
        simp only [Addr.add_lit, Nat.zero_add] at cj ci
        have fi := own_frozen HOW.out i
        have HX := hide hx
        have HIJ := hide hij
        have HCX := hide (HC.out x)
        have HLT := hide hlt
        clear hx hy HC
        cases hq : decide (x = id) with
        | true =>
          have HXI := hide (show x = id by simpa using hq)
          rw [hq] at HCX
          clear hq ci fi hin'
          go_wp2_with (go_at_call 32; refine HCX.out.mono ?_; rintro e w2 ⟨rfl, rfl⟩)
          go_roundw
          case rel => exact ⟨i, j + 1, ks, by omega, by omega, rfl, by go_num, HD.out.skip HX.out HXI.out, HOW.out, HB.out⟩
          case measure => simp [intOf]; omega
        | false =>
          have HXI := hide (show ¬ x = id by simpa using hq)
          rw [hq] at HCX
          clear hq
          go_wp2_with (go_at_call 32; refine HCX.out.mono ?_; rintro e w2 ⟨rfl, rfl⟩)
          go_roundw
          case rel => exact ⟨i + 1, j + 1, ks.set i x, by omega, by omega, by go_num, by go_num, HD.out.keep HX.out HXI.out HIJ.out HLT.out, (by have h := own_set HOW.out i (by omega) (.int .i64 x); rw [show (ncs ks).set i (.int .i64 x) = ncs (ks.set i x) by simp [ncs, List.map_set]] at h; exact h), below_setC HB.out hgB _⟩
          case measure => simp [intOf]; omega
      · obtain rfl : j = l.length := by omega
        have hge : ¬ ((l.length : Nat) : Int) < ((l.length : Nat) : Int) := by omega
        have hil : (i : Int) ≤ (l.length : Int) := by omega
        have hic : (i : Int) ≤ (c : Int) := by have := HLE.out; omega
        have hlc : (l.length : Int) ≤ (c : Int) := by have := HLE.out; omega
        have hcl : ∀ ty, (Builtin.clear_ #[22] ty #[.slice (some ⟨g, i, none⟩) (l.length - i) (c - i)]).run Try.prog wr = .ok (.tuple #[]) (wr.setCells g i (List.replicate (l.length - i) (.int .i64 0))) := fun ty =>
          Lib.run_clear_slice wr _ _ ty _ Try.underlying22 int_zero rfl rfl g i _ _ (by omega) (fun t ht => by
            have := HOW.out.cells (g := g) rfl (i + t) (.int .i64 (ks[i + t]'(by have := HD.out.len; omega))) (by simp [ncs])
            simp only [Addr.add_lit, Nat.zero_add] at this
            rw [this]; rfl) (fun t ht => own_frozen HOW.out (i + t))
        have HIL := hide (show i ≤ l.length by omega)
        go_wp2
        go_ret
        obtain ⟨ys, hy, hyt⟩ := own_setN (List.replicate (l.length - i) (.int .i64 0)) i wr (ncs ks) HOW.out (by rw [List.length_replicate]; have := HIL.out; omega)
        have hrl : R.length = i := by rw [← HR.out]; exact HD.out.count HIL.out
        have hcut := own_cut hy HIL.out
        rw [hyt, show (ncs ks).take i = ncs (ks.take i) by simp [ncs, List.map_take], HD.out.done, HR.out] at hcut
        refine ⟨by rw [hrl]; rfl, by rw [hrl]; exact hcut, below_setN _ _ _ _ HB.out hgB⟩
end Go.Proofs.Ytjjgnhdaaicmeaa
