/-
  Layer 13: the values of a setting, one by one: the program's iterator; Least and Greatest, which go over it.
-/
import Derived.Test.YtjfdlgmdlfbeoaaUkMem
import Derived.Test.YtjfdlgmdlfbeoaaUkSame
import Derived.RangeFuncNested
import Derived.RangeFuncBound
import Derived.RangeFuncCalls
import Derived.RangeFuncLeaves
import Derived.RangeFuncFrom
import Derived.Shelf.Abstract
import Derived.Shelf.RegionOpen
import Derived.WalkKit
import Derived.OwnWalkIn
import Derived.TacticsInMore
import Derived.LoopNIn
import Derived.LoopIn
import Derived.Lib.MinMax
namespace Go.Proofs.Ytjfdlgmdlfbeoaa
set_option linter.unusedSimpArgs false
set_option linter.unusedVariables false
open Go.RowKit Go.Shelf
attribute [local go_sem] Oper.semAt_some

/-- What a round keeps: all below n₁ but the block h. -/
structure Kx (n₁ h : Nat) (W W' : World) : Prop where
  os : W'.os = W.os
  tape : W'.tape = W.tape
  output : W'.output = W.output
  size : W.heap.size ≤ W'.heap.size
  block : ∀ k, k < n₁ → k ≠ h → W'.heap[k]? = W.heap[k]?
theorem Kx.refl (n₁ h : Nat) (W : World) : Kx n₁ h W W := ⟨rfl, rfl, rfl, Nat.le_refl _, fun _ _ _ => rfl⟩
theorem kx_t {n₁ h : Nat} {A B C : World} (a : Kx n₁ h A B) (b : Kx n₁ h B C) : Kx n₁ h A C := ⟨b.os.trans a.os, b.tape.trans a.tape, b.output.trans a.output, Nat.le_trans a.size b.size, fun k hk hn => (b.block k hk hn).trans (a.block k hk hn)⟩
theorem kx_below {n₁ h : Nat} {W W' : World} (a : Below n₁ W W') : Kx n₁ h W W' := ⟨a.os, a.tape, a.output, a.size, fun k hk _ => a.block k hk⟩
theorem kx_b {n₁ h : Nat} {w : World} (hn : n₁ ≤ w.heap.size) (W : World) (l : Nat) (o o' : Obj) (hl : w.heap.size ≤ l) (hW : W.heap[l]? = some o) (hc : o.isCells = false) (hw : o.isWalk = false) : Kx n₁ h W (W.putObj l o') := kx_below (belowK_b hn W l o o' hl hW hc hw)
theorem Kx.set {n₁ h : Nat} (W : World) (v : Value) : Kx n₁ h W (W.setCell ⟨h, 0, none⟩ v) := ⟨rfl, rfl, rfl, by simp [World.setCell], fun k _ hn => Below.heap_setCell W ⟨h, 0, none⟩ v k hn⟩
theorem Kx.to_below {n₁ h n₀ : Nat} {W W' : World} (a : Kx n₁ h W W') (h0 : n₀ ≤ n₁) (hh : n₀ ≤ h) : Below n₀ W W' := ⟨a.os, a.tape, a.output, a.size, fun k hk => a.block k (by omega) (by omega)⟩
theorem Kx.cell {n₁ h : Nat} {W W' : World} (a : Kx n₁ h W W') {p : Addr} (hp : p.block < n₁) (hn : p.block ≠ h) : W'.cell? p = W.cell? p := World.cell?_of_block (a.block _ hp hn)

set_option maxRecDepth 100000 in
set_option maxHeartbeats 6400000 in
/-- The iterator: all values, in order; or a part of them, where a round has said 'no more'. -/
theorem vals_stops (F : Fence) (n : Nat) (hF : F.fn 44) (hro : F.round = none) (hn : 1 ≤ n) (Bq Bi n₁ h : Nat) (A : Option Addr) (m c : Nat) (l : List It) (id : Int) (w0 w1 : World)
    (hl : IL w0 A m c l) (hm : (m : Int) ≤ 1000000) (hf : FewP l) (hb : Below w0.heap.size w0 w1) (hh : w0.heap.size ≤ h) (hn1 : w0.heap.size ≤ n₁) (hz : n₁ ≤ w1.heap.size)
    (hBq : w1.cell? ⟨Bq, 0, none⟩ = some (.slice A m c)) (hBi : w1.cell? ⟨Bi, 0, none⟩ = some (.int .u16 id)) (hq : Bq < n₁) (hi' : Bi < n₁) (hih : Bi ≠ h) :
    SeqStopsK F n Try.prog 44 #[.pointer (some ⟨Bq, 0, none⟩), .pointer (some ⟨Bi, 0, none⟩)] (fun x : Int => #[Value.int .i64 x]) (Kx n₁ h) (fun ys => ys = valsU id l) (fun pre => pre <+: valsU id l) (valsU id l).length w1 := by
  intro lb J Jx W hW hJ hJx hY h0'
  have HIL := hide hl
  have HF := hide hf
  have HB0 := hide (hb.trans (hW.mono (by have := hb.size; omega)))
  have cq := (hW.cell (p := ⟨Bq, 0, none⟩) (show Bq < w1.heap.size by omega)).trans hBq
  have HBI := hide ((hW.cell (p := ⟨Bi, 0, none⟩) (show Bi < w1.heap.size by omega)).trans hBi)
  have HJ := hide (fun pre W' (o : Obj) (hj : J pre W') => hJ pre W' (W'.alloc o) none hj (World.grownBy_alloc W' o none) (fun r e => by cases e))
  have HY := hide hY
  have HJ0 := hide h0'
  have HV := hide (fun i j (x : It) (p : Pr) (hx : l[i]? = some x) (hp : x.ps[j]? = some p) (h : (p.i == id) = true) => vals_next hx hp h)
  have HU := hide (fun i (x : It) (hx : l[i]? = some x) => valsU_take (id := id) hx)
  have HSZ := hide (show n₁ ≤ W.heap.size by have := hW.size; omega)
  clear hl hf hb hW hJ hJx hY h0' hBq hBi
  show CallsIn F n Try.prog 44 #[.func (.yield lb) #[] #[], .pointer (some ⟨Bq, 0, none⟩), .pointer (some ⟨Bi, 0, none⟩)] W _
  refine callsIn_of_wp Try.func44 rfl hF ?_ hro
  simp only [Try.ntmps44, List.size_toArray, List.length_cons, List.length_nil, Nat.reduceAdd, Nat.reduceSub, Array.replicate_succ, Array.replicate_zero, List.push_toArray, List.append_toArray, List.nil_append, List.cons_append]
  gi_wp2
  gi_loopw [10] (fun k wr => ∃ i : Nat, i ≤ m ∧ k = .int .i64 (i : Int) ∧ J (valsU id (l.take i)) wr ∧ Below w0.heap.size w0 wr ∧ wr.cell? ⟨Bi, 0, none⟩ = some (.int .u16 id) ∧ n₁ ≤ wr.heap.size) (fun k _ => m - (intOf k).toNat)
  case atStart => exact ⟨0, by omega, rfl, HJ0.out, HB0.out, HBI.out, HSZ.out⟩
  case round =>
    obtain ⟨i, hi, rfl, hj, hb, hbi, hsz⟩ := hrel
    have HJI := hide hj
    have HB := hide hb
    have HBI := hide hbi
    have HSZ := hide hsz
    clear hj hb hbi hsz
    by_cases hlt : i < m
    · have hlt' : (i : Int) < (m : Int) := by omega
      obtain ⟨x, A', c', b, off, hx, rfl, hbl0, e0, e1, hp0⟩ := HIL.out.round hlt
      have HX := hide hx
      have HP := hide hp0
      have c0 := (HB.out.cell (p := ⟨b, off + i * 2, none⟩) hbl0).trans e0
      have c1 := (HB.out.cell (p := ⟨b, off + i * 2 + 1, none⟩) hbl0).trans e1
      have hnp := HF.out.at_ hx
      have HU2 := hide (HU.out i x hx)
      have HJ5 := hide (HJ.out _ _ (.cells #[.slice A' x.ps.length c', .int .i64 x.t] 61) HJI.out)
      have HB5 := hide (HB.out.alloc HB.out.size (.cells #[.slice A' x.ps.length c', .int .i64 x.t] 61))
      have HBI5 := hide (((Below.refl wr.heap.size wr).alloc (Nat.le_refl _) (.cells #[.slice A' x.ps.length c', .int .i64 x.t] 61)).cell (p := ⟨Bi, 0, none⟩) (show Bi < wr.heap.size by have := HSZ.out; omega) |>.trans HBI.out)
      have HSZ5 := hide (show n₁ ≤ (wr.alloc (.cells #[.slice A' x.ps.length c', .int .i64 x.t] 61)).heap.size by rw [World.size_alloc]; have := HSZ.out; omega)
      clear hx hp0 e0 e1 hbl0
      gi_wp2
      gi_loopw [17] (fun k wj => ∃ j : Nat, j ≤ x.ps.length ∧ k = .int .i64 (j : Int) ∧ J (valsU id (l.take i) ++ valsP id (x.ps.take j)) wj ∧ Below w0.heap.size w0 wj ∧ wj.cell? ⟨Bi, 0, none⟩ = some (.int .u16 id) ∧ n₁ ≤ wj.heap.size) (fun k _ => x.ps.length - (intOf k).toNat)
      case atStart => exact ⟨0, by omega, rfl, by simpa [valsP] using HJ5.out, HB5.out, HBI5.out, HSZ5.out⟩
      case round =>
        clear HJI HB HBI HSZ HJ5 HB5 HBI5 HSZ5 c0 c1
        obtain ⟨j, hj, rfl, hjj, hb, hbi, hsz⟩ := hrel
        have HJJ := hide hjj
        have HB := hide hb
        have HBI := hide hbi
        have HSZ := hide hsz
        clear hjj hb hbi hsz
        by_cases hlj : j < x.ps.length
        · have hlj' : (j : Int) < (x.ps.length : Int) := by omega
          obtain ⟨f, b2, off2, hf, e, hbl2, d0, d1⟩ := (HP.out.keep HB.out).round hlj
          subst e
          have HFX := hide hf
          have HJ6 := hide (HJ.out _ _ (.cells #[.int .u16 f.i, .int .u32 f.v] 60) HJJ.out)
          have HB6 := hide (HB.out.alloc HB.out.size (.cells #[.int .u16 f.i, .int .u32 f.v] 60))
          have hbi6 := ((Below.refl wr.heap.size wr).alloc (Nat.le_refl _) (.cells #[.int .u16 f.i, .int .u32 f.v] 60)).cell (p := ⟨Bi, 0, none⟩) (show Bi < wr.heap.size by have := HSZ.out; omega) |>.trans HBI.out
          have HSZ6 := hide (show n₁ ≤ (wr.alloc (.cells #[.int .u16 f.i, .int .u32 f.v] 60)).heap.size by rw [World.size_alloc]; have := HSZ.out; omega)
          clear hf HJJ HB HBI HSZ
          obtain ⟨v, hv⟩ : ∃ v, v = IntKind.i64.wrap f.v := ⟨_, rfl⟩
          have hv1 : IntKind.i64.wrap f.v = v := hv.symm
          cases hid : (f.i == id) with
          | true =>
            have HPX := hide (HV.out i j x f HX.out HFX.out hid)
            have HT := hide (valsP_take_yes (id := id) HFX.out hid)
            rw [← hv] at HPX HT
            obtain ⟨fn, tmps, assign, body, hy, hR⟩ := HY.out (valsU id (l.take i) ++ valsP id (x.ps.take j)) v _ HJ6.out (by have h1 := HPX.out.length_le; rw [List.length_append, List.length_cons, List.length_nil] at h1; omega)
            clear hv HFX
            gi_wp2
            refine hR.mono ?_
            rintro e W3 (⟨rfl, hJ3, hk3⟩ | ⟨rfl, hJx3⟩)
            · have HJ7 := hide hJ3
              have HB7 := hide (HB6.out.trans (hk3.to_below hn1 hh))
              have HBI7 := hide ((hk3.cell (p := ⟨Bi, 0, none⟩) hi' hih).trans hbi6)
              have HSZ7 := hide (Nat.le_trans HSZ6.out hk3.size)
              clear hJ3 hk3
              gi_wp2
              go_roundw
              case rel => exact ⟨j + 1, by omega, by go_num, by have h := HJ7.out; rw [List.append_assoc, ← HT.out] at h; exact h, HB7.out, HBI7.out, HSZ7.out⟩
              case measure => simp [intOf]; omega
            · gi_wp2
              refine bodyPost_ret (results_none rfl _ _ _) rfl ?_
              exact ⟨⟨_, rfl⟩, .inr ⟨_, HPX.out, hJx3⟩⟩
          | false =>
            have HT := hide (valsP_take_no (id := id) HFX.out hid)
            clear hv HFX
            gi_wp2
            refine ⟨fun _ h => (by cases h), ?_⟩
            gi_wp2
            go_roundw
            case rel => exact ⟨j + 1, by omega, by go_num, by rw [HT.out]; exact HJ6.out, HB6.out, hbi6, HSZ6.out⟩
            case measure => simp [intOf]; omega
        · have hge : ¬ (j : Int) < (x.ps.length : Int) := by omega
          obtain rfl : j = x.ps.length := by omega
          gi_wp2
          go_roundw
          case rel => exact ⟨i + 1, by omega, by go_num, by have h := HJJ.out; rw [List.take_length, ← HU2.out] at h; exact h, HB.out, HBI.out, HSZ.out⟩
          case measure => simp [intOf]; omega
    · have hge : ¬ (i : Int) < (m : Int) := by omega
      obtain rfl : i = m := by omega
      have HE := hide (show l.take i = l by rw [← HIL.out.len, List.take_length])
      gi_wp2
      go_end0
      exact ⟨⟨_, rfl⟩, .inl (by have h := HJI.out; rw [HE.out] at h; exact h)⟩

set_option maxHeartbeats 1000000 in
/-- values: the queue and the number are boxed; the function value captures the boxes. -/
theorem uk_values_in (F : Fence) (n : Nat) (h37 : F.fn 37) (hro : F.round = none) (A : Option Addr) (m c : Nat) (id : Int) (w : World) :
    CallsIn F n Try.prog 37 #[.slice A m c, .int .u16 id] w fun e w' => e = .returned (.func (.func 44) #[] #[.pointer (some ⟨w.heap.size, 0, none⟩), .pointer (some ⟨w.heap.size + 1, 0, none⟩)]) ∧ w' = (w.alloc (.cells #[.slice A m c] 27)).alloc (.cells #[.int .u16 id] 43) := by
  refine callsIn_of_wp Try.func37 rfl h37 ?_ hro
  simp only [Try.ntmps37, List.size_toArray, List.length_cons, List.length_nil, Nat.reduceAdd, Nat.reduceSub, Array.replicate_succ, Array.replicate_zero, List.push_toArray, List.append_toArray, List.nil_append, List.cons_append]
  gi_wp2
  go_ret
  exact ⟨rfl, rfl⟩

set_option maxRecDepth 100000 in
set_option maxHeartbeats 6400000 in
theorem uk_Least_in (F : Fence) (n : Nat) (h21 : F.fn 21) (h37 : F.fn 37) (h44 : F.fn 44) (hro : F.round = none) (hn : 3 ≤ n) (A : Option Addr) (m c : Nat) (l : List It) (id held : Int) (w : World)
    (hl : IL w A m c l) (hm : (m : Int) ≤ 1000000) (hf : FewP l) :
    CallsIn F n Try.prog 21 #[.slice A m c, .int .u16 id, .int .i64 held] w fun e W' => e = .returned (.int .i64 (leastU id held l)) ∧ Below w.heap.size w W' := by
  have h1 : 1 ≤ n := by omega
  refine callsIn_of_wp_marks Try.func21 rfl h21 ?_ hro
  simp only [Try.ntmps21, List.size_toArray, List.length_cons, List.length_nil, Nat.reduceAdd, Nat.reduceSub, Array.replicate_succ, Array.replicate_zero, List.push_toArray, List.append_toArray, List.nil_append, List.cons_append]
  gi_wp2_with (gi_at_call 37; refine (uk_values_in F (n - 1) h37 hro A m c id _).mono ?_; rintro e w' ⟨rfl, rfl⟩)
  have bs : BlkIs (((w.alloc (.cells #[.int .i64 held] 3)).alloc (.cells #[.slice A m c] 27)).alloc (.cells #[.int .u16 id] 43)) w.heap.size 3 #[.int .i64 held] := ((BlkIs.new w _ _).alloc _).alloc _
  have bq : BlkIs (((w.alloc (.cells #[.int .i64 held] 3)).alloc (.cells #[.slice A m c] 27)).alloc (.cells #[.int .u16 id] 43)) (w.heap.size + 1) 27 #[.slice A m c] := (new2 w _ _ _).alloc _
  have bi : BlkIs (((w.alloc (.cells #[.int .i64 held] 3)).alloc (.cells #[.slice A m c] 27)).alloc (.cells #[.int .u16 id] 43)) (w.heap.size + 1 + 1) 43 #[.int .u16 id] := new3 w _ _ _ _
  have hB0 := bel3 w (.cells #[.int .i64 held] 3) (.cells #[.slice A m c] 27) (.cells #[.int .u16 id] 43)
  refine wpIn_rangeFunc_ownF hro h1 (gf := 44) (lb := #[.pointer (some ⟨w.heap.size + 1, 0, none⟩), .pointer (some ⟨w.heap.size + 1 + 1, 0, none⟩)]) rfl h44 (enters_of Try.func44 (by kernel_rfl) rfl)
    (vals_stops F (n - 1) h44 hro (by omega) (w.heap.size + 1) (w.heap.size + 1 + 1) (w.heap.size + 1 + 1 + 1) w.heap.size A m c l id w _ hl hm hf hB0 (Nat.le_refl _) (by omega) (by simp) (bq.cell 0) (bi.cell 0) (by omega) (by omega) (by omega)) kx_t (kx_b (by simp)) (Below.refl _ _) (fun _ => rfl)
    (fun pre W => (W.cell? ⟨w.heap.size, 0, none⟩ = some (.int .i64 (pre.foldl min held)) ∧ W.frozen? ⟨w.heap.size, 0, none⟩ = false) ∧ Below w.heap.size w W)
    (fun _ _ _ => False)
    (OwnFrom.and (Own.from (fun s A B row hs hg hr => ⟨cell_kept hs.1 hg hr, (frozen_kept hs.1 hg hr).trans hs.2⟩) _) (ownFrom_below (Nat.le_refl _) (by simp; omega)))
    (fun _ _ _ _ _ hs _ _ => hs)
    ⟨⟨bs.cell 0, bs.frozen 0⟩, hB0⟩
    (fun x => { tmps := #[.slice A m c, .int .u16 id, .int .i64 held, undef, undef, .pointer (some ⟨w.heap.size, 0, none⟩), .int .i64 0, .int .i64 x, .slice A m c, .int .u16 id, .func (.func 44) #[] #[.pointer (some ⟨w.heap.size + 1, 0, none⟩), .pointer (some ⟨w.heap.size + 1 + 1, 0, none⟩)], .int .i64 x, undef, undef, undef, undef], defers := [] }) ?assign ?body ?done ?stop
  case assign =>
    intro l x W K hK
    gi_wp2
    exact hK
  case body =>
    rintro l pre x W ⟨⟨hc, hf⟩, hB⟩ _
    have hx : (pre ++ [x]).foldl min held = min (pre.foldl min held) x := by simp [List.foldl_append]
    gi_wp2
    exact ⟨KeepsOthers.setCell _ _ _, Kx.set _ _, ⟨by rw [hx]; exact World.cell?_setCell_same' _ _ _ (by rw [hc]; rfl), by rw [World.frozen?_setCell]; exact hf⟩, hB.setCell (p := ⟨w.heap.size, 0, none⟩) (Nat.le_refl _) _⟩
  case done =>
    rintro D ys W hD rfl ⟨⟨hc, _⟩, hB⟩ hK
    gi_wp2
    refine ⟨by simp, .inl ⟨_, _, rfl, run_takeDeferred hK, ?_⟩⟩
    exact ⟨_, results_tmp rfl _ _ _, rfl, hB.trans (belowK_b (w := w) (Nat.le_refl _) W D _ _ (by simp at hD; omega) hK rfl rfl)⟩
  case stop =>
    rintro D c pre W _ _ h _
    exact h.elim
theorem uk_Least (A : Option Addr) (m c : Nat) (l : List It) (id held : Int) (w : World) (hl : IL w A m c l) (hm : (m : Int) ≤ 1000000) (hf : FewP l) :
    Calls Try.prog 21 #[.slice A m c, .int .u16 id, .int .i64 held] w fun e W' => e = .returned (.int .i64 (leastU id held l)) ∧ Below w.heap.size w W' :=
  (callsIn_wide (n := 5)).1 (uk_Least_in Fence.wide 5 trivial trivial trivial rfl (by omega) A m c l id held w hl hm hf)

set_option maxRecDepth 100000 in
set_option maxHeartbeats 6400000 in
theorem uk_Greatest_in (F : Fence) (n : Nat) (h21 : F.fn 23) (h37 : F.fn 37) (h44 : F.fn 44) (hro : F.round = none) (hn : 3 ≤ n) (A : Option Addr) (m c : Nat) (l : List It) (id held : Int) (w : World)
    (hl : IL w A m c l) (hm : (m : Int) ≤ 1000000) (hf : FewP l) :
    CallsIn F n Try.prog 23 #[.slice A m c, .int .u16 id, .int .i64 held] w fun e W' => e = .returned (.int .i64 (mostU id held l)) ∧ Below w.heap.size w W' := by
  have h1 : 1 ≤ n := by omega
  refine callsIn_of_wp_marks Try.func23 rfl h21 ?_ hro
  simp only [Try.ntmps23, List.size_toArray, List.length_cons, List.length_nil, Nat.reduceAdd, Nat.reduceSub, Array.replicate_succ, Array.replicate_zero, List.push_toArray, List.append_toArray, List.nil_append, List.cons_append]
  gi_wp2_with (gi_at_call 37; refine (uk_values_in F (n - 1) h37 hro A m c id _).mono ?_; rintro e w' ⟨rfl, rfl⟩)
  have bs : BlkIs (((w.alloc (.cells #[.int .i64 held] 3)).alloc (.cells #[.slice A m c] 27)).alloc (.cells #[.int .u16 id] 43)) w.heap.size 3 #[.int .i64 held] := ((BlkIs.new w _ _).alloc _).alloc _
  have bq : BlkIs (((w.alloc (.cells #[.int .i64 held] 3)).alloc (.cells #[.slice A m c] 27)).alloc (.cells #[.int .u16 id] 43)) (w.heap.size + 1) 27 #[.slice A m c] := (new2 w _ _ _).alloc _
  have bi : BlkIs (((w.alloc (.cells #[.int .i64 held] 3)).alloc (.cells #[.slice A m c] 27)).alloc (.cells #[.int .u16 id] 43)) (w.heap.size + 1 + 1) 43 #[.int .u16 id] := new3 w _ _ _ _
  have hB0 := bel3 w (.cells #[.int .i64 held] 3) (.cells #[.slice A m c] 27) (.cells #[.int .u16 id] 43)
  refine wpIn_rangeFunc_ownF hro h1 (gf := 44) (lb := #[.pointer (some ⟨w.heap.size + 1, 0, none⟩), .pointer (some ⟨w.heap.size + 1 + 1, 0, none⟩)]) rfl h44 (enters_of Try.func44 (by kernel_rfl) rfl)
    (vals_stops F (n - 1) h44 hro (by omega) (w.heap.size + 1) (w.heap.size + 1 + 1) (w.heap.size + 1 + 1 + 1) w.heap.size A m c l id w _ hl hm hf hB0 (Nat.le_refl _) (by omega) (by simp) (bq.cell 0) (bi.cell 0) (by omega) (by omega) (by omega)) kx_t (kx_b (by simp)) (Below.refl _ _) (fun _ => rfl)
    (fun pre W => (W.cell? ⟨w.heap.size, 0, none⟩ = some (.int .i64 (pre.foldl max held)) ∧ W.frozen? ⟨w.heap.size, 0, none⟩ = false) ∧ Below w.heap.size w W)
    (fun _ _ _ => False)
    (OwnFrom.and (Own.from (fun s A B row hs hg hr => ⟨cell_kept hs.1 hg hr, (frozen_kept hs.1 hg hr).trans hs.2⟩) _) (ownFrom_below (Nat.le_refl _) (by simp; omega)))
    (fun _ _ _ _ _ hs _ _ => hs)
    ⟨⟨bs.cell 0, bs.frozen 0⟩, hB0⟩
    (fun x => { tmps := #[.slice A m c, .int .u16 id, .int .i64 held, undef, undef, .pointer (some ⟨w.heap.size, 0, none⟩), .int .i64 0, .int .i64 x, .slice A m c, .int .u16 id, .func (.func 44) #[] #[.pointer (some ⟨w.heap.size + 1, 0, none⟩), .pointer (some ⟨w.heap.size + 1 + 1, 0, none⟩)], .int .i64 x, undef, undef, undef, undef], defers := [] }) ?assign ?body ?done ?stop
  case assign =>
    intro l x W K hK
    gi_wp2
    exact hK
  case body =>
    rintro l pre x W ⟨⟨hc, hf⟩, hB⟩ _
    have hx : (pre ++ [x]).foldl max held = max (pre.foldl max held) x := by simp [List.foldl_append]
    gi_wp2
    exact ⟨KeepsOthers.setCell _ _ _, Kx.set _ _, ⟨by rw [hx]; exact World.cell?_setCell_same' _ _ _ (by rw [hc]; rfl), by rw [World.frozen?_setCell]; exact hf⟩, hB.setCell (p := ⟨w.heap.size, 0, none⟩) (Nat.le_refl _) _⟩
  case done =>
    rintro D ys W hD rfl ⟨⟨hc, _⟩, hB⟩ hK
    gi_wp2
    refine ⟨by simp, .inl ⟨_, _, rfl, run_takeDeferred hK, ?_⟩⟩
    exact ⟨_, results_tmp rfl _ _ _, rfl, hB.trans (belowK_b (w := w) (Nat.le_refl _) W D _ _ (by simp at hD; omega) hK rfl rfl)⟩
  case stop =>
    rintro D c pre W _ _ h _
    exact h.elim
theorem uk_Greatest (A : Option Addr) (m c : Nat) (l : List It) (id held : Int) (w : World) (hl : IL w A m c l) (hm : (m : Int) ≤ 1000000) (hf : FewP l) :
    Calls Try.prog 23 #[.slice A m c, .int .u16 id, .int .i64 held] w fun e W' => e = .returned (.int .i64 (mostU id held l)) ∧ Below w.heap.size w W' :=
  (callsIn_wide (n := 5)).1 (uk_Greatest_in Fence.wide 5 trivial trivial trivial rfl (by omega) A m c l id held w hl hm hf)
end Go.Proofs.Ytjfdlgmdlfbeoaa
