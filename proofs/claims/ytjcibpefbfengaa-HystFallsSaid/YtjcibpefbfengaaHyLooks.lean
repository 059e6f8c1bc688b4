/-
  Layer 22: looks, the program's iterator: the controllers behind each look, one by one.
-/
import Derived.Test.YtjcibpefbfengaaHySee
import Derived.Test.YtjcibpefbfengaaRgTells
import Derived.Test.YtjcibpefbfengaaIntRow
import Derived.RangeFuncFrom
import Derived.Shelf.Abstract
import Derived.Shelf.RegionOpen
import Derived.WalkKit
import Derived.OwnWalkIn
import Derived.TacticsInMore
import Derived.LoopNIn
import Derived.LoopIn
namespace Go.Proofs.Ytjcibpefbfengaa
set_option linter.unusedSimpArgs false
set_option linter.unusedVariables false
open Go.RowKit Go.Shelf
attribute [local go_sem] Oper.semAt_some

set_option maxHeartbeats 1000000 in
/-- looks: the controller and the list are boxed; the function value captures the boxes. -/
theorem hy_looks (x : Hy) (A : Option Addr) (m c : Nat) (w : World) : Calls Try.prog 16 #[.agg x.cs, .slice A m c] w fun e w' => e = .returned (.func (.func 18) #[] #[.pointer (some ⟨w.heap.size, 0, none⟩), .pointer (some ⟨w.heap.size + 1, 0, none⟩)]) ∧ w' = (w.alloc (.cells x.cs 24)).alloc (.cells #[.slice A m c] 33) := by
  go_enter Try.func16, Try.ntmps16
  go_wp2
  go_ret
  exact ⟨rfl, rfl⟩

theorem lks_take {x : Hy} {l : List Int} {i : Nat} {k : Int} (h : l[i]? = some k) : lksH x (l.take (i + 1)) = lksH x (l.take i) ++ [(stpH (endH x (l.take i)) k, chgB (endH x (l.take i)) k)] := by
  rw [List.take_add_one, h]
  exact lksH_snoc _ _ _
theorem end_take {x : Hy} {l : List Int} {i : Nat} {k : Int} (h : l[i]? = some k) : endH x (l.take (i + 1)) = stpH (endH x (l.take i)) k := by
  rw [List.take_add_one, h]
  exact endH_snoc _ _ _

set_option maxRecDepth 100000 in
set_option maxHeartbeats 6400000 in
theorem looks_tells (n : Nat) (w0 w : World) (Bs Bl : Nat) (A : Option Addr) (m c : Nat) (l : List Int) (x : Hy) (E : Nat → Prop)
    (hl : NL .i64 w0 A m c l) (hm : (m : Int) ≤ 1000000) (hb : Below w0.heap.size w0 w) (hE : ∀ k, E k → w0.heap.size ≤ k ∧ k < w.heap.size)
    (hs : BlkIs w Bs 24 x.cs) (hBl : BlkIs w Bl 33 #[.slice A m c]) :
    ∀ (J : List (Hy × Bool) → World → Prop) (W : World), Below w.heap.size w W → W.heap.size = w.heap.size + 2 → Loose (w.heap.size + 2) J →
      (∀ pre y W1, J pre W1 → pre.length < m → YieldAt Fence.wide (n - 1 - 1) Try.prog (w.heap.size + 1) #[.agg y.1.cs, .bool y.2] W1 fun e W' => e = .returned (.bool true) ∧ J (pre ++ [y]) W' ∧ KB (fun k => E k ∨ k = w.heap.size + 1) W1 W') →
      J [] W → CallsIn Fence.wide (n - 1) Try.prog 18 (#[.func (.yield (w.heap.size + 1)) #[] #[]] ++ #[.pointer (some ⟨Bs, 0, none⟩), .pointer (some ⟨Bl, 0, none⟩)]) W fun e W' => (∃ v, e = .returned v) ∧ ∃ ys, ys = lksH x l ∧ J ys W' := by
  intro J W hW hsz hJ hY h0
  have HIL := hide hl
  have HY := hide hY
  have HJ := hide hJ
  have HJ0 := hide h0
  have hsW := hs.keep hW
  have hlW := hBl.keep hW
  have HS := hide hsW
  have cl := ((hlW.alloc (.cells x.cs 24)).cell 0).trans (show _ = some (Value.slice A m c) from rfl)
  have HB0 := hide (hb.trans (hW.mono hb.size))
  have HE := hide hE
  have HSEE := hide (fun y k w => hy_See y k w)
  have HW0 := hide (show w0.heap.size ≤ w.heap.size from hb.size)
  have HSZ := hide hsz
  clear hl hY hJ h0 hs hBl hb hW hE hsW hlW hsz
  show CallsIn Fence.wide (n - 1) Try.prog 18 #[.func (.yield (w.heap.size + 1)) #[] #[], .pointer (some ⟨Bs, 0, none⟩), .pointer (some ⟨Bl, 0, none⟩)] W _
  refine callsIn_of_wp Try.func18 rfl trivial ?_ rfl
  simp only [Try.ntmps18, List.size_toArray, List.length_cons, List.length_nil, Nat.reduceAdd, Nat.reduceSub, Array.replicate_succ, Array.replicate_zero, List.push_toArray, List.append_toArray, List.nil_append, List.cons_append]
  gi_wp2_with (first
    | (refine wpListIn_load_blk rfl 24 (.tmp 1) rfl Bs rfl 24 x.cs _ HS.out Try.underlying24 rfl hy_size ?_)
    | (refine wpListIn_store_new rfl 24 (.tmp 4) (.tmp 9) rfl x.cs _ 24 rfl rfl hy_size rfl (Hy.cs_one x) ?_))
  gi_loopw [12] (fun k wr => ∃ i : Nat, i ≤ m ∧ k = .int .i64 (i : Int) ∧ J (lksH x (l.take i)) wr ∧ Below w0.heap.size w0 wr ∧ BlkIs wr W.heap.size 24 (endH x (l.take i)).cs) (fun k _ => m - (intOf k).toNat)
  case atStart => exact ⟨0, by omega, rfl, HJ.out _ _ _ HJ0.out ((KB.refl _ W).alloc _), HB0.out.alloc HB0.out.size _, BlkIs.new W _ _⟩
  case round =>
    obtain ⟨i, hi, rfl, hj, hb, hn⟩ := hrel
    have HJI := hide hj
    have HB := hide hb
    have HN := hide hn
    clear hj hb hn cl
    by_cases hlt : i < m
    · have hlt' : (i : Int) < (m : Int) := by omega
      obtain ⟨k, b, off, hk, rfl, hb0, hc, hwf⟩ := HIL.out.round hlt
      have c0 := (HB.out.cell (p := ⟨b, off + i, none⟩) hb0).trans hc
      have HT := hide (lks_take (x := x) hk)
      have HET := hide (end_take (x := x) hk)
      clear hk hc hb0 hwf
      generalize endH x (l.take i) = y at *
      gi_wp2_with (refine wpListIn_load_blk rfl 24 (.tmp 4) rfl W.heap.size rfl 24 y.cs _ HN.out Try.underlying24 rfl hy_size ?_)
      refine ⟨trivial, fun h => by simp [Fence.wide] at h, ?_⟩
      refine (callsIn_wide.2 (HSEE.out y k wr)).mono ?_
      rintro e w5 ⟨rfl, hb5⟩
      obtain ⟨z, hz⟩ : ∃ z, z = stpH y k := ⟨_, rfl⟩
      obtain ⟨ch, hch⟩ : ∃ ch, ch = chgB y k := ⟨_, rfl⟩
      rw [← hz, ← hch] at HT
      rw [← hz] at HET
      rw [← hz, ← hch]
      clear hz hch
      have HJ6 := hide (HJ.out _ _ _ HJI.out ((KB.of_below _ hb5).alloc (.cells z.cs 24)))
      have HN6 := hide ((HN.out.keep hb5).alloc (.cells z.cs 24))
      have HZ6 := hide (BlkIs.new w5 24 z.cs)
      have HB6 := hide ((HB.out.trans (hb5.mono HB.out.size)).alloc (by have := HB.out.size; have := hb5.size; omega) (.cells z.cs 24))
      have hge : W.heap.size < w5.heap.size := (HN.out.keep hb5).lt
      have HNE := hide (show ¬ (E W.heap.size ∨ W.heap.size = w.heap.size + 1) from fun h => by have := HSZ.out; rcases h with h | h; (have := (HE.out _ h).2; omega); omega)
      have HNZ := hide (show ¬ (E w5.heap.size ∨ w5.heap.size = w.heap.size + 1) from fun h => by have := HSZ.out; rcases h with h | h; (have := (HE.out _ h).2; omega); omega)
      have HGE := hide hge
      obtain ⟨fn, tmps, assign, body, hy, hR⟩ := HY.out (lksH x (l.take i)) (z, ch) _ HJ6.out (by rw [lksH_len, List.length_take]; omega)
      dsimp only at hy hR
      clear hb5 hge HJI HN HB c0
      gi_wp2_with (first
        | (refine wpListIn_store_new rfl 24 (.tmp 7) (.tmp 20) rfl z.cs _ 24 rfl rfl hy_size rfl (Hy.cs_one z) ?_)
        | (refine wpListIn_load_blk rfl 24 (.tmp 7) rfl w5.heap.size rfl 24 z.cs _ HZ6.out Try.underlying24 rfl hy_size ?_))
      refine ⟨fun h => by simp [Fence.wide] at h, ?_⟩
      refine hR.mono ?_
      rintro e W3 ⟨rfl, hJ3, hk3⟩
      have HJ7 := hide hJ3
      have HN7 := hide (hk3.blk HN6.out HNE.out)
      have HZ7 := hide (hk3.blk HZ6.out HNZ.out)
      have HB7 := hide (HB6.out.trans (hk3.below HB6.out.size (fun k hk => by have := HW0.out; rcases hk with hk | hk; (exact (HE.out _ hk).1); omega)))
      clear hJ3 hk3 hR hy HJ6 HN6 HZ6 HB6
      gi_wp2_with (first
        | (refine wpListIn_load_blk rfl 24 (.tmp 7) rfl w5.heap.size rfl 24 z.cs _ HZ7.out Try.underlying24 rfl hy_size ?_)
        | (refine wpListIn_store_blk rfl 24 (.tmp 4) (.tmp 27) rfl W.heap.size z.cs y.cs 24 rfl rfl HN7.out hy_size rfl (Hy.cs_one z) ?_))
      have HJ8 := hide (HJ.out _ _ _ HJ7.out ((KB.refl (fun k => w.heap.size + 2 ≤ k) W3).setRow (g := W.heap.size) (fun _ => by have := HSZ.out; omega) z.cs))
      have HN8 := hide (HN7.out.row z.cs)
      have HB8 := hide (below_setRow HB7.out (g := W.heap.size) (by have := HSZ.out; have := HW0.out; omega) z.cs)
      go_roundw
      case rel => exact ⟨i + 1, by omega, by go_num, by rw [HT.out]; exact HJ8.out, HB8.out, by rw [HET.out]; exact HN8.out⟩
      case measure => simp [intOf]; omega
    · have hge : ¬ (i : Int) < (m : Int) := by omega
      obtain rfl : i = m := by omega
      have HEQ := hide (show l.take i = l by rw [← HIL.out.len, List.take_length])
      gi_wp2
      go_end0
      have h := HJI.out
      rw [HEQ.out] at h
      exact ⟨⟨_, rfl⟩, h⟩
end Go.Proofs.Ytjcibpefbfengaa
