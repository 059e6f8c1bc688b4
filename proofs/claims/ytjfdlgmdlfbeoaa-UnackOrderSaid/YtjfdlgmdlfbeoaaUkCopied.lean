/-
  Layer 13: a queue again, which has no memory in common with it.
-/
import Derived.Test.YtjfdlgmdlfbeoaaUkOwn
import Derived.Test.YtjfdlgmdlfbeoaaUkSame
import Derived.Deep.CutRange
import Derived.Deep.DeepCutAuto
namespace Go.Proofs.Ytjfdlgmdlfbeoaa
set_option linter.unusedSimpArgs false
set_option linter.unusedVariables false
open Go.RowKit

theorem below_kbs {B : Nat} {a w w' : World} {S : Nat → Prop} (h : Below B a w) (hk : KB S w w') (hs : ∀ k, S k → B ≤ k) (hB : B ≤ a.heap.size) : Below B a w' :=
  ⟨hk.os.trans h.os, hk.tape.trans h.tape, hk.output.trans h.output, Nat.le_trans h.size hk.size, fun k hl => (hk.block k (by have := h.size; omega) (fun e => by have := hs k e; omega)).trans (h.block k hl)⟩

set_option maxRecDepth 100000 in
set_option maxHeartbeats 3200000 in
theorem uk_copied (A : Option Addr) (n c : Nat) (l : List It) (w : World) (hl : IL w A n c l) (hn : (n : Int) ≤ 1000000) (hf : FewP l) :
    Calls Try.prog 28 #[.slice A n c] w (GivesOQ 61 l w) := by
  obtain ⟨i0, hi0, hz0, hz1, hz2⟩ := info_parts uk_info
  have HIL := hide hl
  have HF := hide hf
  clear hl hf
  go_enter Try.func28, Try.ntmps28
  go_wp2_with fail
  go_loopw [3, 8] (fun s3 s8 wr => ∃ i : Nat, i ≤ n ∧ s8 = .int .i64 (i : Int) ∧ OwnQ wr w.heap.size 61 s3 i (l.take i) ∧ Below w.heap.size w wr) (fun _ s8 _ => n - (intOf s8).toNat)
  case atStart => exact ⟨0, by omega, rfl, OwnQ.nil_ _ _ _, Below.refl _ _⟩
  case round =>
    obtain ⟨i, hi, rfl, ho, hb⟩ := hrel
    have HO := hide ho
    have HB := hide hb
    clear ho hb
    by_cases hlt : i < n
    · have hlt' : (i : Int) < (n : Int) := by omega
      obtain ⟨x, A', c', b, off, hx, rfl, hbl, c0, c1, hp⟩ := (HIL.out.keep HB.out).round hlt
      have HTK := hide (show l.take i ++ [x] = l.take (i + 1) by rw [List.take_add_one, hx]; rfl)
      have HCL := hide (fun (w' : World) (h : PL w' A' x.ps.length c' x.ps) => uk_Clone A' x.ps.length c' x.ps w' h (HF.out x (List.mem_of_getElem? hx)))
      obtain ⟨g, hg⟩ : ∃ g, g = wr.heap.size := ⟨_, rfl⟩
      have HBK := hide (show BlkIs (wr.alloc (.cells #[.slice A' x.ps.length c', .int .i64 x.t] 61)) g 61 #[.slice A' x.ps.length c', .int .i64 x.t] by rw [hg]; exact BlkIs.new wr _ _)
      have HNE := hide (show ¬ u3.ownBlock = some g from fun e => by have := (HO.out.lt e).2; omega)
      have HO5 := hide (HO.out.alloc (.cells #[.slice A' x.ps.length c', .int .i64 x.t] 61))
      have HP5 := hide (hp.alloc (.cells #[.slice A' x.ps.length c', .int .i64 x.t] 61))
      have HB5 := hide (HB.out.alloc HB.out.size (.cells #[.slice A' x.ps.length c', .int .i64 x.t] 61))
      clear hx hp HO HB
      go_upto_region 5 with (fail)
      rw [← hg]
      clear hg
      generalize wr.alloc (.cells #[.slice A' x.ps.length c', .int .i64 x.t] 61) = w5 at *
      refine wp_region_noPanic ?_
      refine wp_region_held_drew (S := fun w' => KB (fun k => u3.ownBlock = some k) w5 w') (by kernel_rfl) (KB.refl _ _).drew (fun hS => ?_)
      have ho := HO5.out.drew
      have hp := HP5.out.drew
      have hz : w.heap.size ≤ w5.drew.heap.size := HB5.out.size
      generalize w5.drew = wd at hS ho hp hz ⊢
      refine wpAnyH_take (i := 0) (v := ?_) (by simp only [List.getElem?_toArray, List.getElem?_cons_succ, List.getElem?_cons_zero] <;> exact rfl) (by kernel_rfl) (by kernel_rfl) (by kernel_rfl) (fun _ _ _ h => h) (Or.inl ⟨by rfl, ?_⟩) hS ?_
      rotate_left
      focus (intro w' hw'; go_simp; all_goals with_reducible rfl)
      try simp only [Act.put, List.setIfInBounds_toArray, List.set_cons_zero, List.set_cons_succ]
      refine wpAnyH_take (i := 1) (v := ?_) (by simp only [List.getElem?_toArray, List.getElem?_cons_succ, List.getElem?_cons_zero] <;> exact rfl) (by kernel_rfl) (by kernel_rfl) (by kernel_rfl) (fun _ _ _ h => h) (Or.inl ⟨by rfl, ?_⟩) hS ?_
      rotate_left
      focus (intro w' hw'; go_simp; all_goals with_reducible rfl)
      try simp only [Act.put, List.setIfInBounds_toArray, List.set_cons_zero, List.set_cons_succ]
      refine wpAnyH_take (i := 2) (v := ?_) (by simp only [List.getElem?_toArray, List.getElem?_cons_succ, List.getElem?_cons_zero] <;> exact rfl) (by kernel_rfl) (by kernel_rfl) (by kernel_rfl) (fun _ _ _ h => h) (Or.inl ⟨by rfl, ?_⟩) hS ?_
      rotate_left
      focus (intro w' hw'; have k0 := (hw'.blk HBK.out HNE.out).cell 0; simp only [List.getElem?_toArray, List.getElem?_cons_zero, List.getElem?_cons_succ] at k0; go_simp; all_goals with_reducible rfl)
      try simp only [Act.put, List.setIfInBounds_toArray, List.set_cons_zero, List.set_cons_succ]
      refine wpAnyH_take (i := 4) (v := ?_) (by simp only [List.getElem?_toArray, List.getElem?_cons_succ, List.getElem?_cons_zero] <;> exact rfl) (by kernel_rfl) (by kernel_rfl) (by kernel_rfl) (fun _ _ _ h => h) (Or.inl ⟨by rfl, ?_⟩) hS ?_
      rotate_left
      focus (intro w' hw'; go_simp; all_goals with_reducible rfl)
      try simp only [Act.put, List.setIfInBounds_toArray, List.set_cons_zero, List.set_cons_succ]
      refine wpAnyH_take (i := 5) (v := ?_) (by simp only [List.getElem?_toArray, List.getElem?_cons_succ, List.getElem?_cons_zero] <;> exact rfl) (by kernel_rfl) (by kernel_rfl) (by kernel_rfl) (fun _ _ _ h => h) (Or.inl ⟨by rfl, ?_⟩) hS ?_
      rotate_left
      focus (intro w' hw'; have k1 := (hw'.blk HBK.out HNE.out).cell 1; simp only [List.getElem?_toArray, List.getElem?_cons_zero, List.getElem?_cons_succ] at k1; go_simp; all_goals with_reducible rfl)
      try simp only [Act.put, List.setIfInBounds_toArray, List.set_cons_zero, List.set_cons_succ]
      refine wpAnyH_ready (rs := [3]) (by kernel_rfl) (by simp) ?_
      refine AllReadyH.cons (o := _) (by simp only [List.getElem?_toArray, List.getElem?_cons_succ, List.getElem?_cons_zero] <;> exact rfl) (fun K hK => ?_) ?_
      focus (
        go_simp
        go_at_call 29
        refine (HCL.out _ hp).mono ?_
        rintro e wc ⟨A1, c1, rfl, hp1, hf1, hb⟩
        have hS := hS.trans' (KB.of_below (fun k => u3.ownBlock = some k) hb) (fun _ _ h => h)
        have hap : ApartX u3.ownBlock [⟨A1, c1, x⟩] := fun y hy b' off' e hn hh => by
            rw [List.mem_singleton] at hy; subst hy
            have h1 := hf1 b' off' e
            have h2 := (ho.lt hh).2
            omega
        have ho := ho.keep hb
        have hz := Nat.le_trans hz hb.size
        clear hb hf1 hp
        go_wp2_with fail
        refine hK.out _ _ hS (fun _ => ?_)
        clear hK K
        try simp only [Act.put, List.setIfInBounds_toArray, List.set_cons_zero, List.set_cons_succ]
        refine wpAnyH_take (i := 6) (v := ?_) (by simp only [List.getElem?_toArray, List.getElem?_cons_succ, List.getElem?_cons_zero] <;> exact rfl) (by kernel_rfl) (by kernel_rfl) (by kernel_rfl) (fun _ _ _ h => h) (Or.inl ⟨by rfl, ?_⟩) hS ?_
        rotate_left
        focus (intro w' hw'; go_simp; all_goals with_reducible rfl)
        try simp only [Act.put, List.setIfInBounds_toArray, List.set_cons_zero, List.set_cons_succ]
        refine wpAnyH_ready (rs := [7]) (by kernel_rfl) (by simp) ?_
        refine AllReadyH.cons (o := _) (by simp only [List.getElem?_toArray, List.getElem?_cons_succ, List.getElem?_cons_zero] <;> exact rfl) (fun K hK => ?_) ?_
        focus (
          go_simp
          have hS := hS.alloc (.cells #[.slice A1 x.ps.length c1, .int .i64 x.t] 61)
          refine hK.out _ _ hS (fun _ => ?_)
          have ho := ho.alloc (.cells #[.slice A1 x.ps.length c1, .int .i64 x.t] 61)
          have hy : AllX (wc.alloc (.cells #[.slice A1 x.ps.length c1, .int .i64 x.t] 61)) [⟨A1, c1, x⟩] := fun y hy => by
              rw [List.mem_singleton] at hy; subst hy; exact hp1.alloc _
          have hk := BlkIs.new wc 61 (Ix.cs ⟨A1, c1, x⟩)
          simp only [Ix.cs] at hk
          obtain ⟨q, hq⟩ : ∃ q, q = wc.heap.size := ⟨_, rfl⟩
          have hz : w.heap.size ≤ (wc.alloc (.cells #[.slice A1 x.ps.length c1, .int .i64 x.t] 61)).heap.size := by rw [World.size_alloc]; omega
          rw [← hq] at hk ⊢
          generalize wc.alloc (.cells #[.slice A1 x.ps.length c1, .int .i64 x.t] 61) = wb at hS ho hy hk hz ⊢
          clear hq hp1
          clear hK K
          try simp only [Act.put, List.setIfInBounds_toArray, List.set_cons_zero, List.set_cons_succ]
          refine wpAnyH_ready (rs := [8]) (by kernel_rfl) (by simp) ?_
          refine AllReadyH.cons (o := _) (by simp only [List.getElem?_toArray, List.getElem?_cons_succ, List.getElem?_cons_zero] <;> exact rfl) (fun K hK => ?_) ?_
          focus (
            refine step_append_q wb (by rfl) (.tmp 12) (.tmp 19) _ (by rfl) w.heap.size 61 i0 _ 32 Try.underlying27 hi0 hz0 hz1 hz2 rfl u3 i (l.take i) (by rfl) ho (some ⟨q, 0, none⟩) 1 1 [⟨A1, c1, x⟩] (by rfl) (xl_blk hk) hy hap (by unfold maxLen; omega) (by omega) hz ?_
            intro v9 w9 ho9 hg9
            have HB9 := hide (ho.below (below_kbs HB5.out hS (fun k e => (HO5.out.lt e).1) (Nat.le_refl _)) (Nat.le_refl _) (Nat.le_refl _) hg9)
            have hS := hS.trans' (kb_grown hg9) (fun _ _ h => h)
            clear hg9
            refine hK.out _ _ hS (fun _ => ?_)
            clear hK K
            try simp only [Act.put, List.setIfInBounds_toArray, List.set_cons_zero, List.set_cons_succ]
            refine wpAnyH_take (i := 9) (v := ?_) (by simp only [List.getElem?_toArray, List.getElem?_cons_succ, List.getElem?_cons_zero] <;> exact rfl) (by kernel_rfl) (by kernel_rfl) (by kernel_rfl) (fun _ _ _ h => h) (Or.inl ⟨by rfl, ?_⟩) hS ?_
            rotate_left
            focus (intro w' hw'; go_simp; all_goals with_reducible rfl)
            try simp only [Act.put, List.setIfInBounds_toArray, List.set_cons_zero, List.set_cons_succ]
            refine wpAnyH_done (by kernel_rfl) ?_ _
            refine NoPanic.normal ?_
            have HO9 := hide ho9
            clear hS ho9 ho hy hk hap hz
            go_wp2
            go_roundw
            case rel => exact ⟨i + 1, by omega, by go_num, by have h := HO9.out; simp only [List.map_cons, List.map_nil] at h; rw [HTK.out] at h; exact h, HB9.out⟩
            case measure => simp [intOf]; omega)
          exact AllReadyH.nil)
        exact AllReadyH.nil)
      exact AllReadyH.nil
    · have hge : ¬ (i : Int) < (n : Int) := by omega
      obtain rfl : i = n := by omega
      have HE := hide (show l.take i = l by rw [← HIL.out.len, List.take_length])
      go_wp2
      go_ret
      exact ⟨_, rfl, by have h := HO.out; rw [HE.out] at h; rw [HIL.out.len]; exact h, HB.out⟩
end Go.Proofs.Ytjfdlgmdlfbeoaa
