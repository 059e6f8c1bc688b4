/-
  Layer 12: Pairs: the program's.
-/
import Derived.Test.YtlcnenkfineddaaSsMay
import Derived.Test.YtlcnenkfineddaaPrApp
import Derived.BigQuiet
import Derived.Deep.QuietTactic
import Derived.BigRegion
import Derived.Deep.CutRange
import Derived.Deep.DeepCutAuto
import Derived.BigGuardPart
namespace Go.Proofs.Ytlcnenkfineddaa
set_option linter.unusedSimpArgs false
set_option linter.unusedVariables false
open Go.RowKit

theorem mix_put2 (v u : Vs) (k : Nat) (h1 : 1 ≤ k) (h6 : k ≤ 6) : (mixV v u k).arr.setIfInBounds k (.int .i64 (u.at k)) = (mixV v u (k + 1)).arr := by
  rw [set_arr _ _ _ h1 h6, mix_set v u k h1 h6]
/-- Two values by their numbers, in two new variables. -/
def TwoS (w0 wx : World) (v u : Vs) (s5 s6 : Value) : Prop :=
  ∃ x y, s5 = .pointer (some ⟨x, 0, none⟩) ∧ s6 = .pointer (some ⟨y, 0, none⟩) ∧ BlkIs wx x 50 v.arr ∧ BlkIs wx y 50 u.arr ∧ x ≠ y ∧ w0.heap.size ≤ x ∧ w0.heap.size ≤ y ∧ Below w0.heap.size w0 wx

set_option maxRecDepth 100000 in
set_option maxHeartbeats 6400000 in
theorem ss_Pairs (v u : Vs) (w : World) : Calls Try.prog 15 #[.agg v.cs, .agg u.cs] w (GivesPrs (pairsS v u) w) := by
  have HN1 := hide (fun w => ss_byNumber v w)
  have HN2 := hide (fun w => ss_byNumber u w)
  have HM1 := hide (fun w => ss_mayBe v w)
  have HM2 := hide (fun w => ss_mayBe u w)
  obtain ⟨g, hg⟩ : ∃ g, g = w.heap.size := ⟨_, rfl⟩
  have HG := hide hg
  have HV := hide (show BlkIs ((w.alloc (.cells v.cs 26)).alloc (.cells u.cs 26)) g 26 v.cs by rw [hg]; exact (BlkIs.new w _ _).alloc _)
  have HU := hide (show BlkIs ((w.alloc (.cells v.cs 26)).alloc (.cells u.cs 26)) (g + 1) 26 u.cs by rw [hg]; exact new2 w _ _ _)
  have HB0 := hide (show Below g w ((w.alloc (.cells v.cs 26)).alloc (.cells u.cs 26)) by rw [hg]; exact bel2 w _ _)
  have HZ0 := hide (show ((w.alloc (.cells v.cs 26)).alloc (.cells u.cs 26)).heap.size = g + 1 + 1 by rw [hg]; simp)
  clear hg
  go_enter Try.func15, Try.ntmps15
  go_upto_region 1 with (fail)
  rw [← HG.out]
  generalize (w.alloc (.cells v.cs 26)).alloc (.cells u.cs 26) = w0 at *
  go_cut [5, 6] (fun s5 s6 wx => TwoS w0 wx v u s5 s6)
  case first =>
    refine wp_region_noPanic ?_
    refine wp_region_held_drew (S := fun w' => Below w0.heap.size w0 w') (by kernel_rfl) (Below.refl _ _).drew (fun hS => ?_)
    generalize w0.drew = wd at hS ⊢
    refine wpAnyH_take (i := 0) (by simp only [List.getElem?_toArray, List.getElem?_cons_zero] <;> exact rfl) (by kernel_rfl) (by kernel_rfl) (by kernel_rfl) (fun _ _ _ h => h) (rgs_yields_blk (by rfl) 26 (.tmp 2) (by rfl) g (by rfl) 26 v.cs _ (fun w' hw' => HV.out.keep hw') Try.underlying26 rfl ss_size) hS ?_
    try simp only [Act.put, List.setIfInBounds_toArray, List.set_cons_zero, List.set_cons_succ]
    refine wpAnyH_take (i := 2) (by simp only [List.getElem?_toArray, List.getElem?_cons_succ, List.getElem?_cons_zero] <;> exact rfl) (by kernel_rfl) (by kernel_rfl) (by kernel_rfl) (fun _ _ _ h => h) (rgs_yields_blk (by rfl) 26 (.tmp 3) (by rfl) (g + 1) (by rfl) 26 u.cs _ (fun w' hw' => HU.out.keep hw') Try.underlying26 rfl ss_size) hS ?_
    try simp only [Act.put, List.setIfInBounds_toArray, List.set_cons_zero, List.set_cons_succ]
    refine wpAnyH_ready (rs := [1, 4, 5]) (by kernel_rfl) (by simp) ?_
    refine AllReadyH.cons (o := _) (by simp only [List.getElem?_toArray, List.getElem?_cons_succ, List.getElem?_cons_zero] <;> exact rfl) (fun K hK => ?_) ?_
    focus (
      go_simp
      go_at_call 19
      refine (HN1.out _).mono ?_
      rintro e wr1 ⟨rfl, hb⟩
      have hS := hS.trans (hb.mono hS.size)
      clear hb
      go_wp2_with fail
      refine hK.out _ _ hS (fun _ => ?_)
      clear hK K
      try simp only [Act.put, List.setIfInBounds_toArray, List.set_cons_zero, List.set_cons_succ]
      refine wpAnyH_ready (rs := [3, 4, 5]) (by kernel_rfl) (by simp) ?_
      refine AllReadyH.cons (o := _) (by simp only [List.getElem?_toArray, List.getElem?_cons_succ, List.getElem?_cons_zero] <;> exact rfl) (fun K hK => ?_) ?_
      focus (
        go_simp
        go_at_call 19
        refine (HN2.out _).mono ?_
        rintro e wr2 ⟨rfl, hb⟩
        have hS := hS.trans (hb.mono hS.size)
        clear hb
        go_wp2_with fail
        refine hK.out _ _ hS (fun _ => ?_)
        clear hK K
        try simp only [Act.put, List.setIfInBounds_toArray, List.set_cons_zero, List.set_cons_succ]
        refine wpAnyH_ready (rs := [4, 5]) (by kernel_rfl) (by simp) ?_
        refine AllReadyH.cons (o := _) (by simp only [List.getElem?_toArray, List.getElem?_cons_succ, List.getElem?_cons_zero] <;> exact rfl) (fun K hK => ?_) ?_
        focus (
          go_simp
          have hz3 := hS.size
          have hS := hS.alloc hS.size (.cells #[.int .i64 0, .int .i64 0, .int .i64 0, .int .i64 0, .int .i64 0, .int .i64 0, .int .i64 0] 50)
          refine hK.out _ _ hS (fun _ => ?_)
          have Ex3 := BlkIs.new wr2 50 #[.int .i64 0, .int .i64 0, .int .i64 0, .int .i64 0, .int .i64 0, .int .i64 0, .int .i64 0]
          obtain ⟨x, hx⟩ : ∃ g, g = wr2.heap.size := ⟨_, rfl⟩
          have Mx : w0.heap.size ≤ x := by rw [hx]; exact hz3
          rw [← hx] at Ex3 ⊢
          generalize wr2.alloc (.cells #[.int .i64 0, .int .i64 0, .int .i64 0, .int .i64 0, .int .i64 0, .int .i64 0, .int .i64 0] 50) = wa3 at hS Ex3 ⊢
          clear hx hz3
          clear hK K
          try simp only [Act.put, List.setIfInBounds_toArray, List.set_cons_zero, List.set_cons_succ]
          refine wpAnyH_ready (rs := [5]) (by kernel_rfl) (by simp) ?_
          refine AllReadyH.cons (o := _) (by simp only [List.getElem?_toArray, List.getElem?_cons_succ, List.getElem?_cons_zero] <;> exact rfl) (fun K hK => ?_) ?_
          focus (
            go_simp
            have hz4 := hS.size
            have hS := hS.alloc hS.size (.cells #[.int .i64 0, .int .i64 0, .int .i64 0, .int .i64 0, .int .i64 0, .int .i64 0, .int .i64 0] 50)
            refine hK.out _ _ hS (fun _ => ?_)
            have Ex4 := Ex3.alloc (.cells #[.int .i64 0, .int .i64 0, .int .i64 0, .int .i64 0, .int .i64 0, .int .i64 0, .int .i64 0] 50)
            have Ey4 := BlkIs.new wa3 50 #[.int .i64 0, .int .i64 0, .int .i64 0, .int .i64 0, .int .i64 0, .int .i64 0, .int .i64 0]
            obtain ⟨y, hy⟩ : ∃ g, g = wa3.heap.size := ⟨_, rfl⟩
            have My : w0.heap.size ≤ y := by rw [hy]; exact hz4
            rw [← hy] at Ey4 ⊢
            have Nxy : x ≠ y := by have := Ex3.lt; omega
            have Nyx : y ≠ x := by have := Ex3.lt; omega
            generalize wa3.alloc (.cells #[.int .i64 0, .int .i64 0, .int .i64 0, .int .i64 0, .int .i64 0, .int .i64 0, .int .i64 0] 50) = wa4 at hS Ex4 Ey4 ⊢
            clear hy hz4
            clear hK K
            try simp only [Act.put, List.setIfInBounds_toArray, List.set_cons_zero, List.set_cons_succ]
            refine wpAnyH_ready (rs := [6]) (by kernel_rfl) (by simp) ?_
            refine AllReadyH.cons (o := _) (by simp only [List.getElem?_toArray, List.getElem?_cons_succ, List.getElem?_cons_zero] <;> exact rfl) (fun K hK => ?_) ?_
            focus (
              refine rgs_store_blk (by rfl) 50 (.tmp 5) (.tmp 10) (by rfl) x v.arr #[.int .i64 0, .int .i64 0, .int .i64 0, .int .i64 0, .int .i64 0, .int .i64 0, .int .i64 0] 50 (by rfl) (by rfl) Ex4 sn_size rfl (Vs.arr_one v) ?_
              have hS := below_setRow hS Mx v.arr
              have Ex5 := Ex4.row v.arr
              have Ey5 := Ey4.row_other Nyx v.arr
              refine hK.out _ _ hS (fun _ => ?_)
              generalize wa4.setRow x v.arr = ws5 at hS Ex5 Ey5 ⊢
              clear hK K
              try simp only [Act.put, List.setIfInBounds_toArray, List.set_cons_zero, List.set_cons_succ]
              refine wpAnyH_ready (rs := [7]) (by kernel_rfl) (by simp) ?_
              refine AllReadyH.cons (o := _) (by simp only [List.getElem?_toArray, List.getElem?_cons_succ, List.getElem?_cons_zero] <;> exact rfl) (fun K hK => ?_) ?_
              focus (
                refine rgs_store_blk (by rfl) 50 (.tmp 6) (.tmp 12) (by rfl) y u.arr #[.int .i64 0, .int .i64 0, .int .i64 0, .int .i64 0, .int .i64 0, .int .i64 0, .int .i64 0] 50 (by rfl) (by rfl) Ey5 sn_size rfl (Vs.arr_one u) ?_
                have hS := below_setRow hS My u.arr
                have Ex6 := Ex5.row_other Nxy u.arr
                have Ey6 := Ey5.row u.arr
                refine hK.out _ _ hS (fun _ => ?_)
                generalize ws5.setRow y u.arr = ws6 at hS Ex6 Ey6 ⊢
                clear hK K
                try simp only [Act.put, List.setIfInBounds_toArray, List.set_cons_zero, List.set_cons_succ]
                refine wpAnyH_done (by kernel_rfl) ?_ _
                refine NoPanic.normal ?_
                go_wp2
                go_meet
                exact ⟨x, y, rfl, rfl, Ex6, Ey6, Nxy, Mx, My, hS⟩)
              exact AllReadyH.nil)
            exact AllReadyH.nil)
          exact AllReadyH.nil)
        refine AllReadyH.cons (o := _) (by simp only [List.getElem?_toArray, List.getElem?_cons_succ, List.getElem?_cons_zero] <;> exact rfl) (fun K hK => ?_) ?_
        focus (
          go_simp
          have hz7 := hS.size
          have hS := hS.alloc hS.size (.cells #[.int .i64 0, .int .i64 0, .int .i64 0, .int .i64 0, .int .i64 0, .int .i64 0, .int .i64 0] 50)
          refine hK.out _ _ hS (fun _ => ?_)
          have Ey7 := BlkIs.new wr2 50 #[.int .i64 0, .int .i64 0, .int .i64 0, .int .i64 0, .int .i64 0, .int .i64 0, .int .i64 0]
          obtain ⟨y, hy⟩ : ∃ g, g = wr2.heap.size := ⟨_, rfl⟩
          have My : w0.heap.size ≤ y := by rw [hy]; exact hz7
          rw [← hy] at Ey7 ⊢
          generalize wr2.alloc (.cells #[.int .i64 0, .int .i64 0, .int .i64 0, .int .i64 0, .int .i64 0, .int .i64 0, .int .i64 0] 50) = wa7 at hS Ey7 ⊢
          clear hy hz7
          clear hK K
          try simp only [Act.put, List.setIfInBounds_toArray, List.set_cons_zero, List.set_cons_succ]
          refine wpAnyH_ready (rs := [4]) (by kernel_rfl) (by simp) ?_
          refine AllReadyH.cons (o := _) (by simp only [List.getElem?_toArray, List.getElem?_cons_succ, List.getElem?_cons_zero] <;> exact rfl) (fun K hK => ?_) ?_
          focus (
            go_simp
            have hz8 := hS.size
            have hS := hS.alloc hS.size (.cells #[.int .i64 0, .int .i64 0, .int .i64 0, .int .i64 0, .int .i64 0, .int .i64 0, .int .i64 0] 50)
            refine hK.out _ _ hS (fun _ => ?_)
            have Ey8 := Ey7.alloc (.cells #[.int .i64 0, .int .i64 0, .int .i64 0, .int .i64 0, .int .i64 0, .int .i64 0, .int .i64 0] 50)
            have Ex8 := BlkIs.new wa7 50 #[.int .i64 0, .int .i64 0, .int .i64 0, .int .i64 0, .int .i64 0, .int .i64 0, .int .i64 0]
            obtain ⟨x, hx⟩ : ∃ g, g = wa7.heap.size := ⟨_, rfl⟩
            have Mx : w0.heap.size ≤ x := by rw [hx]; exact hz8
            rw [← hx] at Ex8 ⊢
            have Nyx : y ≠ x := by have := Ey7.lt; omega
            have Nxy : x ≠ y := by have := Ey7.lt; omega
            generalize wa7.alloc (.cells #[.int .i64 0, .int .i64 0, .int .i64 0, .int .i64 0, .int .i64 0, .int .i64 0, .int .i64 0] 50) = wa8 at hS Ex8 Ey8 ⊢
            clear hx hz8
            clear hK K
            try simp only [Act.put, List.setIfInBounds_toArray, List.set_cons_zero, List.set_cons_succ]
            refine wpAnyH_ready (rs := [6]) (by kernel_rfl) (by simp) ?_
            refine AllReadyH.cons (o := _) (by simp only [List.getElem?_toArray, List.getElem?_cons_succ, List.getElem?_cons_zero] <;> exact rfl) (fun K hK => ?_) ?_
            focus (
              refine rgs_store_blk (by rfl) 50 (.tmp 5) (.tmp 10) (by rfl) x v.arr #[.int .i64 0, .int .i64 0, .int .i64 0, .int .i64 0, .int .i64 0, .int .i64 0, .int .i64 0] 50 (by rfl) (by rfl) Ex8 sn_size rfl (Vs.arr_one v) ?_
              have hS := below_setRow hS Mx v.arr
              have Ex9 := Ex8.row v.arr
              have Ey9 := Ey8.row_other Nyx v.arr
              refine hK.out _ _ hS (fun _ => ?_)
              generalize wa8.setRow x v.arr = ws9 at hS Ex9 Ey9 ⊢
              clear hK K
              try simp only [Act.put, List.setIfInBounds_toArray, List.set_cons_zero, List.set_cons_succ]
              refine wpAnyH_ready (rs := [7]) (by kernel_rfl) (by simp) ?_
              refine AllReadyH.cons (o := _) (by simp only [List.getElem?_toArray, List.getElem?_cons_succ, List.getElem?_cons_zero] <;> exact rfl) (fun K hK => ?_) ?_
              focus (
                refine rgs_store_blk (by rfl) 50 (.tmp 6) (.tmp 12) (by rfl) y u.arr #[.int .i64 0, .int .i64 0, .int .i64 0, .int .i64 0, .int .i64 0, .int .i64 0, .int .i64 0] 50 (by rfl) (by rfl) Ey9 sn_size rfl (Vs.arr_one u) ?_
                have hS := below_setRow hS My u.arr
                have Ex10 := Ex9.row_other Nxy u.arr
                have Ey10 := Ey9.row u.arr
                refine hK.out _ _ hS (fun _ => ?_)
                generalize ws9.setRow y u.arr = ws10 at hS Ex10 Ey10 ⊢
                clear hK K
                try simp only [Act.put, List.setIfInBounds_toArray, List.set_cons_zero, List.set_cons_succ]
                refine wpAnyH_done (by kernel_rfl) ?_ _
                refine NoPanic.normal ?_
                go_wp2
                go_meet
                exact ⟨x, y, rfl, rfl, Ex10, Ey10, Nxy, Mx, My, hS⟩)
              exact AllReadyH.nil)
            exact AllReadyH.nil)
          exact AllReadyH.nil)
        exact AllReadyH.nil)
      refine AllReadyH.cons (o := _) (by simp only [List.getElem?_toArray, List.getElem?_cons_succ, List.getElem?_cons_zero] <;> exact rfl) (fun K hK => ?_) ?_
      focus (
        go_simp
        have hz11 := hS.size
        have hS := hS.alloc hS.size (.cells #[.int .i64 0, .int .i64 0, .int .i64 0, .int .i64 0, .int .i64 0, .int .i64 0, .int .i64 0] 50)
        refine hK.out _ _ hS (fun _ => ?_)
        have Ex11 := BlkIs.new wr1 50 #[.int .i64 0, .int .i64 0, .int .i64 0, .int .i64 0, .int .i64 0, .int .i64 0, .int .i64 0]
        obtain ⟨x, hx⟩ : ∃ g, g = wr1.heap.size := ⟨_, rfl⟩
        have Mx : w0.heap.size ≤ x := by rw [hx]; exact hz11
        rw [← hx] at Ex11 ⊢
        generalize wr1.alloc (.cells #[.int .i64 0, .int .i64 0, .int .i64 0, .int .i64 0, .int .i64 0, .int .i64 0, .int .i64 0] 50) = wa11 at hS Ex11 ⊢
        clear hx hz11
        clear hK K
        try simp only [Act.put, List.setIfInBounds_toArray, List.set_cons_zero, List.set_cons_succ]
        refine wpAnyH_ready (rs := [3, 5]) (by kernel_rfl) (by simp) ?_
        refine AllReadyH.cons (o := _) (by simp only [List.getElem?_toArray, List.getElem?_cons_succ, List.getElem?_cons_zero] <;> exact rfl) (fun K hK => ?_) ?_
        focus (
          go_simp
          go_at_call 19
          refine (HN2.out _).mono ?_
          rintro e wr12 ⟨rfl, hb⟩
          have hS := hS.trans (hb.mono hS.size)
          have Ex12 := Ex11.keep hb
          clear hb
          go_wp2_with fail
          refine hK.out _ _ hS (fun _ => ?_)
          clear hK K
          try simp only [Act.put, List.setIfInBounds_toArray, List.set_cons_zero, List.set_cons_succ]
          refine wpAnyH_ready (rs := [5]) (by kernel_rfl) (by simp) ?_
          refine AllReadyH.cons (o := _) (by simp only [List.getElem?_toArray, List.getElem?_cons_succ, List.getElem?_cons_zero] <;> exact rfl) (fun K hK => ?_) ?_
          focus (
            go_simp
            have hz13 := hS.size
            have hS := hS.alloc hS.size (.cells #[.int .i64 0, .int .i64 0, .int .i64 0, .int .i64 0, .int .i64 0, .int .i64 0, .int .i64 0] 50)
            refine hK.out _ _ hS (fun _ => ?_)
            have Ex13 := Ex12.alloc (.cells #[.int .i64 0, .int .i64 0, .int .i64 0, .int .i64 0, .int .i64 0, .int .i64 0, .int .i64 0] 50)
            have Ey13 := BlkIs.new wr12 50 #[.int .i64 0, .int .i64 0, .int .i64 0, .int .i64 0, .int .i64 0, .int .i64 0, .int .i64 0]
            obtain ⟨y, hy⟩ : ∃ g, g = wr12.heap.size := ⟨_, rfl⟩
            have My : w0.heap.size ≤ y := by rw [hy]; exact hz13
            rw [← hy] at Ey13 ⊢
            have Nxy : x ≠ y := by have := Ex12.lt; omega
            have Nyx : y ≠ x := by have := Ex12.lt; omega
            generalize wr12.alloc (.cells #[.int .i64 0, .int .i64 0, .int .i64 0, .int .i64 0, .int .i64 0, .int .i64 0, .int .i64 0] 50) = wa13 at hS Ex13 Ey13 ⊢
            clear hy hz13
            clear hK K
            try simp only [Act.put, List.setIfInBounds_toArray, List.set_cons_zero, List.set_cons_succ]
            refine wpAnyH_ready (rs := [6]) (by kernel_rfl) (by simp) ?_
            refine AllReadyH.cons (o := _) (by simp only [List.getElem?_toArray, List.getElem?_cons_succ, List.getElem?_cons_zero] <;> exact rfl) (fun K hK => ?_) ?_
            focus (
              refine rgs_store_blk (by rfl) 50 (.tmp 5) (.tmp 10) (by rfl) x v.arr #[.int .i64 0, .int .i64 0, .int .i64 0, .int .i64 0, .int .i64 0, .int .i64 0, .int .i64 0] 50 (by rfl) (by rfl) Ex13 sn_size rfl (Vs.arr_one v) ?_
              have hS := below_setRow hS Mx v.arr
              have Ex14 := Ex13.row v.arr
              have Ey14 := Ey13.row_other Nyx v.arr
              refine hK.out _ _ hS (fun _ => ?_)
              generalize wa13.setRow x v.arr = ws14 at hS Ex14 Ey14 ⊢
              clear hK K
              try simp only [Act.put, List.setIfInBounds_toArray, List.set_cons_zero, List.set_cons_succ]
              refine wpAnyH_ready (rs := [7]) (by kernel_rfl) (by simp) ?_
              refine AllReadyH.cons (o := _) (by simp only [List.getElem?_toArray, List.getElem?_cons_succ, List.getElem?_cons_zero] <;> exact rfl) (fun K hK => ?_) ?_
              focus (
                refine rgs_store_blk (by rfl) 50 (.tmp 6) (.tmp 12) (by rfl) y u.arr #[.int .i64 0, .int .i64 0, .int .i64 0, .int .i64 0, .int .i64 0, .int .i64 0, .int .i64 0] 50 (by rfl) (by rfl) Ey14 sn_size rfl (Vs.arr_one u) ?_
                have hS := below_setRow hS My u.arr
                have Ex15 := Ex14.row_other Nxy u.arr
                have Ey15 := Ey14.row u.arr
                refine hK.out _ _ hS (fun _ => ?_)
                generalize ws14.setRow y u.arr = ws15 at hS Ex15 Ey15 ⊢
                clear hK K
                try simp only [Act.put, List.setIfInBounds_toArray, List.set_cons_zero, List.set_cons_succ]
                refine wpAnyH_done (by kernel_rfl) ?_ _
                refine NoPanic.normal ?_
                go_wp2
                go_meet
                exact ⟨x, y, rfl, rfl, Ex15, Ey15, Nxy, Mx, My, hS⟩)
              exact AllReadyH.nil)
            exact AllReadyH.nil)
          exact AllReadyH.nil)
        refine AllReadyH.cons (o := _) (by simp only [List.getElem?_toArray, List.getElem?_cons_succ, List.getElem?_cons_zero] <;> exact rfl) (fun K hK => ?_) ?_
        focus (
          go_simp
          have hz16 := hS.size
          have hS := hS.alloc hS.size (.cells #[.int .i64 0, .int .i64 0, .int .i64 0, .int .i64 0, .int .i64 0, .int .i64 0, .int .i64 0] 50)
          refine hK.out _ _ hS (fun _ => ?_)
          have Ex16 := Ex11.alloc (.cells #[.int .i64 0, .int .i64 0, .int .i64 0, .int .i64 0, .int .i64 0, .int .i64 0, .int .i64 0] 50)
          have Ey16 := BlkIs.new wa11 50 #[.int .i64 0, .int .i64 0, .int .i64 0, .int .i64 0, .int .i64 0, .int .i64 0, .int .i64 0]
          obtain ⟨y, hy⟩ : ∃ g, g = wa11.heap.size := ⟨_, rfl⟩
          have My : w0.heap.size ≤ y := by rw [hy]; exact hz16
          rw [← hy] at Ey16 ⊢
          have Nxy : x ≠ y := by have := Ex11.lt; omega
          have Nyx : y ≠ x := by have := Ex11.lt; omega
          generalize wa11.alloc (.cells #[.int .i64 0, .int .i64 0, .int .i64 0, .int .i64 0, .int .i64 0, .int .i64 0, .int .i64 0] 50) = wa16 at hS Ex16 Ey16 ⊢
          clear hy hz16
          clear hK K
          try simp only [Act.put, List.setIfInBounds_toArray, List.set_cons_zero, List.set_cons_succ]
          refine wpAnyH_ready (rs := [3]) (by kernel_rfl) (by simp) ?_
          refine AllReadyH.cons (o := _) (by simp only [List.getElem?_toArray, List.getElem?_cons_succ, List.getElem?_cons_zero] <;> exact rfl) (fun K hK => ?_) ?_
          focus (
            go_simp
            go_at_call 19
            refine (HN2.out _).mono ?_
            rintro e wr17 ⟨rfl, hb⟩
            have hS := hS.trans (hb.mono hS.size)
            have Ex17 := Ex16.keep hb
            have Ey17 := Ey16.keep hb
            clear hb
            go_wp2_with fail
            refine hK.out _ _ hS (fun _ => ?_)
            clear hK K
            try simp only [Act.put, List.setIfInBounds_toArray, List.set_cons_zero, List.set_cons_succ]
            refine wpAnyH_ready (rs := [6]) (by kernel_rfl) (by simp) ?_
            refine AllReadyH.cons (o := _) (by simp only [List.getElem?_toArray, List.getElem?_cons_succ, List.getElem?_cons_zero] <;> exact rfl) (fun K hK => ?_) ?_
            focus (
              refine rgs_store_blk (by rfl) 50 (.tmp 5) (.tmp 10) (by rfl) x v.arr #[.int .i64 0, .int .i64 0, .int .i64 0, .int .i64 0, .int .i64 0, .int .i64 0, .int .i64 0] 50 (by rfl) (by rfl) Ex17 sn_size rfl (Vs.arr_one v) ?_
              have hS := below_setRow hS Mx v.arr
              have Ex18 := Ex17.row v.arr
              have Ey18 := Ey17.row_other Nyx v.arr
              refine hK.out _ _ hS (fun _ => ?_)
              generalize wr17.setRow x v.arr = ws18 at hS Ex18 Ey18 ⊢
              clear hK K
              try simp only [Act.put, List.setIfInBounds_toArray, List.set_cons_zero, List.set_cons_succ]
              refine wpAnyH_ready (rs := [7]) (by kernel_rfl) (by simp) ?_
              refine AllReadyH.cons (o := _) (by simp only [List.getElem?_toArray, List.getElem?_cons_succ, List.getElem?_cons_zero] <;> exact rfl) (fun K hK => ?_) ?_
              focus (
                refine rgs_store_blk (by rfl) 50 (.tmp 6) (.tmp 12) (by rfl) y u.arr #[.int .i64 0, .int .i64 0, .int .i64 0, .int .i64 0, .int .i64 0, .int .i64 0, .int .i64 0] 50 (by rfl) (by rfl) Ey18 sn_size rfl (Vs.arr_one u) ?_
                have hS := below_setRow hS My u.arr
                have Ex19 := Ex18.row_other Nxy u.arr
                have Ey19 := Ey18.row u.arr
                refine hK.out _ _ hS (fun _ => ?_)
                generalize ws18.setRow y u.arr = ws19 at hS Ex19 Ey19 ⊢
                clear hK K
                try simp only [Act.put, List.setIfInBounds_toArray, List.set_cons_zero, List.set_cons_succ]
                refine wpAnyH_done (by kernel_rfl) ?_ _
                refine NoPanic.normal ?_
                go_wp2
                go_meet
                exact ⟨x, y, rfl, rfl, Ex19, Ey19, Nxy, Mx, My, hS⟩)
              exact AllReadyH.nil)
            exact AllReadyH.nil)
          exact AllReadyH.nil)
        exact AllReadyH.nil)
      refine AllReadyH.cons (o := _) (by simp only [List.getElem?_toArray, List.getElem?_cons_succ, List.getElem?_cons_zero] <;> exact rfl) (fun K hK => ?_) ?_
      focus (
        go_simp
        have hz20 := hS.size
        have hS := hS.alloc hS.size (.cells #[.int .i64 0, .int .i64 0, .int .i64 0, .int .i64 0, .int .i64 0, .int .i64 0, .int .i64 0] 50)
        refine hK.out _ _ hS (fun _ => ?_)
        have Ey20 := BlkIs.new wr1 50 #[.int .i64 0, .int .i64 0, .int .i64 0, .int .i64 0, .int .i64 0, .int .i64 0, .int .i64 0]
        obtain ⟨y, hy⟩ : ∃ g, g = wr1.heap.size := ⟨_, rfl⟩
        have My : w0.heap.size ≤ y := by rw [hy]; exact hz20
        rw [← hy] at Ey20 ⊢
        generalize wr1.alloc (.cells #[.int .i64 0, .int .i64 0, .int .i64 0, .int .i64 0, .int .i64 0, .int .i64 0, .int .i64 0] 50) = wa20 at hS Ey20 ⊢
        clear hy hz20
        clear hK K
        try simp only [Act.put, List.setIfInBounds_toArray, List.set_cons_zero, List.set_cons_succ]
        refine wpAnyH_ready (rs := [3, 4]) (by kernel_rfl) (by simp) ?_
        refine AllReadyH.cons (o := _) (by simp only [List.getElem?_toArray, List.getElem?_cons_succ, List.getElem?_cons_zero] <;> exact rfl) (fun K hK => ?_) ?_
        focus (
          go_simp
          go_at_call 19
          refine (HN2.out _).mono ?_
          rintro e wr21 ⟨rfl, hb⟩
          have hS := hS.trans (hb.mono hS.size)
          have Ey21 := Ey20.keep hb
          clear hb
          go_wp2_with fail
          refine hK.out _ _ hS (fun _ => ?_)
          clear hK K
          try simp only [Act.put, List.setIfInBounds_toArray, List.set_cons_zero, List.set_cons_succ]
          refine wpAnyH_ready (rs := [4]) (by kernel_rfl) (by simp) ?_
          refine AllReadyH.cons (o := _) (by simp only [List.getElem?_toArray, List.getElem?_cons_succ, List.getElem?_cons_zero] <;> exact rfl) (fun K hK => ?_) ?_
          focus (
            go_simp
            have hz22 := hS.size
            have hS := hS.alloc hS.size (.cells #[.int .i64 0, .int .i64 0, .int .i64 0, .int .i64 0, .int .i64 0, .int .i64 0, .int .i64 0] 50)
            refine hK.out _ _ hS (fun _ => ?_)
            have Ey22 := Ey21.alloc (.cells #[.int .i64 0, .int .i64 0, .int .i64 0, .int .i64 0, .int .i64 0, .int .i64 0, .int .i64 0] 50)
            have Ex22 := BlkIs.new wr21 50 #[.int .i64 0, .int .i64 0, .int .i64 0, .int .i64 0, .int .i64 0, .int .i64 0, .int .i64 0]
            obtain ⟨x, hx⟩ : ∃ g, g = wr21.heap.size := ⟨_, rfl⟩
            have Mx : w0.heap.size ≤ x := by rw [hx]; exact hz22
            rw [← hx] at Ex22 ⊢
            have Nyx : y ≠ x := by have := Ey21.lt; omega
            have Nxy : x ≠ y := by have := Ey21.lt; omega
            generalize wr21.alloc (.cells #[.int .i64 0, .int .i64 0, .int .i64 0, .int .i64 0, .int .i64 0, .int .i64 0, .int .i64 0] 50) = wa22 at hS Ex22 Ey22 ⊢
            clear hx hz22
            clear hK K
            try simp only [Act.put, List.setIfInBounds_toArray, List.set_cons_zero, List.set_cons_succ]
            refine wpAnyH_ready (rs := [6]) (by kernel_rfl) (by simp) ?_
            refine AllReadyH.cons (o := _) (by simp only [List.getElem?_toArray, List.getElem?_cons_succ, List.getElem?_cons_zero] <;> exact rfl) (fun K hK => ?_) ?_
            focus (
              refine rgs_store_blk (by rfl) 50 (.tmp 5) (.tmp 10) (by rfl) x v.arr #[.int .i64 0, .int .i64 0, .int .i64 0, .int .i64 0, .int .i64 0, .int .i64 0, .int .i64 0] 50 (by rfl) (by rfl) Ex22 sn_size rfl (Vs.arr_one v) ?_
              have hS := below_setRow hS Mx v.arr
              have Ex23 := Ex22.row v.arr
              have Ey23 := Ey22.row_other Nyx v.arr
              refine hK.out _ _ hS (fun _ => ?_)
              generalize wa22.setRow x v.arr = ws23 at hS Ex23 Ey23 ⊢
              clear hK K
              try simp only [Act.put, List.setIfInBounds_toArray, List.set_cons_zero, List.set_cons_succ]
              refine wpAnyH_ready (rs := [7]) (by kernel_rfl) (by simp) ?_
              refine AllReadyH.cons (o := _) (by simp only [List.getElem?_toArray, List.getElem?_cons_succ, List.getElem?_cons_zero] <;> exact rfl) (fun K hK => ?_) ?_
              focus (
                refine rgs_store_blk (by rfl) 50 (.tmp 6) (.tmp 12) (by rfl) y u.arr #[.int .i64 0, .int .i64 0, .int .i64 0, .int .i64 0, .int .i64 0, .int .i64 0, .int .i64 0] 50 (by rfl) (by rfl) Ey23 sn_size rfl (Vs.arr_one u) ?_
                have hS := below_setRow hS My u.arr
                have Ex24 := Ex23.row_other Nxy u.arr
                have Ey24 := Ey23.row u.arr
                refine hK.out _ _ hS (fun _ => ?_)
                generalize ws23.setRow y u.arr = ws24 at hS Ex24 Ey24 ⊢
                clear hK K
                try simp only [Act.put, List.setIfInBounds_toArray, List.set_cons_zero, List.set_cons_succ]
                refine wpAnyH_done (by kernel_rfl) ?_ _
                refine NoPanic.normal ?_
                go_wp2
                go_meet
                exact ⟨x, y, rfl, rfl, Ex24, Ey24, Nxy, Mx, My, hS⟩)
              exact AllReadyH.nil)
            exact AllReadyH.nil)
          exact AllReadyH.nil)
        refine AllReadyH.cons (o := _) (by simp only [List.getElem?_toArray, List.getElem?_cons_succ, List.getElem?_cons_zero] <;> exact rfl) (fun K hK => ?_) ?_
        focus (
          go_simp
          have hz25 := hS.size
          have hS := hS.alloc hS.size (.cells #[.int .i64 0, .int .i64 0, .int .i64 0, .int .i64 0, .int .i64 0, .int .i64 0, .int .i64 0] 50)
          refine hK.out _ _ hS (fun _ => ?_)
          have Ey25 := Ey20.alloc (.cells #[.int .i64 0, .int .i64 0, .int .i64 0, .int .i64 0, .int .i64 0, .int .i64 0, .int .i64 0] 50)
          have Ex25 := BlkIs.new wa20 50 #[.int .i64 0, .int .i64 0, .int .i64 0, .int .i64 0, .int .i64 0, .int .i64 0, .int .i64 0]
          obtain ⟨x, hx⟩ : ∃ g, g = wa20.heap.size := ⟨_, rfl⟩
          have Mx : w0.heap.size ≤ x := by rw [hx]; exact hz25
          rw [← hx] at Ex25 ⊢
          have Nyx : y ≠ x := by have := Ey20.lt; omega
          have Nxy : x ≠ y := by have := Ey20.lt; omega
          generalize wa20.alloc (.cells #[.int .i64 0, .int .i64 0, .int .i64 0, .int .i64 0, .int .i64 0, .int .i64 0, .int .i64 0] 50) = wa25 at hS Ex25 Ey25 ⊢
          clear hx hz25
          clear hK K
          try simp only [Act.put, List.setIfInBounds_toArray, List.set_cons_zero, List.set_cons_succ]
          refine wpAnyH_ready (rs := [3]) (by kernel_rfl) (by simp) ?_
          refine AllReadyH.cons (o := _) (by simp only [List.getElem?_toArray, List.getElem?_cons_succ, List.getElem?_cons_zero] <;> exact rfl) (fun K hK => ?_) ?_
          focus (
            go_simp
            go_at_call 19
            refine (HN2.out _).mono ?_
            rintro e wr26 ⟨rfl, hb⟩
            have hS := hS.trans (hb.mono hS.size)
            have Ex26 := Ex25.keep hb
            have Ey26 := Ey25.keep hb
            clear hb
            go_wp2_with fail
            refine hK.out _ _ hS (fun _ => ?_)
            clear hK K
            try simp only [Act.put, List.setIfInBounds_toArray, List.set_cons_zero, List.set_cons_succ]
            refine wpAnyH_ready (rs := [6]) (by kernel_rfl) (by simp) ?_
            refine AllReadyH.cons (o := _) (by simp only [List.getElem?_toArray, List.getElem?_cons_succ, List.getElem?_cons_zero] <;> exact rfl) (fun K hK => ?_) ?_
            focus (
              refine rgs_store_blk (by rfl) 50 (.tmp 5) (.tmp 10) (by rfl) x v.arr #[.int .i64 0, .int .i64 0, .int .i64 0, .int .i64 0, .int .i64 0, .int .i64 0, .int .i64 0] 50 (by rfl) (by rfl) Ex26 sn_size rfl (Vs.arr_one v) ?_
              have hS := below_setRow hS Mx v.arr
              have Ex27 := Ex26.row v.arr
              have Ey27 := Ey26.row_other Nyx v.arr
              refine hK.out _ _ hS (fun _ => ?_)
              generalize wr26.setRow x v.arr = ws27 at hS Ex27 Ey27 ⊢
              clear hK K
              try simp only [Act.put, List.setIfInBounds_toArray, List.set_cons_zero, List.set_cons_succ]
              refine wpAnyH_ready (rs := [7]) (by kernel_rfl) (by simp) ?_
              refine AllReadyH.cons (o := _) (by simp only [List.getElem?_toArray, List.getElem?_cons_succ, List.getElem?_cons_zero] <;> exact rfl) (fun K hK => ?_) ?_
              focus (
                refine rgs_store_blk (by rfl) 50 (.tmp 6) (.tmp 12) (by rfl) y u.arr #[.int .i64 0, .int .i64 0, .int .i64 0, .int .i64 0, .int .i64 0, .int .i64 0, .int .i64 0] 50 (by rfl) (by rfl) Ey27 sn_size rfl (Vs.arr_one u) ?_
                have hS := below_setRow hS My u.arr
                have Ex28 := Ex27.row_other Nxy u.arr
                have Ey28 := Ey27.row u.arr
                refine hK.out _ _ hS (fun _ => ?_)
                generalize ws27.setRow y u.arr = ws28 at hS Ex28 Ey28 ⊢
                clear hK K
                try simp only [Act.put, List.setIfInBounds_toArray, List.set_cons_zero, List.set_cons_succ]
                refine wpAnyH_done (by kernel_rfl) ?_ _
                refine NoPanic.normal ?_
                go_wp2
                go_meet
                exact ⟨x, y, rfl, rfl, Ex28, Ey28, Nxy, Mx, My, hS⟩)
              exact AllReadyH.nil)
            exact AllReadyH.nil)
          exact AllReadyH.nil)
        exact AllReadyH.nil)
      exact AllReadyH.nil)
    refine AllReadyH.cons (o := _) (by simp only [List.getElem?_toArray, List.getElem?_cons_succ, List.getElem?_cons_zero] <;> exact rfl) (fun K hK => ?_) ?_
    focus (
      go_simp
      have hz29 := hS.size
      have hS := hS.alloc hS.size (.cells #[.int .i64 0, .int .i64 0, .int .i64 0, .int .i64 0, .int .i64 0, .int .i64 0, .int .i64 0] 50)
      refine hK.out _ _ hS (fun _ => ?_)
      have Ex29 := BlkIs.new wd 50 #[.int .i64 0, .int .i64 0, .int .i64 0, .int .i64 0, .int .i64 0, .int .i64 0, .int .i64 0]
      obtain ⟨x, hx⟩ : ∃ g, g = wd.heap.size := ⟨_, rfl⟩
      have Mx : w0.heap.size ≤ x := by rw [hx]; exact hz29
      rw [← hx] at Ex29 ⊢
      generalize wd.alloc (.cells #[.int .i64 0, .int .i64 0, .int .i64 0, .int .i64 0, .int .i64 0, .int .i64 0, .int .i64 0] 50) = wa29 at hS Ex29 ⊢
      clear hx hz29
      clear hK K
      try simp only [Act.put, List.setIfInBounds_toArray, List.set_cons_zero, List.set_cons_succ]
      refine wpAnyH_ready (rs := [1, 5]) (by kernel_rfl) (by simp) ?_
      refine AllReadyH.cons (o := _) (by simp only [List.getElem?_toArray, List.getElem?_cons_succ, List.getElem?_cons_zero] <;> exact rfl) (fun K hK => ?_) ?_
      focus (
        go_simp
        go_at_call 19
        refine (HN1.out _).mono ?_
        rintro e wr30 ⟨rfl, hb⟩
        have hS := hS.trans (hb.mono hS.size)
        have Ex30 := Ex29.keep hb
        clear hb
        go_wp2_with fail
        refine hK.out _ _ hS (fun _ => ?_)
        clear hK K
        try simp only [Act.put, List.setIfInBounds_toArray, List.set_cons_zero, List.set_cons_succ]
        refine wpAnyH_ready (rs := [3, 5]) (by kernel_rfl) (by simp) ?_
        refine AllReadyH.cons (o := _) (by simp only [List.getElem?_toArray, List.getElem?_cons_succ, List.getElem?_cons_zero] <;> exact rfl) (fun K hK => ?_) ?_
        focus (
          go_simp
          go_at_call 19
          refine (HN2.out _).mono ?_
          rintro e wr31 ⟨rfl, hb⟩
          have hS := hS.trans (hb.mono hS.size)
          have Ex31 := Ex30.keep hb
          clear hb
          go_wp2_with fail
          refine hK.out _ _ hS (fun _ => ?_)
          clear hK K
          try simp only [Act.put, List.setIfInBounds_toArray, List.set_cons_zero, List.set_cons_succ]
          refine wpAnyH_ready (rs := [5]) (by kernel_rfl) (by simp) ?_
          refine AllReadyH.cons (o := _) (by simp only [List.getElem?_toArray, List.getElem?_cons_succ, List.getElem?_cons_zero] <;> exact rfl) (fun K hK => ?_) ?_
          focus (
            go_simp
            have hz32 := hS.size
            have hS := hS.alloc hS.size (.cells #[.int .i64 0, .int .i64 0, .int .i64 0, .int .i64 0, .int .i64 0, .int .i64 0, .int .i64 0] 50)
            refine hK.out _ _ hS (fun _ => ?_)
            have Ex32 := Ex31.alloc (.cells #[.int .i64 0, .int .i64 0, .int .i64 0, .int .i64 0, .int .i64 0, .int .i64 0, .int .i64 0] 50)
            have Ey32 := BlkIs.new wr31 50 #[.int .i64 0, .int .i64 0, .int .i64 0, .int .i64 0, .int .i64 0, .int .i64 0, .int .i64 0]
            obtain ⟨y, hy⟩ : ∃ g, g = wr31.heap.size := ⟨_, rfl⟩
            have My : w0.heap.size ≤ y := by rw [hy]; exact hz32
            rw [← hy] at Ey32 ⊢
            have Nxy : x ≠ y := by have := Ex31.lt; omega
            have Nyx : y ≠ x := by have := Ex31.lt; omega
            generalize wr31.alloc (.cells #[.int .i64 0, .int .i64 0, .int .i64 0, .int .i64 0, .int .i64 0, .int .i64 0, .int .i64 0] 50) = wa32 at hS Ex32 Ey32 ⊢
            clear hy hz32
            clear hK K
            try simp only [Act.put, List.setIfInBounds_toArray, List.set_cons_zero, List.set_cons_succ]
            refine wpAnyH_ready (rs := [6]) (by kernel_rfl) (by simp) ?_
            refine AllReadyH.cons (o := _) (by simp only [List.getElem?_toArray, List.getElem?_cons_succ, List.getElem?_cons_zero] <;> exact rfl) (fun K hK => ?_) ?_
            focus (
              refine rgs_store_blk (by rfl) 50 (.tmp 5) (.tmp 10) (by rfl) x v.arr #[.int .i64 0, .int .i64 0, .int .i64 0, .int .i64 0, .int .i64 0, .int .i64 0, .int .i64 0] 50 (by rfl) (by rfl) Ex32 sn_size rfl (Vs.arr_one v) ?_
              have hS := below_setRow hS Mx v.arr
              have Ex33 := Ex32.row v.arr
              have Ey33 := Ey32.row_other Nyx v.arr
              refine hK.out _ _ hS (fun _ => ?_)
              generalize wa32.setRow x v.arr = ws33 at hS Ex33 Ey33 ⊢
              clear hK K
              try simp only [Act.put, List.setIfInBounds_toArray, List.set_cons_zero, List.set_cons_succ]
              refine wpAnyH_ready (rs := [7]) (by kernel_rfl) (by simp) ?_
              refine AllReadyH.cons (o := _) (by simp only [List.getElem?_toArray, List.getElem?_cons_succ, List.getElem?_cons_zero] <;> exact rfl) (fun K hK => ?_) ?_
              focus (
                refine rgs_store_blk (by rfl) 50 (.tmp 6) (.tmp 12) (by rfl) y u.arr #[.int .i64 0, .int .i64 0, .int .i64 0, .int .i64 0, .int .i64 0, .int .i64 0, .int .i64 0] 50 (by rfl) (by rfl) Ey33 sn_size rfl (Vs.arr_one u) ?_
                have hS := below_setRow hS My u.arr
                have Ex34 := Ex33.row_other Nxy u.arr
                have Ey34 := Ey33.row u.arr
                refine hK.out _ _ hS (fun _ => ?_)
                generalize ws33.setRow y u.arr = ws34 at hS Ex34 Ey34 ⊢
                clear hK K
                try simp only [Act.put, List.setIfInBounds_toArray, List.set_cons_zero, List.set_cons_succ]
                refine wpAnyH_done (by kernel_rfl) ?_ _
                refine NoPanic.normal ?_
                go_wp2
                go_meet
                exact ⟨x, y, rfl, rfl, Ex34, Ey34, Nxy, Mx, My, hS⟩)
              exact AllReadyH.nil)
            exact AllReadyH.nil)
          exact AllReadyH.nil)
        refine AllReadyH.cons (o := _) (by simp only [List.getElem?_toArray, List.getElem?_cons_succ, List.getElem?_cons_zero] <;> exact rfl) (fun K hK => ?_) ?_
        focus (
          go_simp
          have hz35 := hS.size
          have hS := hS.alloc hS.size (.cells #[.int .i64 0, .int .i64 0, .int .i64 0, .int .i64 0, .int .i64 0, .int .i64 0, .int .i64 0] 50)
          refine hK.out _ _ hS (fun _ => ?_)
          have Ex35 := Ex30.alloc (.cells #[.int .i64 0, .int .i64 0, .int .i64 0, .int .i64 0, .int .i64 0, .int .i64 0, .int .i64 0] 50)
          have Ey35 := BlkIs.new wr30 50 #[.int .i64 0, .int .i64 0, .int .i64 0, .int .i64 0, .int .i64 0, .int .i64 0, .int .i64 0]
          obtain ⟨y, hy⟩ : ∃ g, g = wr30.heap.size := ⟨_, rfl⟩
          have My : w0.heap.size ≤ y := by rw [hy]; exact hz35
          rw [← hy] at Ey35 ⊢
          have Nxy : x ≠ y := by have := Ex30.lt; omega
          have Nyx : y ≠ x := by have := Ex30.lt; omega
          generalize wr30.alloc (.cells #[.int .i64 0, .int .i64 0, .int .i64 0, .int .i64 0, .int .i64 0, .int .i64 0, .int .i64 0] 50) = wa35 at hS Ex35 Ey35 ⊢
          clear hy hz35
          clear hK K
          try simp only [Act.put, List.setIfInBounds_toArray, List.set_cons_zero, List.set_cons_succ]
          refine wpAnyH_ready (rs := [3]) (by kernel_rfl) (by simp) ?_
          refine AllReadyH.cons (o := _) (by simp only [List.getElem?_toArray, List.getElem?_cons_succ, List.getElem?_cons_zero] <;> exact rfl) (fun K hK => ?_) ?_
          focus (
            go_simp
            go_at_call 19
            refine (HN2.out _).mono ?_
            rintro e wr36 ⟨rfl, hb⟩
            have hS := hS.trans (hb.mono hS.size)
            have Ex36 := Ex35.keep hb
            have Ey36 := Ey35.keep hb
            clear hb
            go_wp2_with fail
            refine hK.out _ _ hS (fun _ => ?_)
            clear hK K
            try simp only [Act.put, List.setIfInBounds_toArray, List.set_cons_zero, List.set_cons_succ]
            refine wpAnyH_ready (rs := [6]) (by kernel_rfl) (by simp) ?_
            refine AllReadyH.cons (o := _) (by simp only [List.getElem?_toArray, List.getElem?_cons_succ, List.getElem?_cons_zero] <;> exact rfl) (fun K hK => ?_) ?_
            focus (
              refine rgs_store_blk (by rfl) 50 (.tmp 5) (.tmp 10) (by rfl) x v.arr #[.int .i64 0, .int .i64 0, .int .i64 0, .int .i64 0, .int .i64 0, .int .i64 0, .int .i64 0] 50 (by rfl) (by rfl) Ex36 sn_size rfl (Vs.arr_one v) ?_
              have hS := below_setRow hS Mx v.arr
              have Ex37 := Ex36.row v.arr
              have Ey37 := Ey36.row_other Nyx v.arr
              refine hK.out _ _ hS (fun _ => ?_)
              generalize wr36.setRow x v.arr = ws37 at hS Ex37 Ey37 ⊢
              clear hK K
              try simp only [Act.put, List.setIfInBounds_toArray, List.set_cons_zero, List.set_cons_succ]
              refine wpAnyH_ready (rs := [7]) (by kernel_rfl) (by simp) ?_
              refine AllReadyH.cons (o := _) (by simp only [List.getElem?_toArray, List.getElem?_cons_succ, List.getElem?_cons_zero] <;> exact rfl) (fun K hK => ?_) ?_
              focus (
                refine rgs_store_blk (by rfl) 50 (.tmp 6) (.tmp 12) (by rfl) y u.arr #[.int .i64 0, .int .i64 0, .int .i64 0, .int .i64 0, .int .i64 0, .int .i64 0, .int .i64 0] 50 (by rfl) (by rfl) Ey37 sn_size rfl (Vs.arr_one u) ?_
                have hS := below_setRow hS My u.arr
                have Ex38 := Ex37.row_other Nxy u.arr
                have Ey38 := Ey37.row u.arr
                refine hK.out _ _ hS (fun _ => ?_)
                generalize ws37.setRow y u.arr = ws38 at hS Ex38 Ey38 ⊢
                clear hK K
                try simp only [Act.put, List.setIfInBounds_toArray, List.set_cons_zero, List.set_cons_succ]
                refine wpAnyH_done (by kernel_rfl) ?_ _
                refine NoPanic.normal ?_
                go_wp2
                go_meet
                exact ⟨x, y, rfl, rfl, Ex38, Ey38, Nxy, Mx, My, hS⟩)
              exact AllReadyH.nil)
            exact AllReadyH.nil)
          exact AllReadyH.nil)
        exact AllReadyH.nil)
      refine AllReadyH.cons (o := _) (by simp only [List.getElem?_toArray, List.getElem?_cons_succ, List.getElem?_cons_zero] <;> exact rfl) (fun K hK => ?_) ?_
      focus (
        go_simp
        have hz39 := hS.size
        have hS := hS.alloc hS.size (.cells #[.int .i64 0, .int .i64 0, .int .i64 0, .int .i64 0, .int .i64 0, .int .i64 0, .int .i64 0] 50)
        refine hK.out _ _ hS (fun _ => ?_)
        have Ex39 := Ex29.alloc (.cells #[.int .i64 0, .int .i64 0, .int .i64 0, .int .i64 0, .int .i64 0, .int .i64 0, .int .i64 0] 50)
        have Ey39 := BlkIs.new wa29 50 #[.int .i64 0, .int .i64 0, .int .i64 0, .int .i64 0, .int .i64 0, .int .i64 0, .int .i64 0]
        obtain ⟨y, hy⟩ : ∃ g, g = wa29.heap.size := ⟨_, rfl⟩
        have My : w0.heap.size ≤ y := by rw [hy]; exact hz39
        rw [← hy] at Ey39 ⊢
        have Nxy : x ≠ y := by have := Ex29.lt; omega
        have Nyx : y ≠ x := by have := Ex29.lt; omega
        generalize wa29.alloc (.cells #[.int .i64 0, .int .i64 0, .int .i64 0, .int .i64 0, .int .i64 0, .int .i64 0, .int .i64 0] 50) = wa39 at hS Ex39 Ey39 ⊢
        clear hy hz39
        clear hK K
        try simp only [Act.put, List.setIfInBounds_toArray, List.set_cons_zero, List.set_cons_succ]
        refine wpAnyH_ready (rs := [1]) (by kernel_rfl) (by simp) ?_
        refine AllReadyH.cons (o := _) (by simp only [List.getElem?_toArray, List.getElem?_cons_succ, List.getElem?_cons_zero] <;> exact rfl) (fun K hK => ?_) ?_
        focus (
          go_simp
          go_at_call 19
          refine (HN1.out _).mono ?_
          rintro e wr40 ⟨rfl, hb⟩
          have hS := hS.trans (hb.mono hS.size)
          have Ex40 := Ex39.keep hb
          have Ey40 := Ey39.keep hb
          clear hb
          go_wp2_with fail
          refine hK.out _ _ hS (fun _ => ?_)
          clear hK K
          try simp only [Act.put, List.setIfInBounds_toArray, List.set_cons_zero, List.set_cons_succ]
          refine wpAnyH_ready (rs := [3]) (by kernel_rfl) (by simp) ?_
          refine AllReadyH.cons (o := _) (by simp only [List.getElem?_toArray, List.getElem?_cons_succ, List.getElem?_cons_zero] <;> exact rfl) (fun K hK => ?_) ?_
          focus (
            go_simp
            go_at_call 19
            refine (HN2.out _).mono ?_
            rintro e wr41 ⟨rfl, hb⟩
            have hS := hS.trans (hb.mono hS.size)
            have Ex41 := Ex40.keep hb
            have Ey41 := Ey40.keep hb
            clear hb
            go_wp2_with fail
            refine hK.out _ _ hS (fun _ => ?_)
            clear hK K
            try simp only [Act.put, List.setIfInBounds_toArray, List.set_cons_zero, List.set_cons_succ]
            refine wpAnyH_ready (rs := [6]) (by kernel_rfl) (by simp) ?_
            refine AllReadyH.cons (o := _) (by simp only [List.getElem?_toArray, List.getElem?_cons_succ, List.getElem?_cons_zero] <;> exact rfl) (fun K hK => ?_) ?_
            focus (
              refine rgs_store_blk (by rfl) 50 (.tmp 5) (.tmp 10) (by rfl) x v.arr #[.int .i64 0, .int .i64 0, .int .i64 0, .int .i64 0, .int .i64 0, .int .i64 0, .int .i64 0] 50 (by rfl) (by rfl) Ex41 sn_size rfl (Vs.arr_one v) ?_
              have hS := below_setRow hS Mx v.arr
              have Ex42 := Ex41.row v.arr
              have Ey42 := Ey41.row_other Nyx v.arr
              refine hK.out _ _ hS (fun _ => ?_)
              generalize wr41.setRow x v.arr = ws42 at hS Ex42 Ey42 ⊢
              clear hK K
              try simp only [Act.put, List.setIfInBounds_toArray, List.set_cons_zero, List.set_cons_succ]
              refine wpAnyH_ready (rs := [7]) (by kernel_rfl) (by simp) ?_
              refine AllReadyH.cons (o := _) (by simp only [List.getElem?_toArray, List.getElem?_cons_succ, List.getElem?_cons_zero] <;> exact rfl) (fun K hK => ?_) ?_
              focus (
                refine rgs_store_blk (by rfl) 50 (.tmp 6) (.tmp 12) (by rfl) y u.arr #[.int .i64 0, .int .i64 0, .int .i64 0, .int .i64 0, .int .i64 0, .int .i64 0, .int .i64 0] 50 (by rfl) (by rfl) Ey42 sn_size rfl (Vs.arr_one u) ?_
                have hS := below_setRow hS My u.arr
                have Ex43 := Ex42.row_other Nxy u.arr
                have Ey43 := Ey42.row u.arr
                refine hK.out _ _ hS (fun _ => ?_)
                generalize ws42.setRow y u.arr = ws43 at hS Ex43 Ey43 ⊢
                clear hK K
                try simp only [Act.put, List.setIfInBounds_toArray, List.set_cons_zero, List.set_cons_succ]
                refine wpAnyH_done (by kernel_rfl) ?_ _
                refine NoPanic.normal ?_
                go_wp2
                go_meet
                exact ⟨x, y, rfl, rfl, Ex43, Ey43, Nxy, Mx, My, hS⟩)
              exact AllReadyH.nil)
            exact AllReadyH.nil)
          exact AllReadyH.nil)
        exact AllReadyH.nil)
      exact AllReadyH.nil)
    refine AllReadyH.cons (o := _) (by simp only [List.getElem?_toArray, List.getElem?_cons_succ, List.getElem?_cons_zero] <;> exact rfl) (fun K hK => ?_) ?_
    focus (
      go_simp
      have hz44 := hS.size
      have hS := hS.alloc hS.size (.cells #[.int .i64 0, .int .i64 0, .int .i64 0, .int .i64 0, .int .i64 0, .int .i64 0, .int .i64 0] 50)
      refine hK.out _ _ hS (fun _ => ?_)
      have Ey44 := BlkIs.new wd 50 #[.int .i64 0, .int .i64 0, .int .i64 0, .int .i64 0, .int .i64 0, .int .i64 0, .int .i64 0]
      obtain ⟨y, hy⟩ : ∃ g, g = wd.heap.size := ⟨_, rfl⟩
      have My : w0.heap.size ≤ y := by rw [hy]; exact hz44
      rw [← hy] at Ey44 ⊢
      generalize wd.alloc (.cells #[.int .i64 0, .int .i64 0, .int .i64 0, .int .i64 0, .int .i64 0, .int .i64 0, .int .i64 0] 50) = wa44 at hS Ey44 ⊢
      clear hy hz44
      clear hK K
      try simp only [Act.put, List.setIfInBounds_toArray, List.set_cons_zero, List.set_cons_succ]
      refine wpAnyH_ready (rs := [1, 4]) (by kernel_rfl) (by simp) ?_
      refine AllReadyH.cons (o := _) (by simp only [List.getElem?_toArray, List.getElem?_cons_succ, List.getElem?_cons_zero] <;> exact rfl) (fun K hK => ?_) ?_
      focus (
        go_simp
        go_at_call 19
        refine (HN1.out _).mono ?_
        rintro e wr45 ⟨rfl, hb⟩
        have hS := hS.trans (hb.mono hS.size)
        have Ey45 := Ey44.keep hb
        clear hb
        go_wp2_with fail
        refine hK.out _ _ hS (fun _ => ?_)
        clear hK K
        try simp only [Act.put, List.setIfInBounds_toArray, List.set_cons_zero, List.set_cons_succ]
        refine wpAnyH_ready (rs := [3, 4]) (by kernel_rfl) (by simp) ?_
        refine AllReadyH.cons (o := _) (by simp only [List.getElem?_toArray, List.getElem?_cons_succ, List.getElem?_cons_zero] <;> exact rfl) (fun K hK => ?_) ?_
        focus (
          go_simp
          go_at_call 19
          refine (HN2.out _).mono ?_
          rintro e wr46 ⟨rfl, hb⟩
          have hS := hS.trans (hb.mono hS.size)
          have Ey46 := Ey45.keep hb
          clear hb
          go_wp2_with fail
          refine hK.out _ _ hS (fun _ => ?_)
          clear hK K
          try simp only [Act.put, List.setIfInBounds_toArray, List.set_cons_zero, List.set_cons_succ]
          refine wpAnyH_ready (rs := [4]) (by kernel_rfl) (by simp) ?_
          refine AllReadyH.cons (o := _) (by simp only [List.getElem?_toArray, List.getElem?_cons_succ, List.getElem?_cons_zero] <;> exact rfl) (fun K hK => ?_) ?_
          focus (
            go_simp
            have hz47 := hS.size
            have hS := hS.alloc hS.size (.cells #[.int .i64 0, .int .i64 0, .int .i64 0, .int .i64 0, .int .i64 0, .int .i64 0, .int .i64 0] 50)
            refine hK.out _ _ hS (fun _ => ?_)
            have Ey47 := Ey46.alloc (.cells #[.int .i64 0, .int .i64 0, .int .i64 0, .int .i64 0, .int .i64 0, .int .i64 0, .int .i64 0] 50)
            have Ex47 := BlkIs.new wr46 50 #[.int .i64 0, .int .i64 0, .int .i64 0, .int .i64 0, .int .i64 0, .int .i64 0, .int .i64 0]
            obtain ⟨x, hx⟩ : ∃ g, g = wr46.heap.size := ⟨_, rfl⟩
            have Mx : w0.heap.size ≤ x := by rw [hx]; exact hz47
            rw [← hx] at Ex47 ⊢
            have Nyx : y ≠ x := by have := Ey46.lt; omega
            have Nxy : x ≠ y := by have := Ey46.lt; omega
            generalize wr46.alloc (.cells #[.int .i64 0, .int .i64 0, .int .i64 0, .int .i64 0, .int .i64 0, .int .i64 0, .int .i64 0] 50) = wa47 at hS Ex47 Ey47 ⊢
            clear hx hz47
            clear hK K
            try simp only [Act.put, List.setIfInBounds_toArray, List.set_cons_zero, List.set_cons_succ]
            refine wpAnyH_ready (rs := [6]) (by kernel_rfl) (by simp) ?_
            refine AllReadyH.cons (o := _) (by simp only [List.getElem?_toArray, List.getElem?_cons_succ, List.getElem?_cons_zero] <;> exact rfl) (fun K hK => ?_) ?_
            focus (
              refine rgs_store_blk (by rfl) 50 (.tmp 5) (.tmp 10) (by rfl) x v.arr #[.int .i64 0, .int .i64 0, .int .i64 0, .int .i64 0, .int .i64 0, .int .i64 0, .int .i64 0] 50 (by rfl) (by rfl) Ex47 sn_size rfl (Vs.arr_one v) ?_
              have hS := below_setRow hS Mx v.arr
              have Ex48 := Ex47.row v.arr
              have Ey48 := Ey47.row_other Nyx v.arr
              refine hK.out _ _ hS (fun _ => ?_)
              generalize wa47.setRow x v.arr = ws48 at hS Ex48 Ey48 ⊢
              clear hK K
              try simp only [Act.put, List.setIfInBounds_toArray, List.set_cons_zero, List.set_cons_succ]
              refine wpAnyH_ready (rs := [7]) (by kernel_rfl) (by simp) ?_
              refine AllReadyH.cons (o := _) (by simp only [List.getElem?_toArray, List.getElem?_cons_succ, List.getElem?_cons_zero] <;> exact rfl) (fun K hK => ?_) ?_
              focus (
                refine rgs_store_blk (by rfl) 50 (.tmp 6) (.tmp 12) (by rfl) y u.arr #[.int .i64 0, .int .i64 0, .int .i64 0, .int .i64 0, .int .i64 0, .int .i64 0, .int .i64 0] 50 (by rfl) (by rfl) Ey48 sn_size rfl (Vs.arr_one u) ?_
                have hS := below_setRow hS My u.arr
                have Ex49 := Ex48.row_other Nxy u.arr
                have Ey49 := Ey48.row u.arr
                refine hK.out _ _ hS (fun _ => ?_)
                generalize ws48.setRow y u.arr = ws49 at hS Ex49 Ey49 ⊢
                clear hK K
                try simp only [Act.put, List.setIfInBounds_toArray, List.set_cons_zero, List.set_cons_succ]
                refine wpAnyH_done (by kernel_rfl) ?_ _
                refine NoPanic.normal ?_
                go_wp2
                go_meet
                exact ⟨x, y, rfl, rfl, Ex49, Ey49, Nxy, Mx, My, hS⟩)
              exact AllReadyH.nil)
            exact AllReadyH.nil)
          exact AllReadyH.nil)
        refine AllReadyH.cons (o := _) (by simp only [List.getElem?_toArray, List.getElem?_cons_succ, List.getElem?_cons_zero] <;> exact rfl) (fun K hK => ?_) ?_
        focus (
          go_simp
          have hz50 := hS.size
          have hS := hS.alloc hS.size (.cells #[.int .i64 0, .int .i64 0, .int .i64 0, .int .i64 0, .int .i64 0, .int .i64 0, .int .i64 0] 50)
          refine hK.out _ _ hS (fun _ => ?_)
          have Ey50 := Ey45.alloc (.cells #[.int .i64 0, .int .i64 0, .int .i64 0, .int .i64 0, .int .i64 0, .int .i64 0, .int .i64 0] 50)
          have Ex50 := BlkIs.new wr45 50 #[.int .i64 0, .int .i64 0, .int .i64 0, .int .i64 0, .int .i64 0, .int .i64 0, .int .i64 0]
          obtain ⟨x, hx⟩ : ∃ g, g = wr45.heap.size := ⟨_, rfl⟩
          have Mx : w0.heap.size ≤ x := by rw [hx]; exact hz50
          rw [← hx] at Ex50 ⊢
          have Nyx : y ≠ x := by have := Ey45.lt; omega
          have Nxy : x ≠ y := by have := Ey45.lt; omega
          generalize wr45.alloc (.cells #[.int .i64 0, .int .i64 0, .int .i64 0, .int .i64 0, .int .i64 0, .int .i64 0, .int .i64 0] 50) = wa50 at hS Ex50 Ey50 ⊢
          clear hx hz50
          clear hK K
          try simp only [Act.put, List.setIfInBounds_toArray, List.set_cons_zero, List.set_cons_succ]
          refine wpAnyH_ready (rs := [3]) (by kernel_rfl) (by simp) ?_
          refine AllReadyH.cons (o := _) (by simp only [List.getElem?_toArray, List.getElem?_cons_succ, List.getElem?_cons_zero] <;> exact rfl) (fun K hK => ?_) ?_
          focus (
            go_simp
            go_at_call 19
            refine (HN2.out _).mono ?_
            rintro e wr51 ⟨rfl, hb⟩
            have hS := hS.trans (hb.mono hS.size)
            have Ex51 := Ex50.keep hb
            have Ey51 := Ey50.keep hb
            clear hb
            go_wp2_with fail
            refine hK.out _ _ hS (fun _ => ?_)
            clear hK K
            try simp only [Act.put, List.setIfInBounds_toArray, List.set_cons_zero, List.set_cons_succ]
            refine wpAnyH_ready (rs := [6]) (by kernel_rfl) (by simp) ?_
            refine AllReadyH.cons (o := _) (by simp only [List.getElem?_toArray, List.getElem?_cons_succ, List.getElem?_cons_zero] <;> exact rfl) (fun K hK => ?_) ?_
            focus (
              refine rgs_store_blk (by rfl) 50 (.tmp 5) (.tmp 10) (by rfl) x v.arr #[.int .i64 0, .int .i64 0, .int .i64 0, .int .i64 0, .int .i64 0, .int .i64 0, .int .i64 0] 50 (by rfl) (by rfl) Ex51 sn_size rfl (Vs.arr_one v) ?_
              have hS := below_setRow hS Mx v.arr
              have Ex52 := Ex51.row v.arr
              have Ey52 := Ey51.row_other Nyx v.arr
              refine hK.out _ _ hS (fun _ => ?_)
              generalize wr51.setRow x v.arr = ws52 at hS Ex52 Ey52 ⊢
              clear hK K
              try simp only [Act.put, List.setIfInBounds_toArray, List.set_cons_zero, List.set_cons_succ]
              refine wpAnyH_ready (rs := [7]) (by kernel_rfl) (by simp) ?_
              refine AllReadyH.cons (o := _) (by simp only [List.getElem?_toArray, List.getElem?_cons_succ, List.getElem?_cons_zero] <;> exact rfl) (fun K hK => ?_) ?_
              focus (
                refine rgs_store_blk (by rfl) 50 (.tmp 6) (.tmp 12) (by rfl) y u.arr #[.int .i64 0, .int .i64 0, .int .i64 0, .int .i64 0, .int .i64 0, .int .i64 0, .int .i64 0] 50 (by rfl) (by rfl) Ey52 sn_size rfl (Vs.arr_one u) ?_
                have hS := below_setRow hS My u.arr
                have Ex53 := Ex52.row_other Nxy u.arr
                have Ey53 := Ey52.row u.arr
                refine hK.out _ _ hS (fun _ => ?_)
                generalize ws52.setRow y u.arr = ws53 at hS Ex53 Ey53 ⊢
                clear hK K
                try simp only [Act.put, List.setIfInBounds_toArray, List.set_cons_zero, List.set_cons_succ]
                refine wpAnyH_done (by kernel_rfl) ?_ _
                refine NoPanic.normal ?_
                go_wp2
                go_meet
                exact ⟨x, y, rfl, rfl, Ex53, Ey53, Nxy, Mx, My, hS⟩)
              exact AllReadyH.nil)
            exact AllReadyH.nil)
          exact AllReadyH.nil)
        exact AllReadyH.nil)
      refine AllReadyH.cons (o := _) (by simp only [List.getElem?_toArray, List.getElem?_cons_succ, List.getElem?_cons_zero] <;> exact rfl) (fun K hK => ?_) ?_
      focus (
        go_simp
        have hz54 := hS.size
        have hS := hS.alloc hS.size (.cells #[.int .i64 0, .int .i64 0, .int .i64 0, .int .i64 0, .int .i64 0, .int .i64 0, .int .i64 0] 50)
        refine hK.out _ _ hS (fun _ => ?_)
        have Ey54 := Ey44.alloc (.cells #[.int .i64 0, .int .i64 0, .int .i64 0, .int .i64 0, .int .i64 0, .int .i64 0, .int .i64 0] 50)
        have Ex54 := BlkIs.new wa44 50 #[.int .i64 0, .int .i64 0, .int .i64 0, .int .i64 0, .int .i64 0, .int .i64 0, .int .i64 0]
        obtain ⟨x, hx⟩ : ∃ g, g = wa44.heap.size := ⟨_, rfl⟩
        have Mx : w0.heap.size ≤ x := by rw [hx]; exact hz54
        rw [← hx] at Ex54 ⊢
        have Nyx : y ≠ x := by have := Ey44.lt; omega
        have Nxy : x ≠ y := by have := Ey44.lt; omega
        generalize wa44.alloc (.cells #[.int .i64 0, .int .i64 0, .int .i64 0, .int .i64 0, .int .i64 0, .int .i64 0, .int .i64 0] 50) = wa54 at hS Ex54 Ey54 ⊢
        clear hx hz54
        clear hK K
        try simp only [Act.put, List.setIfInBounds_toArray, List.set_cons_zero, List.set_cons_succ]
        refine wpAnyH_ready (rs := [1]) (by kernel_rfl) (by simp) ?_
        refine AllReadyH.cons (o := _) (by simp only [List.getElem?_toArray, List.getElem?_cons_succ, List.getElem?_cons_zero] <;> exact rfl) (fun K hK => ?_) ?_
        focus (
          go_simp
          go_at_call 19
          refine (HN1.out _).mono ?_
          rintro e wr55 ⟨rfl, hb⟩
          have hS := hS.trans (hb.mono hS.size)
          have Ex55 := Ex54.keep hb
          have Ey55 := Ey54.keep hb
          clear hb
          go_wp2_with fail
          refine hK.out _ _ hS (fun _ => ?_)
          clear hK K
          try simp only [Act.put, List.setIfInBounds_toArray, List.set_cons_zero, List.set_cons_succ]
          refine wpAnyH_ready (rs := [3]) (by kernel_rfl) (by simp) ?_
          refine AllReadyH.cons (o := _) (by simp only [List.getElem?_toArray, List.getElem?_cons_succ, List.getElem?_cons_zero] <;> exact rfl) (fun K hK => ?_) ?_
          focus (
            go_simp
            go_at_call 19
            refine (HN2.out _).mono ?_
            rintro e wr56 ⟨rfl, hb⟩
            have hS := hS.trans (hb.mono hS.size)
            have Ex56 := Ex55.keep hb
            have Ey56 := Ey55.keep hb
            clear hb
            go_wp2_with fail
            refine hK.out _ _ hS (fun _ => ?_)
            clear hK K
            try simp only [Act.put, List.setIfInBounds_toArray, List.set_cons_zero, List.set_cons_succ]
            refine wpAnyH_ready (rs := [6]) (by kernel_rfl) (by simp) ?_
            refine AllReadyH.cons (o := _) (by simp only [List.getElem?_toArray, List.getElem?_cons_succ, List.getElem?_cons_zero] <;> exact rfl) (fun K hK => ?_) ?_
            focus (
              refine rgs_store_blk (by rfl) 50 (.tmp 5) (.tmp 10) (by rfl) x v.arr #[.int .i64 0, .int .i64 0, .int .i64 0, .int .i64 0, .int .i64 0, .int .i64 0, .int .i64 0] 50 (by rfl) (by rfl) Ex56 sn_size rfl (Vs.arr_one v) ?_
              have hS := below_setRow hS Mx v.arr
              have Ex57 := Ex56.row v.arr
              have Ey57 := Ey56.row_other Nyx v.arr
              refine hK.out _ _ hS (fun _ => ?_)
              generalize wr56.setRow x v.arr = ws57 at hS Ex57 Ey57 ⊢
              clear hK K
              try simp only [Act.put, List.setIfInBounds_toArray, List.set_cons_zero, List.set_cons_succ]
              refine wpAnyH_ready (rs := [7]) (by kernel_rfl) (by simp) ?_
              refine AllReadyH.cons (o := _) (by simp only [List.getElem?_toArray, List.getElem?_cons_succ, List.getElem?_cons_zero] <;> exact rfl) (fun K hK => ?_) ?_
              focus (
                refine rgs_store_blk (by rfl) 50 (.tmp 6) (.tmp 12) (by rfl) y u.arr #[.int .i64 0, .int .i64 0, .int .i64 0, .int .i64 0, .int .i64 0, .int .i64 0, .int .i64 0] 50 (by rfl) (by rfl) Ey57 sn_size rfl (Vs.arr_one u) ?_
                have hS := below_setRow hS My u.arr
                have Ex58 := Ex57.row_other Nxy u.arr
                have Ey58 := Ey57.row u.arr
                refine hK.out _ _ hS (fun _ => ?_)
                generalize ws57.setRow y u.arr = ws58 at hS Ex58 Ey58 ⊢
                clear hK K
                try simp only [Act.put, List.setIfInBounds_toArray, List.set_cons_zero, List.set_cons_succ]
                refine wpAnyH_done (by kernel_rfl) ?_ _
                refine NoPanic.normal ?_
                go_wp2
                go_meet
                exact ⟨x, y, rfl, rfl, Ex58, Ey58, Nxy, Mx, My, hS⟩)
              exact AllReadyH.nil)
            exact AllReadyH.nil)
          exact AllReadyH.nil)
        exact AllReadyH.nil)
      exact AllReadyH.nil)
    exact AllReadyH.nil
  obtain ⟨x, y, rfl, rfl, kx, ky, nxy, mx, my, hb⟩ := hcut
  have KX := hide kx
  have KY := hide ky
  have NXY := hide nxy
  have MX := hide (show g + 1 < x by have := HZ0.out; omega)
  have MY := hide (show g + 1 < y by have := HZ0.out; omega)
  have HB := hide (HB0.out.trans (hb.mono (by have := HZ0.out; omega)))
  clear kx ky nxy mx my hb HV HU HB0 HZ0 HN1 HN2
  have HE := hide (show okB v = false ∨ okB u = false → pairsS v u = [] from fun h => by unfold pairsS; rw [if_neg (by rcases h with h | h <;> simp [h])])
  have HL := hide (show okB v = true → okB u = true → pairsS v u = dif v u 6 from fun h h' => by unfold pairsS; rw [if_pos ⟨h, h'⟩])
  cases hov : okB v with
  | false =>
    rw [hov] at HM1
    have HX := hide (HE.out (.inl hov))
    clear HE HL hov HM2
    go_wp2_with (refine wpList_load_blk rfl 50 (.tmp 5) rfl x rfl 50 v.arr _ KX.out Try.underlying50 rfl sn_size ?_)
    refine (HM1.out _).mono ?_
    rintro e w2 ⟨rfl, hb2⟩
    have HB2 := hide (HB.out.trans (hb2.mono (by have := KX.out.lt; have := MX.out; omega)))
    clear hb2
    go_wp2_with fail
    go_ret
    exact ⟨none, 0, by rw [HX.out]; rfl, by rw [HX.out]; exact PL.none_ _, HG.out ▸ HB2.out⟩
  | true =>
    rw [hov] at HM1
    cases hou : okB u with
    | false =>
      rw [hou] at HM2
      have HX := hide (HE.out (.inr hou))
      clear HE HL hov hou
      go_wp2_with (refine wpList_load_blk rfl 50 (.tmp 5) rfl x rfl 50 v.arr _ KX.out Try.underlying50 rfl sn_size ?_)
      refine (HM1.out _).mono ?_
      rintro e w2 ⟨rfl, hb2⟩
      have HB2 := hide (HB.out.trans (hb2.mono (by have := KX.out.lt; have := MX.out; omega)))
      have KY2 := hide (KY.out.keep hb2)
      clear hb2
      go_wp2_with (refine rgs_load_want (by rfl) 50 (.tmp 6) (by rfl) y (by rfl) 50 u.arr _ KY2.out Try.underlying50 rfl sn_size ?_)
      refine (HM2.out _).mono ?_
      rintro e w3 ⟨rfl, hb3⟩
      have HB3 := hide (HB2.out.trans (hb3.mono (by have := KY2.out.lt; have := MY.out; omega)))
      clear hb3
      go_wp2_with fail
      go_ret
      exact ⟨none, 0, by rw [HX.out]; rfl, by rw [HX.out]; exact PL.none_ _, HG.out ▸ HB3.out⟩
    | true =>
      rw [hou] at HM2
      have HX := hide (HL.out hov hou)
      have HOA := hide (ok_at hou)
      clear HE HL hov hou
      go_wp2_with (refine wpList_load_blk rfl 50 (.tmp 5) rfl x rfl 50 v.arr _ KX.out Try.underlying50 rfl sn_size ?_)
      refine (HM1.out _).mono ?_
      rintro e w2 ⟨rfl, hb2⟩
      have HB2 := hide (HB.out.trans (hb2.mono (by have := KX.out.lt; have := MX.out; omega)))
      have KX2 := hide (KX.out.keep hb2)
      have KY2 := hide (KY.out.keep hb2)
      clear hb2
      go_wp2_with (refine rgs_load_want (by rfl) 50 (.tmp 6) (by rfl) y (by rfl) 50 u.arr _ KY2.out Try.underlying50 rfl sn_size ?_)
      refine (HM2.out _).mono ?_
      rintro e w3 ⟨rfl, hb3⟩
      have HB3 := hide (HB2.out.trans (hb3.mono (by have := KY2.out.lt; have := MY.out; omega)))
      have KX3 := hide (KX2.out.keep hb3)
      have KY3 := hide (KY2.out.keep hb3)
      clear hb3 HB2 KX2 KY2 HB KX KY HM1 HM2
      go_wp2_with fail
      go_loopw [7, 8] (fun s7 s8 wr => ∃ (k j : Nat), k = j + 1 ∧ j ≤ 6 ∧ s8 = .int .u16 (k : Int) ∧ wr.ownsRow g 47 2 s7 (dif v u j).length (pcs (dif v u j)) ∧ BlkIs wr x 50 (mixV v u k).arr ∧ BlkIs wr y 50 u.arr ∧ Below g w wr) (fun _ k _ => 7 - (intOf k).toNat)
      case atStart => exact ⟨1, 0, rfl, by omega, rfl, World.ownsRow_nil _ _ _ _, KX3.out, KY3.out, HB3.out⟩
      case round =>
        clear KX3 KY3 HB3
        obtain ⟨k, j, hkj, hj, rfl, hown, hx, hy, hb⟩ := hrel
        have HKJ := hide hkj
        have HO := hide hown
        have HKX := hide hx
        have HKY := hide hy
        have HB := hide hb
        have hk1 : 1 ≤ k := by omega
        have hk7 : k ≤ 7 := by omega
        clear hkj hown hx hy hb hj
        have HEQ := hide (fun w => eq_arr (mixV v u k) u w)
        by_cases he : mixV v u k = u
        · have HD := hide (show dif v u j = pairsS v u by rw [HX.out, ← dif_all hk1 hk7 he, HKJ.out]; rfl)
          rw [decide_eq_true he] at HEQ
          clear he
          have hq := HEQ.out wr
          go_wp2_with (first
            | (refine wpList_load_blk rfl 50 (.tmp 5) rfl x rfl 50 (mixV v u k).arr _ HKX.out Try.underlying50 rfl sn_size ?_)
            | (refine wpList_load_blk rfl 50 (.tmp 6) rfl y rfl 50 u.arr _ HKY.out Try.underlying50 rfl sn_size ?_))
          have HO2 := HO.out
          rw [HD.out] at HO2
          obtain ⟨A, c, rfl, hpl⟩ := own_prs HO2
          go_ret
          exact ⟨A, c, rfl, hpl, HG.out ▸ HB.out⟩
        · have hk6 : k ≤ 6 := by
            rcases Nat.lt_or_ge k 7 with h | h
            · omega
            · obtain rfl : k = 7 := by omega
              exact absurd (mix_all v u) he
          rw [decide_eq_false he] at HEQ
          clear he hk7
          have hq := HEQ.out wr
          have h7 : (k : Int) < 7 := by omega
          have c5 := (HKX.out.cell k).trans ((mixV v u k).arr_at k hk6)
          rw [mix_at] at c5
          have c6 := (HKY.out.cell k).trans (u.arr_at k hk6)
          by_cases hv : v.at k = u.at k
          · have HM := hide (mix_same v u k hk1 hk6 hv)
            have HD := hide (show dif v u k = dif v u j by rw [HKJ.out]; rw [HKJ.out] at hv; exact dif_same hv)
            rw [hv] at c5
            clear hv
            generalize u.at k = a at *
            go_wp2_with (first
              | (refine wpList_load_blk rfl 50 (.tmp 5) rfl x rfl 50 (mixV v u k).arr _ HKX.out Try.underlying50 rfl sn_size ?_)
              | (refine wpList_load_blk rfl 50 (.tmp 6) rfl y rfl 50 u.arr _ HKY.out Try.underlying50 rfl sn_size ?_))
            go_quiet (fail)
            go_wp2
            go_roundw
            case rel => exact ⟨k + 1, k, rfl, hk6, by go_num, by rw [HD.out]; exact own_low HO.out (below_drewN (Below.refl _ _) _), by rw [HM.out]; exact HKX.out.drewN _, HKY.out.drewN _, below_drewN HB.out _⟩
            case measure => simp [intOf]; omega
          · have HM := hide (mix_put2 v u k hk1 hk6)
            have HD := hide (show dif v u k = dif v u j ++ [⟨(k : Int), u.at k⟩] by rw [HKJ.out]; rw [HKJ.out] at hv; exact dif_more hv)
            have hne : (v.at k == u.at k) = false := by simpa using hv
            have HUA := hide (u.arr_at k hk6)
            obtain ⟨a0, a1⟩ := HOA.out k
            have HLN := hide (show (dif v u j).length ≤ 6 from Nat.le_trans (dif_len v u j) (by have := HKJ.out; omega))
            clear hv
            generalize u.at k = a at *
            generalize v.at k = av at *
            have e1 : IntKind.u32.wrap a = a := IntWalk.u32_in _ (by omega)
            go_wp2_with (first
              | (refine wpList_load_blk rfl 50 (.tmp 5) rfl x rfl 50 (mixV v u k).arr _ HKX.out Try.underlying50 rfl sn_size ?_)
              | (refine wpList_load_blk rfl 50 (.tmp 6) rfl y rfl 50 u.arr _ HKY.out Try.underlying50 rfl sn_size ?_))
            go_quiet (fail)
            have HO2 := hide (own_low HO.out (below_drewN (Below.refl wr.heap.size wr) nq))
            have HKX2 := hide (HKX.out.drewN nq)
            have HKY2 := hide (HKY.out.drewN nq)
            have HB2 := hide (below_drewN HB.out nq)
            have d6 : (wr.drewN nq).cell? ⟨y, k, none⟩ = some (.int .i64 a) := c6
            clear HO HKX HKY HB c5 c6 hq
            generalize wr.drewN nq = wq at *
            have HP := hide (pl_blk (l := [⟨(k : Int), a⟩]) (BlkIs.new wq 47 #[.int .u16 (k : Int), .int .u32 a]) (by unfold maxLen; simp))
            have HO3 := hide (own_low HO2.out (bel1 wq (.cells #[.int .u16 (k : Int), .int .u32 a] 47)))
            have HB3 := hide (HB2.out.alloc (by have := HB2.out.size; have := HG.out; omega) (.cells #[.int .u16 (k : Int), .int .u32 a] 47))
            have HAX := hide (own_apart HO2.out HKX2.out (by decide))
            have HAY := hide (own_apart HO2.out HKY2.out (by decide))
            go_upto_region 10 with (at_builtin; refine wpList_append_pl _ rfl (.tmp 33) (.tmp 40) rfl g u7 (dif v u j).length (dif v u j) (by rfl) HO3.out (some ⟨wq.heap.size, 0, none⟩) 1 1 [⟨(k : Int), a⟩] (by rfl) HP.out (by have := HLN.out; omega) (by have := HB3.out.size; have := HG.out; omega) ?_; intro v1 w1 hown1 hg1; have HB4 := hide (own_bel HO3.out HB3.out (Nat.le_refl _) (by have := HG.out; omega) hg1); have HO4 := hide hown1; have HKX4 := hide (blk_grown (HKX2.out.alloc _) hg1 HAX.out); have HKY4 := hide (blk_grown (HKY2.out.alloc _) hg1 HAY.out); clear hown1 hg1)
            have HAX4 := hide (own_apart HO4.out HKX4.out (by decide))
            have d7 := (HKY4.out.cell k).trans (show u.arr[k]? = _ from HUA.out)
            have z7 := HKX4.out.frozen k
            have e7 := (HKX4.out.cell k).trans ((mixV v u k).arr_at k hk6)
            rw [← HD.out] at HO4
            clear d6 e1
            go_wp2
            go_roundw
            case rel => exact ⟨k + 1, k, rfl, hk6, by go_num, by rw [show (dif v u k).length = (dif v u j).length + 1 by rw [HD.out]; simp]; exact own_kb HO4.out ((KB.refl (· = x) w1).setCell (fun _ => rfl) _) HAX4.out, by rw [← HM.out]; exact HKX4.out.put k _, HKY4.out.far (p := ⟨x, k, none⟩) (by exact Ne.symm NXY.out) _, HB4.out.setCell (by have := MX.out; simp; omega) _⟩
            case measure => simp [intOf]; omega
end Go.Proofs.Ytlcnenkfineddaa
