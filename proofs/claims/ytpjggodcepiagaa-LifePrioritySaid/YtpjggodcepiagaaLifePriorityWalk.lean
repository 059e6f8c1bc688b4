/-
  LifePriority: its walk (written by gen16prio.py).
-/
import Derived.Test.YtpjggodcepiagaaLfAwake
import Derived.Test.YtpjggodcepiagaaLifePriorityMem
import Derived.Test.YtpjggodcepiagaaRegW
import Derived.BigGuardPart
import Derived.Deep.CutRange
namespace Go.Proofs.Ytpjggodcepiagaa.lifePriority
set_option linter.unusedSimpArgs false
set_option linter.unusedVariables false
open Go.RowKit

theorem run_is {s0 : Int} {l : List Ev} {s1 c : Int} {n d : Bool} {N : Nat} (h : runR s0 l = (⟨s1, c, n, d⟩, N)) (w : World) {A : Option Addr} {m cp : Nat} (hl : EL w A m cp l) (hm : (m : Int) ≤ 1000000) :
    Calls Try.prog 14 #[.int .u8 s0, .slice A m cp] w fun e w' => e = .returned (.tuple #[.int .u8 s1, .agg #[.int .u32 c, .bool n, .bool d], .int .i64 (N : Int)]) ∧ Below w.heap.size w w' := by
  have := lf_Run A m cp l s0 w hl hm
  rw [h] at this
  exact this
theorem ev_sz : (Try.prog.info? 30).map (·.size) = some 2 := by kernel_rfl

set_option maxRecDepth 100000 in
set_option maxHeartbeats 6400000 in
theorem walk_at (a0 : Int) (A : Option Addr) (m cp : Nat) (l : List Ev) (a2 : Int) (w : World) (h0 : 0 ≤ a0) (hl : EL w A m cp l) (ha : AllE l) (h2 : 0 ≤ a2) (h2' : a2 ≤ 255) :
    Calls Try.prog 6 #[.int .u8 a0, .slice A m cp, .int .u8 a2] w fun e w' => e = .returned (.bool true) ∧ Below w.heap.size w w' := by
  have HAW := hide (fun w => aw_life w)
  have HL := hide hl
  by_cases hm : (m : Int) ≤ 60
  · have hm' : ¬ (60 : Int) < (m : Int) := by omega
    have HALL := hide ha
    have HM := hide hm
    obtain ⟨g, hg⟩ : ∃ g, g = w.heap.size := ⟨_, rfl⟩
    have HG := hide hg
    obtain ⟨ks, hks⟩ : ∃ ks : List Ev, ks = l.map (fun x => ⟨x.k % 8, x.b⟩) := ⟨_, rfl⟩
    have HKD := hide hks
    clear hl ha hg hks
    go_enter Try.func6, Try.ntmps6
    go_wp2_with fail
    go_loopw [7, 8, 9] (fun s7 s8 s9 wr => ∃ (i : Nat) (va vm : Value), i ≤ m ∧ s9 = .int .i64 (i : Int) ∧ s7 = va ∧ s8 = vm ∧ LpR g w wr va vm i (2 * i) (ks.take i) (twice (ks.take i))) (fun _ _ s9 _ => m - (intOf s9).toNat)
    case atStart => exact ⟨0, _, _, by omega, rfl, rfl, rfl, by rw [HG.out]; exact LpR.start w⟩
    case round =>
      obtain ⟨i, va, vm, hi, rfl, rfl, rfl, hp⟩ := hrel
      have HP := hide hp
      have HLr := hide (HL.out.keep (show Below w.heap.size w wr by rw [← HG.out]; exact hp.bel))
      clear hp
      by_cases hlt : i < m
      · have hlt' : (i : Int) < (m : Int) := by omega
        obtain ⟨x, bk, off, hx, rfl, hbl, c0, c1⟩ := HLr.out.round hlt
        have hxk : 0 ≤ x.k := (HALL.out x (List.mem_of_getElem? hx)).1
        obtain ⟨k, hk⟩ : ∃ k : Int, k = x.k % 8 := ⟨_, rfl⟩
        have hkt : x.k.tmod 8 = k := by rw [Int.tmod_eq_emod_of_nonneg hxk, hk]
        have hkw : IntKind.u8.wrap k = k := by rw [IntKind.wrap_u8]; omega
        have HKS := hide (show ks.take (i + 1) = ks.take i ++ [⟨k, x.b⟩] by
          rw [HKD.out, List.take_add_one, List.getElem?_map, hx, hk]; rfl)
        have HTW := hide (show twice (ks.take i ++ [⟨k, x.b⟩]) = (twice (ks.take i) ++ [⟨4, x.b⟩]) ++ [⟨k, x.b⟩] from twice_snoc _ _)
        have hi60 : (i : Int) ≤ 60 := by have := HM.out; omega
        clear hx hk
        go_upto_region 7 with (fail)
        go_region
        clear hxk hkt hkw c0 c1 hbl HLr
        obtain ⟨b, hxb⟩ : ∃ b, b = x.b := ⟨_, rfl⟩
        rw [← hxb]
        rw [← hxb] at HKS HTW
        clear hxb
        have HZ7 := hide (Elt.new HP.out k b).drew
        have HP7 := hide (HP.out.alloc (.cells #[.int .u8 k, .bool b] 30)).drew
        obtain ⟨ze, hze⟩ : ∃ ze, ze = wr.heap.size := ⟨_, rfl⟩
        rw [← hze] at HZ7 ⊢
        generalize (wr.alloc (.cells #[.int .u8 k, .bool b] 30)).drew = wz at HZ7 HP7 ⊢
        clear hze HP
        have HZa := hide (HZ7.out.alloc (.cells #[.int .u8 k, .bool b] 30))
        have HPa := hide (HP7.out.alloc (.cells #[.int .u8 k, .bool b] 30))
        have HDa := hide (Elt.new HP7.out k b)
        obtain ⟨xs, hxs⟩ : ∃ xs, xs = twice (ks.take i) := ⟨_, rfl⟩
        have HXS := hide hxs
        rw [← hxs] at HTW HP7 HPa
        clear hxs
        obtain ⟨tw, htw⟩ : ∃ tw, tw = 2 * i := ⟨_, rfl⟩
        have HTT := hide htw
        rw [← htw] at HP7 HPa
        have htw2 : (tw : Int) ≤ 200 := by omega
        have x0 := HZ7.out.blk.cell 0
        have x1 := HZ7.out.blk.cell 1
        simp only [List.getElem?_toArray, List.getElem?_cons_zero, List.getElem?_cons_succ] at x0 x1
        clear htw
        go_wp2_with (at_builtin; refine wpList_append_ev _ rfl (.tmp 46) (.tmp 48) rfl g _ i (ks.take i) rfl HPa.out.oa wz.heap.size k b rfl HDa.out.blk (by omega) HPa.out.size ?_; intro x8 cap8 w8 ho8 hg8 hx8; have HP8 := hide (HPa.out.growA hg8 ho8 hx8); have HZ8 := hide (Elt.growA (n' := i + 1) (cap := cap8) HPa.out HZa.out hg8 hx8); clear hg8 ho8 hx8)
        clear x0 x1 HZ7 HP7 HZa HPa HDa
        refine wp_region_noPanic ?_
        refine wp_region_held_drew (S := fun w' => BlkIs w' ze 30 #[.int .u8 k, .bool b]) (by kernel_rfl) HZ8.out.blk.drew (fun hS => ?_)
        have P0 := HP8.out.drew
        have Z0 := HZ8.out.drew
        generalize w8.drew = wd at hS P0 Z0 ⊢
        refine wpAnyH_take (i := 0) (v := ?_) (by simp only [List.getElem?_toArray, List.getElem?_cons_succ, List.getElem?_cons_zero] <;> exact rfl) (by kernel_rfl) (by kernel_rfl) (by kernel_rfl) (fun _ _ _ h => h) (Or.inl ⟨by rfl, ?_⟩) hS ?_
        rotate_left
        focus (intro w' hw'; go_simp; all_goals with_reducible rfl)
        try simp only [Act.put, List.setIfInBounds_toArray, List.set_cons_zero, List.set_cons_succ]
        refine wpAnyH_take (i := 1) (v := ?_) (by simp only [List.getElem?_toArray, List.getElem?_cons_succ, List.getElem?_cons_zero] <;> exact rfl) (by kernel_rfl) (by kernel_rfl) (by kernel_rfl) (fun _ _ _ h => h) (Or.inl ⟨by rfl, ?_⟩) hS ?_
        rotate_left
        focus (intro w' hw'; go_simp; all_goals with_reducible rfl)
        try simp only [Act.put, List.setIfInBounds_toArray, List.set_cons_zero, List.set_cons_succ]
        refine wpAnyH_take (i := 2) (v := ?_) (by simp only [List.getElem?_toArray, List.getElem?_cons_succ, List.getElem?_cons_zero] <;> exact rfl) (by kernel_rfl) (by kernel_rfl) (by kernel_rfl) (fun _ _ _ h => h) (Or.inl ⟨by rfl, ?_⟩) hS ?_
        rotate_left
        focus (intro w' hw'; have kk := hw'.cell 1; simp only [List.getElem?_toArray, List.getElem?_cons_zero, List.getElem?_cons_succ] at kk; go_simp; all_goals with_reducible rfl)
        try simp only [Act.put, List.setIfInBounds_toArray, List.set_cons_zero, List.set_cons_succ]
        refine wpAnyH_take (i := 3) (v := ?_) (by simp only [List.getElem?_toArray, List.getElem?_cons_succ, List.getElem?_cons_zero] <;> exact rfl) (by kernel_rfl) (by kernel_rfl) (by kernel_rfl) (fun _ _ _ h => h) (Or.inl ⟨by rfl, ?_⟩) hS ?_
        rotate_left
        focus (intro w' hw'; go_simp; all_goals with_reducible rfl)
        try simp only [Act.put, List.setIfInBounds_toArray, List.set_cons_zero, List.set_cons_succ]
        refine wpAnyH_take (i := 6) (by simp only [List.getElem?_toArray, List.getElem?_cons_succ, List.getElem?_cons_zero] <;> exact rfl) (by kernel_rfl) (by kernel_rfl) (by kernel_rfl) (fun _ _ _ h => h) (rgs_yields_blk (by rfl) 30 (.tmp 10) (by rfl) ze (by rfl) 30 #[.int .u8 k, .bool b] _ (fun w' hw' => hw') Try.underlying30 rfl ev_sz) hS ?_
        try simp only [Act.put, List.setIfInBounds_toArray, List.set_cons_zero, List.set_cons_succ]
        refine wpAnyH_ready (rs := [4, 7]) (by kernel_rfl) (by simp) ?_
        refine AllReadyH.cons (o := _) (by simp only [List.getElem?_toArray, List.getElem?_cons_succ, List.getElem?_cons_zero] <;> exact rfl) (fun K hK => ?_) ?_
        focus (
          go_simp
          have hS := hS.alloc (.cells #[.int .u8 4, .bool b] 30)
          refine hK.out _ _ hS (fun _ => ?_)
          have D1 := Elt.new P0 4 b
          have P1 := P0.alloc (.cells #[.int .u8 4, .bool b] 30)
          have Z1 := Z0.alloc (.cells #[.int .u8 4, .bool b] 30)
          obtain ⟨h1, qh1⟩ : ∃ g, g = wd.heap.size := ⟨_, rfl⟩
          rw [← qh1] at D1 ⊢
          generalize wd.alloc (.cells #[.int .u8 4, .bool b] 30) = wb1 at hS D1 P1 Z1 ⊢
          clear qh1
          clear hK K
          try simp only [Act.put, List.setIfInBounds_toArray, List.set_cons_zero, List.set_cons_succ]
          refine wpAnyH_ready (rs := [5, 7]) (by kernel_rfl) (by simp) ?_
          refine AllReadyH.cons (o := _) (by simp only [List.getElem?_toArray, List.getElem?_cons_succ, List.getElem?_cons_zero] <;> exact rfl) (fun K hK => ?_) ?_
          focus (
            refine step_append_ev wb1 (by rfl) (.tmp 50) (.tmp 54) (by rfl) g u8 tw xs (by rfl) P1.om h1 4 b (by rfl) D1.blk (by omega) P1.size ?_
            intro x2 cap2 wv2 ho2 hg2 hx2
            have P2 := P1.growM hg2 ho2 hx2
            have Z2 := Elt.growM (n' := tw + 1) (cap := cap2) P1 Z1 hg2 hx2
            have hS := Z2.blk
            refine hK.out _ _ hS (fun _ => ?_)
            clear hK K
            try simp only [Act.put, List.setIfInBounds_toArray, List.set_cons_zero, List.set_cons_succ]
            refine wpAnyH_ready (rs := [7]) (by kernel_rfl) (by simp) ?_
            refine AllReadyH.cons (o := _) (by simp only [List.getElem?_toArray, List.getElem?_cons_succ, List.getElem?_cons_zero] <;> exact rfl) (fun K hK => ?_) ?_
            focus (
              go_simp
              have hS := hS.alloc (.cells #[.int .u8 k, .bool b] 30)
              refine hK.out _ _ hS (fun _ => ?_)
              have D3 := Elt.new P2 k b
              have P3 := P2.alloc (.cells #[.int .u8 k, .bool b] 30)
              have Z3 := Z2.alloc (.cells #[.int .u8 k, .bool b] 30)
              obtain ⟨h2, qh2⟩ : ∃ g, g = wv2.heap.size := ⟨_, rfl⟩
              rw [← qh2] at D3 ⊢
              generalize wv2.alloc (.cells #[.int .u8 k, .bool b] 30) = wb3 at hS D3 P3 Z3 ⊢
              clear qh2
              clear hK K
              try simp only [Act.put, List.setIfInBounds_toArray, List.set_cons_zero, List.set_cons_succ]
              refine wpAnyH_ready (rs := [8]) (by kernel_rfl) (by simp) ?_
              refine AllReadyH.cons (o := _) (by simp only [List.getElem?_toArray, List.getElem?_cons_succ, List.getElem?_cons_zero] <;> exact rfl) (fun K hK => ?_) ?_
              focus (
                refine step_append_ev wb3 (by rfl) (.tmp 55) (.tmp 57) (by rfl) g (.slice (some ⟨x2, 0, none⟩) (tw + 1) cap2) (tw + 1) (xs ++ [⟨4, b⟩]) (by rfl) P3.om h2 k b (by rfl) D3.blk (by omega) P3.size ?_
                intro x4 cap4 wv4 ho4 hg4 hx4
                have P4 := P3.growM hg4 ho4 hx4
                have Z4 := Elt.growM (n' := (tw + 1) + 1) (cap := cap4) P3 Z3 hg4 hx4
                have hS := Z4.blk
                refine hK.out _ _ hS (fun _ => ?_)
                clear hK K
                try simp only [Act.put, List.setIfInBounds_toArray, List.set_cons_zero, List.set_cons_succ]
                refine wpAnyH_take (i := 9) (v := ?_) (by simp only [List.getElem?_toArray, List.getElem?_cons_succ, List.getElem?_cons_zero] <;> exact rfl) (by kernel_rfl) (by kernel_rfl) (by kernel_rfl) (fun _ _ _ h => h) (Or.inl ⟨by rfl, ?_⟩) hS ?_
                rotate_left
                focus (intro w' hw'; go_simp; all_goals with_reducible rfl)
                try simp only [Act.put, List.setIfInBounds_toArray, List.set_cons_zero, List.set_cons_succ]
                refine wpAnyH_done (by kernel_rfl) ?_ _
                refine NoPanic.normal ?_
                have PF := hide P4
                clear Z4 hS
                go_wp2
                go_roundw
                case rel => have hm2 := HM.out; exact ⟨i + 1, _, _, by omega, by go_num, rfl, rfl, by have h := PF.out; rw [HKS.out, HTW.out]; rw [show 2 * (i + 1) = tw + 1 + 1 by have := HTT.out; omega]; exact h⟩
                case measure => have hm2 := HM.out; simp [intOf]; omega)
              exact AllReadyH.nil)
            exact AllReadyH.nil)
          refine AllReadyH.cons (o := _) (by simp only [List.getElem?_toArray, List.getElem?_cons_succ, List.getElem?_cons_zero] <;> exact rfl) (fun K hK => ?_) ?_
          focus (
            go_simp
            have hS := hS.alloc (.cells #[.int .u8 k, .bool b] 30)
            refine hK.out _ _ hS (fun _ => ?_)
            have D5 := Elt.new P1 k b
            have P5 := P1.alloc (.cells #[.int .u8 k, .bool b] 30)
            have Eh15 := D1.alloc (.cells #[.int .u8 k, .bool b] 30)
            have Z5 := Z1.alloc (.cells #[.int .u8 k, .bool b] 30)
            obtain ⟨h2, qh2⟩ : ∃ g, g = wb1.heap.size := ⟨_, rfl⟩
            rw [← qh2] at D5 ⊢
            generalize wb1.alloc (.cells #[.int .u8 k, .bool b] 30) = wb5 at hS D5 P5 Eh15 Z5 ⊢
            clear qh2
            clear hK K
            try simp only [Act.put, List.setIfInBounds_toArray, List.set_cons_zero, List.set_cons_succ]
            refine wpAnyH_ready (rs := [5]) (by kernel_rfl) (by simp) ?_
            refine AllReadyH.cons (o := _) (by simp only [List.getElem?_toArray, List.getElem?_cons_succ, List.getElem?_cons_zero] <;> exact rfl) (fun K hK => ?_) ?_
            focus (
              refine step_append_ev wb5 (by rfl) (.tmp 50) (.tmp 54) (by rfl) g u8 tw xs (by rfl) P5.om h1 4 b (by rfl) Eh15.blk (by omega) P5.size ?_
              intro x6 cap6 wv6 ho6 hg6 hx6
              have P6 := P5.growM hg6 ho6 hx6
              have Eh26 := Elt.growM (n' := tw + 1) (cap := cap6) P5 D5 hg6 hx6
              have Z6 := Elt.growM (n' := tw + 1) (cap := cap6) P5 Z5 hg6 hx6
              have hS := Z6.blk
              refine hK.out _ _ hS (fun _ => ?_)
              clear hK K
              try simp only [Act.put, List.setIfInBounds_toArray, List.set_cons_zero, List.set_cons_succ]
              refine wpAnyH_ready (rs := [8]) (by kernel_rfl) (by simp) ?_
              refine AllReadyH.cons (o := _) (by simp only [List.getElem?_toArray, List.getElem?_cons_succ, List.getElem?_cons_zero] <;> exact rfl) (fun K hK => ?_) ?_
              focus (
                refine step_append_ev wv6 (by rfl) (.tmp 55) (.tmp 57) (by rfl) g (.slice (some ⟨x6, 0, none⟩) (tw + 1) cap6) (tw + 1) (xs ++ [⟨4, b⟩]) (by rfl) P6.om h2 k b (by rfl) Eh26.blk (by omega) P6.size ?_
                intro x7 cap7 wv7 ho7 hg7 hx7
                have P7 := P6.growM hg7 ho7 hx7
                have Z7 := Elt.growM (n' := (tw + 1) + 1) (cap := cap7) P6 Z6 hg7 hx7
                have hS := Z7.blk
                refine hK.out _ _ hS (fun _ => ?_)
                clear hK K
                try simp only [Act.put, List.setIfInBounds_toArray, List.set_cons_zero, List.set_cons_succ]
                refine wpAnyH_take (i := 9) (v := ?_) (by simp only [List.getElem?_toArray, List.getElem?_cons_succ, List.getElem?_cons_zero] <;> exact rfl) (by kernel_rfl) (by kernel_rfl) (by kernel_rfl) (fun _ _ _ h => h) (Or.inl ⟨by rfl, ?_⟩) hS ?_
                rotate_left
                focus (intro w' hw'; go_simp; all_goals with_reducible rfl)
                try simp only [Act.put, List.setIfInBounds_toArray, List.set_cons_zero, List.set_cons_succ]
                refine wpAnyH_done (by kernel_rfl) ?_ _
                refine NoPanic.normal ?_
                have PF := hide P7
                clear Z7 hS
                go_wp2
                go_roundw
                case rel => have hm2 := HM.out; exact ⟨i + 1, _, _, by omega, by go_num, rfl, rfl, by have h := PF.out; rw [HKS.out, HTW.out]; rw [show 2 * (i + 1) = tw + 1 + 1 by have := HTT.out; omega]; exact h⟩
                case measure => have hm2 := HM.out; simp [intOf]; omega)
              exact AllReadyH.nil)
            exact AllReadyH.nil)
          exact AllReadyH.nil)
        refine AllReadyH.cons (o := _) (by simp only [List.getElem?_toArray, List.getElem?_cons_succ, List.getElem?_cons_zero] <;> exact rfl) (fun K hK => ?_) ?_
        focus (
          go_simp
          have hS := hS.alloc (.cells #[.int .u8 k, .bool b] 30)
          refine hK.out _ _ hS (fun _ => ?_)
          have D8 := Elt.new P0 k b
          have P8 := P0.alloc (.cells #[.int .u8 k, .bool b] 30)
          have Z8 := Z0.alloc (.cells #[.int .u8 k, .bool b] 30)
          obtain ⟨h2, qh2⟩ : ∃ g, g = wd.heap.size := ⟨_, rfl⟩
          rw [← qh2] at D8 ⊢
          generalize wd.alloc (.cells #[.int .u8 k, .bool b] 30) = wb8 at hS D8 P8 Z8 ⊢
          clear qh2
          clear hK K
          try simp only [Act.put, List.setIfInBounds_toArray, List.set_cons_zero, List.set_cons_succ]
          refine wpAnyH_ready (rs := [4]) (by kernel_rfl) (by simp) ?_
          refine AllReadyH.cons (o := _) (by simp only [List.getElem?_toArray, List.getElem?_cons_succ, List.getElem?_cons_zero] <;> exact rfl) (fun K hK => ?_) ?_
          focus (
            go_simp
            have hS := hS.alloc (.cells #[.int .u8 4, .bool b] 30)
            refine hK.out _ _ hS (fun _ => ?_)
            have D9 := Elt.new P8 4 b
            have P9 := P8.alloc (.cells #[.int .u8 4, .bool b] 30)
            have Eh29 := D8.alloc (.cells #[.int .u8 4, .bool b] 30)
            have Z9 := Z8.alloc (.cells #[.int .u8 4, .bool b] 30)
            obtain ⟨h1, qh1⟩ : ∃ g, g = wb8.heap.size := ⟨_, rfl⟩
            rw [← qh1] at D9 ⊢
            generalize wb8.alloc (.cells #[.int .u8 4, .bool b] 30) = wb9 at hS D9 P9 Eh29 Z9 ⊢
            clear qh1
            clear hK K
            try simp only [Act.put, List.setIfInBounds_toArray, List.set_cons_zero, List.set_cons_succ]
            refine wpAnyH_ready (rs := [5]) (by kernel_rfl) (by simp) ?_
            refine AllReadyH.cons (o := _) (by simp only [List.getElem?_toArray, List.getElem?_cons_succ, List.getElem?_cons_zero] <;> exact rfl) (fun K hK => ?_) ?_
            focus (
              refine step_append_ev wb9 (by rfl) (.tmp 50) (.tmp 54) (by rfl) g u8 tw xs (by rfl) P9.om h1 4 b (by rfl) D9.blk (by omega) P9.size ?_
              intro x10 cap10 wv10 ho10 hg10 hx10
              have P10 := P9.growM hg10 ho10 hx10
              have Eh210 := Elt.growM (n' := tw + 1) (cap := cap10) P9 Eh29 hg10 hx10
              have Z10 := Elt.growM (n' := tw + 1) (cap := cap10) P9 Z9 hg10 hx10
              have hS := Z10.blk
              refine hK.out _ _ hS (fun _ => ?_)
              clear hK K
              try simp only [Act.put, List.setIfInBounds_toArray, List.set_cons_zero, List.set_cons_succ]
              refine wpAnyH_ready (rs := [8]) (by kernel_rfl) (by simp) ?_
              refine AllReadyH.cons (o := _) (by simp only [List.getElem?_toArray, List.getElem?_cons_succ, List.getElem?_cons_zero] <;> exact rfl) (fun K hK => ?_) ?_
              focus (
                refine step_append_ev wv10 (by rfl) (.tmp 55) (.tmp 57) (by rfl) g (.slice (some ⟨x10, 0, none⟩) (tw + 1) cap10) (tw + 1) (xs ++ [⟨4, b⟩]) (by rfl) P10.om h2 k b (by rfl) Eh210.blk (by omega) P10.size ?_
                intro x11 cap11 wv11 ho11 hg11 hx11
                have P11 := P10.growM hg11 ho11 hx11
                have Z11 := Elt.growM (n' := (tw + 1) + 1) (cap := cap11) P10 Z10 hg11 hx11
                have hS := Z11.blk
                refine hK.out _ _ hS (fun _ => ?_)
                clear hK K
                try simp only [Act.put, List.setIfInBounds_toArray, List.set_cons_zero, List.set_cons_succ]
                refine wpAnyH_take (i := 9) (v := ?_) (by simp only [List.getElem?_toArray, List.getElem?_cons_succ, List.getElem?_cons_zero] <;> exact rfl) (by kernel_rfl) (by kernel_rfl) (by kernel_rfl) (fun _ _ _ h => h) (Or.inl ⟨by rfl, ?_⟩) hS ?_
                rotate_left
                focus (intro w' hw'; go_simp; all_goals with_reducible rfl)
                try simp only [Act.put, List.setIfInBounds_toArray, List.set_cons_zero, List.set_cons_succ]
                refine wpAnyH_done (by kernel_rfl) ?_ _
                refine NoPanic.normal ?_
                have PF := hide P11
                clear Z11 hS
                go_wp2
                go_roundw
                case rel => have hm2 := HM.out; exact ⟨i + 1, _, _, by omega, by go_num, rfl, rfl, by have h := PF.out; rw [HKS.out, HTW.out]; rw [show 2 * (i + 1) = tw + 1 + 1 by have := HTT.out; omega]; exact h⟩
                case measure => have hm2 := HM.out; simp [intOf]; omega)
              exact AllReadyH.nil)
            exact AllReadyH.nil)
          exact AllReadyH.nil)
        exact AllReadyH.nil
      · have hge : ¬ (i : Int) < (m : Int) := by omega
        have him : i = m := by omega
        have hlen : ks.length = m := by rw [HKD.out, List.length_map, HL.out.len]
        have hke : ks.take i = ks := by rw [him, ← hlen, List.take_length]
        have hp := HP.out
        rw [hke, him] at hp
        obtain ⟨A7, c7, e7, hw7⟩ := own_evs hp.oa
        obtain ⟨A8, c8, e8, hw8⟩ := own_evs hp.om
        subst e7 e8
        subst him
        have HL7 := hide hw7
        have HL8 := hide hw8
        have HBw := hide (show Below w.heap.size w wr by rw [← HG.out]; exact hp.bel)
        clear hw7 hw8 hp HP HLr hke hi hlt
        obtain ⟨kk, hkk⟩ : ∃ kk : Nat, (kk : Int) = a2.tmod ((i : Int) + 1) := ⟨(a2.tmod ((i : Int) + 1)).toNat, by rw [Int.toNat_of_nonneg]; rw [Int.tmod_eq_emod_of_nonneg h2]; exact Int.emod_nonneg _ (by omega)⟩
        have HKM := hide (show kk ≤ i by have h := Int.emod_lt_of_pos a2 (show (0 : Int) < (i : Int) + 1 by omega); rw [Int.tmod_eq_emod_of_nonneg h2] at hkk; omega)
        have hkk2 := hkk.symm
        have hmz : ((i : Int) + 1 == 0) = false := by simp; omega
        obtain ⟨s6, hs6⟩ : ∃ s6 : Int, s6 = a0 % 6 := ⟨_, rfl⟩
        have hst : a0.tmod 6 = s6 := by rw [Int.tmod_eq_emod_of_nonneg h0, hs6]
        have hsw : IntKind.u8.wrap s6 = s6 := by rw [IntKind.wrap_u8]; omega
        have haw : IntKind.i64.wrap a2 = a2 := by rw [IntKind.wrap_i64]; omega
        have hkn : ∀ x ∈ ks, 0 ≤ x.k := by rw [HKD.out]; intro x hx; obtain ⟨y, _, rfl⟩ := List.mem_map.1 hx; show 0 ≤ y.k % 8; omega
        have hw := run_ways ks s6 (by omega) (by omega) hkn kk (by rw [hlen]; exact HKM.out)
        rw [hlen] at hw
        have hi60 : (i : Int) ≤ 60 := HM.out
        have hkm : (kk : Int) ≤ (i : Int) := by have := HKM.out; omega
        clear hkn hlen hkk hs6
        rcases hw with ⟨s1, c, n, d, N, hc, hN, e1, e2, e3⟩ | ⟨s1, c, n, d, N, sk, hc, hkN, hN, e1, e2, e3, e4⟩ | ⟨s1, sk, e1, e2, e3, e4⟩
        · have hNm : (N : Int) < (i : Int) := by have := HKM.out; omega
          have hNk : (N : Int) < (kk : Int) := by omega
          have hne : ((N : Int) == (i : Int)) = false := by simp; omega
          have hcz : (c == 0) = false := by simpa using hc
          have hcc : (c == c) = true := beq_self_eq_true c
          have hss : (s1 == s1) = true := beq_self_eq_true s1
          have hNN : ((N : Int) == (N : Int)) = true := beq_self_eq_true _
          obtain ⟨M, hM⟩ : ∃ M : Nat, M = 2 * N + 1 := ⟨_, rfl⟩
          rw [← hM] at e2
          have hM2 : ((M : Int) != 2 * (N : Int) + 1) = false := by simp; omega
          clear hM hc hN
          have HR1 := hide (fun w' (h : EL w' A7 i c7 ks) => run_is e1 w' h (by omega))
          have HR2 := hide (fun w' (h : EL w' A8 (2 * i) c8 (twice ks)) => run_is e2 w' h (by omega))
          have HR3 := hide (fun w' (h : EL w' A7 kk c7 (ks.take kk)) => run_is e3 w' h (by omega))
          clear e1 e2 e3
          go_wp2_with fail
          refine (HR1.out _ HL7.out).mono ?_
          rintro e x1 ⟨rfl, hb⟩
          have HB1 := hide ((HBw.out.trans (hb.mono HBw.out.size)).alloc (HBw.out.trans (hb.mono HBw.out.size)).size (.cells #[.int .u32 c, .bool n, .bool d] 27))
          have HA1 := hide ((HL7.out.keep hb).alloc (.cells #[.int .u32 c, .bool n, .bool d] 27))
          have HM1 := hide ((HL8.out.keep hb).alloc (.cells #[.int .u32 c, .bool n, .bool d] 27))
          have K1 := hide (BlkIs.new x1 27 #[.int .u32 c, .bool n, .bool d])
          clear hb HBw HL7 HL8 HR1
          go_wp2_with fail
          refine (HR2.out _ HM1.out).mono ?_
          rintro e x2 ⟨rfl, hb⟩
          have HB2 := hide ((HB1.out.trans (hb.mono HB1.out.size)).alloc (HB1.out.trans (hb.mono HB1.out.size)).size (.cells #[.int .u32 c, .bool n, .bool d] 27))
          have HA2 := hide ((HA1.out.keep hb).alloc (.cells #[.int .u32 c, .bool n, .bool d] 27))
          have K12 := hide ((K1.out.keep hb).alloc (.cells #[.int .u32 c, .bool n, .bool d] 27))
          have K2 := hide (BlkIs.new x2 27 #[.int .u32 c, .bool n, .bool d])
          clear hb HB1 HA1 HM1 K1 HR2
          have hs3 := (slice_head HA2.out kk HKM.out).1
          have HH := hide (slice_head HA2.out kk HKM.out).2
          go_wp2_with fail
          refine (HR3.out _ HH.out).mono ?_
          rintro e x3 ⟨rfl, hb⟩
          have HB3 := hide ((HB2.out.trans (hb.mono HB2.out.size)).alloc (HB2.out.trans (hb.mono HB2.out.size)).size (.cells #[.int .u32 c, .bool n, .bool d] 27))
          have HA3 := hide ((HA2.out.keep hb).alloc (.cells #[.int .u32 c, .bool n, .bool d] 27))
          have K13 := hide ((K12.out.keep hb).alloc (.cells #[.int .u32 c, .bool n, .bool d] 27))
          have K23 := hide ((K2.out.keep hb).alloc (.cells #[.int .u32 c, .bool n, .bool d] 27))
          have K3 := hide (BlkIs.new x3 27 #[.int .u32 c, .bool n, .bool d])
          clear hb HB2 HA2 K12 K2 HR3 HH hs3
          obtain ⟨a0_, a1_, a2_⟩ := vcells K13.out
          obtain ⟨b0_, b1_, b2_⟩ := vcells K23.out
          obtain ⟨d0_, d1_, d2_⟩ := vcells K3.out
          go_wp2_with fail
          refine (HAW.out _).mono ?_
          rintro e w9 ⟨rfl, hb9⟩
          have HB9 := hide (HB3.out.trans (hb9.mono HB3.out.size))
          clear hb9
          go_wp2
          go_ret
          exact ⟨rfl, HB9.out⟩
        · have hNm : (N : Int) < (i : Int) := by omega
          have hNk : ¬ (N : Int) < (kk : Int) := by omega
          have hne : ((N : Int) == (i : Int)) = false := by simp; omega
          have hcz : (c == 0) = false := by simpa using hc
          have hcc : (c == c) = true := beq_self_eq_true c
          have hss : (s1 == s1) = true := beq_self_eq_true s1
          have hkk3 : ((kk : Int) == (kk : Int)) = true := beq_self_eq_true _
          obtain ⟨j, hj⟩ : ∃ j : Nat, j = N - kk := ⟨_, rfl⟩
          rw [← hj] at e4
          have hj2 : ((j : Int) == (N : Int) - (kk : Int)) = true := by simp; omega
          obtain ⟨M, hM⟩ : ∃ M : Nat, M = 2 * N + 1 := ⟨_, rfl⟩
          rw [← hM] at e2
          have hM2 : ((M : Int) != 2 * (N : Int) + 1) = false := by simp; omega
          clear hM hc hN hj hkN
          have HR1 := hide (fun w' (h : EL w' A7 i c7 ks) => run_is e1 w' h (by omega))
          have HR2 := hide (fun w' (h : EL w' A8 (2 * i) c8 (twice ks)) => run_is e2 w' h (by omega))
          have HR3 := hide (fun w' (h : EL w' A7 kk c7 (ks.take kk)) => run_is e3 w' h (by omega))
          have HR4 := hide (fun w' Q c' (h : EL w' Q (i - kk) c' (ks.drop kk)) => run_is e4 w' h (by omega))
          clear e1 e2 e3 e4
          go_wp2_with fail
          refine (HR1.out _ HL7.out).mono ?_
          rintro e x1 ⟨rfl, hb⟩
          have HB1 := hide ((HBw.out.trans (hb.mono HBw.out.size)).alloc (HBw.out.trans (hb.mono HBw.out.size)).size (.cells #[.int .u32 c, .bool n, .bool d] 27))
          have HA1 := hide ((HL7.out.keep hb).alloc (.cells #[.int .u32 c, .bool n, .bool d] 27))
          have HM1 := hide ((HL8.out.keep hb).alloc (.cells #[.int .u32 c, .bool n, .bool d] 27))
          have K1 := hide (BlkIs.new x1 27 #[.int .u32 c, .bool n, .bool d])
          clear hb HBw HL7 HL8 HR1
          go_wp2_with fail
          refine (HR2.out _ HM1.out).mono ?_
          rintro e x2 ⟨rfl, hb⟩
          have HB2 := hide ((HB1.out.trans (hb.mono HB1.out.size)).alloc (HB1.out.trans (hb.mono HB1.out.size)).size (.cells #[.int .u32 c, .bool n, .bool d] 27))
          have HA2 := hide ((HA1.out.keep hb).alloc (.cells #[.int .u32 c, .bool n, .bool d] 27))
          have K12 := hide ((K1.out.keep hb).alloc (.cells #[.int .u32 c, .bool n, .bool d] 27))
          have K2 := hide (BlkIs.new x2 27 #[.int .u32 c, .bool n, .bool d])
          clear hb HB1 HA1 HM1 K1 HR2
          have hs3 := (slice_head HA2.out kk HKM.out).1
          have HH := hide (slice_head HA2.out kk HKM.out).2
          go_wp2_with fail
          refine (HR3.out _ HH.out).mono ?_
          rintro e x3 ⟨rfl, hb⟩
          have HB3 := hide ((HB2.out.trans (hb.mono HB2.out.size)).alloc (HB2.out.trans (hb.mono HB2.out.size)).size (.cells #[.int .u32 0, .bool false, .bool false] 27))
          have HA3 := hide ((HA2.out.keep hb).alloc (.cells #[.int .u32 0, .bool false, .bool false] 27))
          have K13 := hide ((K12.out.keep hb).alloc (.cells #[.int .u32 0, .bool false, .bool false] 27))
          have K23 := hide ((K2.out.keep hb).alloc (.cells #[.int .u32 0, .bool false, .bool false] 27))
          have K3 := hide (BlkIs.new x3 27 #[.int .u32 0, .bool false, .bool false])
          clear hb HB2 HA2 K12 K2 HR3 HH hs3
          obtain ⟨a0_, a1_, a2_⟩ := vcells K13.out
          obtain ⟨b0_, b1_, b2_⟩ := vcells K23.out
          obtain ⟨d0_, d1_, d2_⟩ := vcells K3.out
          obtain ⟨Q, c9, hs4, hq⟩ := slice_tail HA3.out kk HKM.out
          have HQ := hide hq
          clear hq
          go_wp2_with fail
          refine (HR4.out _ _ _ HQ.out).mono ?_
          rintro e x4 ⟨rfl, hb⟩
          have HB4 := hide ((HB3.out.trans (hb.mono HB3.out.size)).alloc (HB3.out.trans (hb.mono HB3.out.size)).size (.cells #[.int .u32 c, .bool n, .bool d] 27))
          have K14 := hide ((K13.out.keep hb).alloc (.cells #[.int .u32 c, .bool n, .bool d] 27))
          have K34 := hide ((K3.out.keep hb).alloc (.cells #[.int .u32 c, .bool n, .bool d] 27))
          have K4 := hide (BlkIs.new x4 27 #[.int .u32 c, .bool n, .bool d])
          clear hb HB3 HA3 K13 K23 K3 HR4 HQ hs4 a0_ a1_ a2_ b0_ b1_ b2_ d0_ d1_ d2_
          obtain ⟨a0_, a1_, a2_⟩ := vcells K14.out
          obtain ⟨d0_, d1_, d2_⟩ := vcells K34.out
          obtain ⟨f0_, f1_, f2_⟩ := vcells K4.out
          go_wp2_with fail
          refine (HAW.out _).mono ?_
          rintro e w9 ⟨rfl, hb9⟩
          have HB9 := hide (HB4.out.trans (hb9.mono HB4.out.size))
          clear hb9
          go_wp2
          go_ret
          exact ⟨rfl, HB9.out⟩
        · have hNk : ¬ (i : Int) < (kk : Int) := by omega
          have hii : ((i : Int) == (i : Int)) = true := beq_self_eq_true _
          have hss : (s1 == s1) = true := beq_self_eq_true s1
          have hkk3 : ((kk : Int) == (kk : Int)) = true := beq_self_eq_true _
          obtain ⟨j, hj⟩ : ∃ j : Nat, j = i - kk := ⟨_, rfl⟩
          have hj2 : ((j : Int) == (i : Int) - (kk : Int)) = true := by have := HKM.out; simp; omega
          have e4 : runR sk (ks.drop kk) = (⟨s1, 0, false, false⟩, j) := by rw [hj]; exact e4
          clear hj
          have HR1 := hide (fun w' (h : EL w' A7 i c7 ks) => run_is e1 w' h (by omega))
          have HR2 := hide (fun w' (h : EL w' A8 (2 * i) c8 (twice ks)) => run_is e2 w' h (by omega))
          have HR3 := hide (fun w' (h : EL w' A7 kk c7 (ks.take kk)) => run_is e3 w' h (by omega))
          have HR4 := hide (fun w' Q c' (h : EL w' Q (i - kk) c' (ks.drop kk)) => run_is e4 w' h (by omega))
          clear e1 e2 e3 e4
          go_wp2_with fail
          refine (HR1.out _ HL7.out).mono ?_
          rintro e x1 ⟨rfl, hb⟩
          have HB1 := hide ((HBw.out.trans (hb.mono HBw.out.size)).alloc (HBw.out.trans (hb.mono HBw.out.size)).size (.cells #[.int .u32 0, .bool false, .bool false] 27))
          have HA1 := hide ((HL7.out.keep hb).alloc (.cells #[.int .u32 0, .bool false, .bool false] 27))
          have HM1 := hide ((HL8.out.keep hb).alloc (.cells #[.int .u32 0, .bool false, .bool false] 27))
          have K1 := hide (BlkIs.new x1 27 #[.int .u32 0, .bool false, .bool false])
          clear hb HBw HL7 HL8 HR1
          go_wp2_with fail
          refine (HR2.out _ HM1.out).mono ?_
          rintro e x2 ⟨rfl, hb⟩
          have HB2 := hide ((HB1.out.trans (hb.mono HB1.out.size)).alloc (HB1.out.trans (hb.mono HB1.out.size)).size (.cells #[.int .u32 0, .bool false, .bool false] 27))
          have HA2 := hide ((HA1.out.keep hb).alloc (.cells #[.int .u32 0, .bool false, .bool false] 27))
          have K12 := hide ((K1.out.keep hb).alloc (.cells #[.int .u32 0, .bool false, .bool false] 27))
          have K2 := hide (BlkIs.new x2 27 #[.int .u32 0, .bool false, .bool false])
          clear hb HB1 HA1 HM1 K1 HR2
          have hs3 := (slice_head HA2.out kk HKM.out).1
          have HH := hide (slice_head HA2.out kk HKM.out).2
          go_wp2_with fail
          refine (HR3.out _ HH.out).mono ?_
          rintro e x3 ⟨rfl, hb⟩
          have HB3 := hide ((HB2.out.trans (hb.mono HB2.out.size)).alloc (HB2.out.trans (hb.mono HB2.out.size)).size (.cells #[.int .u32 0, .bool false, .bool false] 27))
          have HA3 := hide ((HA2.out.keep hb).alloc (.cells #[.int .u32 0, .bool false, .bool false] 27))
          have K13 := hide ((K12.out.keep hb).alloc (.cells #[.int .u32 0, .bool false, .bool false] 27))
          have K23 := hide ((K2.out.keep hb).alloc (.cells #[.int .u32 0, .bool false, .bool false] 27))
          have K3 := hide (BlkIs.new x3 27 #[.int .u32 0, .bool false, .bool false])
          clear hb HB2 HA2 K12 K2 HR3 HH hs3
          obtain ⟨a0_, a1_, a2_⟩ := vcells K13.out
          obtain ⟨b0_, b1_, b2_⟩ := vcells K23.out
          obtain ⟨d0_, d1_, d2_⟩ := vcells K3.out
          obtain ⟨Q, c9, hs4, hq⟩ := slice_tail HA3.out kk HKM.out
          have HQ := hide hq
          clear hq
          go_wp2_with fail
          refine (HR4.out _ _ _ HQ.out).mono ?_
          rintro e x4 ⟨rfl, hb⟩
          have HB4 := hide ((HB3.out.trans (hb.mono HB3.out.size)).alloc (HB3.out.trans (hb.mono HB3.out.size)).size (.cells #[.int .u32 0, .bool false, .bool false] 27))
          have K14 := hide ((K13.out.keep hb).alloc (.cells #[.int .u32 0, .bool false, .bool false] 27))
          have K34 := hide ((K3.out.keep hb).alloc (.cells #[.int .u32 0, .bool false, .bool false] 27))
          have K4 := hide (BlkIs.new x4 27 #[.int .u32 0, .bool false, .bool false])
          clear hb HB3 HA3 K13 K23 K3 HR4 HQ hs4 a0_ a1_ a2_ b0_ b1_ b2_ d0_ d1_ d2_
          obtain ⟨a0_, a1_, a2_⟩ := vcells K14.out
          obtain ⟨d0_, d1_, d2_⟩ := vcells K34.out
          obtain ⟨f0_, f1_, f2_⟩ := vcells K4.out
          go_wp2_with fail
          refine (HAW.out _).mono ?_
          rintro e w9 ⟨rfl, hb9⟩
          have HB9 := hide (HB4.out.trans (hb9.mono HB4.out.size))
          clear hb9
          go_wp2
          go_ret
          exact ⟨rfl, HB9.out⟩
  · have hm' : (60 : Int) < (m : Int) := by omega
    clear hl ha
    go_enter Try.func6, Try.ntmps6
    go_wp2_with fail
    refine (HAW.out _).mono ?_
    rintro e w4 ⟨rfl, hb4⟩
    have HB4 := hide hb4
    clear hb4
    go_wp2
    go_ret
    exact ⟨rfl, HB4.out⟩

theorem walk (a0 : Int) (A : Option Addr) (m cp : Nat) (l : List Ev) (a2 : Int) (w : World) (w0 : (Lit.int .u8 a0).wf = true) (hl : EL w A m cp l) (ha : AllE l) (w2 : (Lit.int .u8 a2).wf = true) :
    Calls Try.prog 6 #[.int .u8 a0, .slice A m cp, .int .u8 a2] w fun e w' => e = .returned (.bool true) ∧ Below w.heap.size w w' :=
  walk_at a0 A m cp l a2 w (bounds_u8 w0).1 hl ha (bounds_u8 w2).1 (bounds_u8 w2).2
end Go.Proofs.Ytpjggodcepiagaa.lifePriority
