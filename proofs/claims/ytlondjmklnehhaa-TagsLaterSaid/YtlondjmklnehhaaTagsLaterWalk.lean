/-
  TagsLater: its walk (written by gen25later.py).
-/
import Derived.Test.YtlondjmklnehhaaTagsLaterMath
import Derived.Test.YtlondjmklnehhaaTgAwake
import Derived.Test.YtlondjmklnehhaaTwoRows
import Derived.Lib.MinMax
import Derived.Deep.QuietTactic
import Derived.BigQuiet
namespace Go.Proofs.Ytlondjmklnehhaa.tagsLater
set_option linter.unusedSimpArgs false
set_option linter.unusedVariables false
open Go.RowKit

theorem take_snoc {C : List Int} {i : Nat} {x : Int} (h : C[i]? = some x) : C.take (i + 1) = C.take i ++ [x] := by rw [List.take_add_one, h]; rfl
theorem new_take (d : Int) {W8 : List Int} {i : Nat} {x : Int} (h : W8[i]? = some x) : newL d (W8.take (i + 1)) = newL d (W8.take i) ++ [⟨x, d, 0, 0⟩] := by
  rw [take_snoc h, newL, List.map_append]; rfl
theorem all_wf {l : List Int} (h : ∀ x ∈ l, 1 ≤ x ∧ x ≤ 65536) : AllN l := fun x hx => WalkArith.wf_i64 (by have := h x hx; omega)
theorem sum_take {C : List Int} {i : Nat} {x : Int} (h : C[i]? = some x) : (C.take (i + 1)).sum = (C.take i).sum + x := by rw [take_snoc h, List.sum_append]; simp
theorem sum_in {C : List Int} (h : ∀ x ∈ C, 1 ≤ x ∧ x ≤ 65536) : 0 ≤ C.sum ∧ C.sum ≤ 65536 * (C.length : Int) := by
  induction C with
  | nil => simp
  | cons x l ih =>
    have := h x (by simp)
    have := ih (fun y hy => h y (by simp [hy]))
    simp only [List.sum_cons, List.length_cons]
    omega

set_option maxRecDepth 100000 in
set_option maxHeartbeats 12800000 in
theorem walk (A : Option Addr) (n c : Nat) (zs : List Int) (B : Option Addr) (N d : Nat) (zt : List Int) (D : Int) (w : World) (hz : IsRow .u8 w A n c zs) (ht : IsRow .u16 w B N d zt) (hs : (Lit.int .u32 D).wf = true) :
    Calls Try.prog 6 #[.slice A n c, .slice B N d, .int .u32 D] w fun e w' => e = .returned (.bool true) ∧ Below w.heap.size w w' := by
  have HAW := hide aw_tags
  have hl := nl_of_row hz
  have hc := nl_of_row ht
  clear hz ht
  obtain ⟨wl, hwl⟩ : ∃ q, q = zs.take n := ⟨_, rfl⟩
  obtain ⟨cl, hcl⟩ : ∃ q, q = zt.take N := ⟨_, rfl⟩
  rw [← hwl] at hl
  rw [← hcl] at hc
  clear hwl hcl
  have HMX := hide hl.max
  have HLE := hide hl.le
  have HMC := hide hc.max
  have HLC := hide hc.le
  have HLN := hide hl.len
  have HLM := hide hc.len
  have HL := hide hl
  have HC := hide hc
  have HD := hide (bounds_u32 hs)
  clear hl hc hs
  by_cases hm : (n : Int) < 2
  · have km : decide ((n : Int) < 2) = true := decide_eq_true hm
    clear hm
    go_enter Try.func6, Try.ntmps6
    go_wp2_with fail
    refine (HAW.out _).mono ?_
    rintro e w9 ⟨rfl, hb⟩
    go_wp2_with fail
    go_ret
    exact ⟨rfl, hb⟩
  have km : decide ((n : Int) < 2) = false := decide_eq_false hm
  by_cases hn : 6 < (n : Int)
  · have kn : decide (6 < (n : Int)) = true := decide_eq_true hn
    clear hn hm
    go_enter Try.func6, Try.ntmps6
    go_wp2_with fail
    refine (HAW.out _).mono ?_
    rintro e w9 ⟨rfl, hb⟩
    go_wp2_with fail
    go_ret
    exact ⟨rfl, hb⟩
  have kn : decide (6 < (n : Int)) = false := decide_eq_false hn
  by_cases hN : 60 < (N : Int)
  · have kN : decide (60 < (N : Int)) = true := decide_eq_true hN
    clear hn hm hN
    go_enter Try.func6, Try.ntmps6
    go_wp2_with fail
    refine (HAW.out _).mono ?_
    rintro e w9 ⟨rfl, hb⟩
    go_wp2_with fail
    go_ret
    exact ⟨rfl, hb⟩
  have kN : decide (60 < (N : Int)) = false := decide_eq_false hN
  obtain ⟨W8, hW8⟩ : ∃ q, q = wl.map (fun x => 1 + x % 16) := ⟨_, rfl⟩
  obtain ⟨C, hC⟩ : ∃ q, q = cl.map (fun x => 1 + x) := ⟨_, rfl⟩
  have HWN := hide (show W8.length = n by rw [hW8, List.length_map, HLN.out])
  have HCN := hide (show C.length = N by rw [hC, List.length_map, HLM.out])
  have HWT := hide (show ∀ x ∈ W8, WtI x by intro x hx; rw [hW8] at hx; obtain ⟨y, _, rfl⟩ := List.mem_map.1 hx; exact ⟨by omega, by omega⟩)
  have HCT := hide (show ∀ x ∈ C, 1 ≤ x ∧ x ≤ 65536 by intro x hx; rw [hC] at hx; obtain ⟨y, hy, rfl⟩ := List.mem_map.1 hx; obtain ⟨k, hk, rfl⟩ := List.getElem_of_mem hy; obtain ⟨_, _, _, _, _, hwf⟩ := HC.out.at_ k _ (List.getElem?_eq_getElem hk); have := bounds_u16 hwf; omega)
  have HW8 := hide (show ∀ (i : Nat) (x : Int), wl[i]? = some x → W8[i]? = some (1 + x % 16) by intro i x h; subst hW8; simp [h])
  have HC8 := hide (show ∀ (i : Nat) (x : Int), cl[i]? = some x → C[i]? = some (1 + x) by intro i x h; subst hC; simp [h])
  have HN8 := hide (show n ≤ 6 by omega)
  have HN2 := hide (show 1 < n by omega)
  have HN80 := hide (show N ≤ 60 by omega)
  clear hn hm hN hW8 hC
  go_enter Try.func6, Try.ntmps6
  go_wp2_with fail
  clear kn km kN
  go_loopw [7, 8, 9] (fun s7 s8 s9 wr => ∃ i : Nat, i ≤ n ∧ s9 = .int .i64 (i : Int) ∧ Hid (TwR tgF tgF 24 24 w.heap.size w wr s7 s8 i i (newL 0 (W8.take i)) (newL D (W8.take i)))) (fun _ _ s9 _ => n - (intOf s9).toNat)
  case atStart => exact ⟨0, by omega, rfl, TwR.start w⟩
  case round =>
    obtain ⟨i, hi, rfl, HP⟩ := hrel
    by_cases h2 : i < n
    · have h2' : (i : Int) < (n : Int) := by omega
      have hn9 : (n : Int) ≤ 6 := by have := HN8.out; omega
      obtain ⟨x, b, off, hx, rfl, hbl, x0, hwf⟩ := (HL.out.keep HP.out.bel).round h2
      have hx0 := bounds_u8 hwf
      have HX := hide (HW8.out i x hx)
      obtain ⟨k, hk⟩ : ∃ k, x % 16 = k := ⟨_, rfl⟩
      have hk0 : 0 ≤ k ∧ k ≤ 15 := by omega
      rw [hk] at HX
      have e1 : x.tmod 16 = k := by rw [Int.tmod_eq_emod_of_nonneg hx0.1, hk]
      have e2 : IntKind.u8.wrap k = k := IntWalk.u8_in _ (by omega)
      have e3 : IntKind.i64.wrap k = k := IntWalk.i64_in _ (by omega)
      have e4 : IntKind.i64.wrap (1 + k) = 1 + k := IntWalk.i64_in _ (by omega)
      have QN := hide (fun w => tg_New (1 + k) w)
      rw [newT_yes (w := 1 + k) ⟨by omega, by omega⟩] at QN
      have HI := hide h2
      clear hx hwf hk hx0 hk0 hi
      go_wp2_with fail
      refine (QN.out _).mono ?_
      rintro e w1 ⟨rfl, hb⟩
      clear x0 e1 e2 e3 e4 QN
      have HP1 := hide (HP.out.keep hb)
      clear hb HP
      obtain ⟨y, hy⟩ : ∃ y : Tg, y = ⟨1 + k, 0, 0, 0⟩ := ⟨_, rfl⟩
      rw [← hy]
      have HY := hide hy
      clear hy
      obtain ⟨gv, hg⟩ : ∃ g, g = w1.heap.size := ⟨_, rfl⟩
      have GV := hide hg.symm
      have ZT2 := hide (show Apt (w1.alloc (.cells y.cs 24)) u7 u8 gv 24 y.cs by rw [hg]; exact Apt.new HP1.out 24 y.cs)
      have HP2 := hide (HP1.out.alloc (.cells y.cs 24))
      clear hg HP1
      go_upto_region 8 with (first | (refine wpList_store_new rfl 24 (.tmp 10) (.tmp 55) rfl y.cs _ 24 rfl rfl tg_size rfl (Tg.cs_one y) ?_))
      rw [GV.out]
      generalize w1.alloc (.cells y.cs 24) = w2 at *
      obtain ⟨gu, hg⟩ : ∃ g, g = w2.heap.size := ⟨_, rfl⟩
      have GU := hide hg.symm
      have ZU3 := hide (show Apt (w2.alloc (.cells y.cs 24)) u7 u8 gu 24 y.cs by rw [hg]; exact Apt.new HP2.out 24 y.cs)
      have ZT3 := hide (ZT2.out.alloc (.cells y.cs 24))
      have HP3 := hide (HP2.out.alloc (.cells y.cs 24))
      have HGU := hide (show w.heap.size ≤ gu by rw [hg]; exact HP2.out.size)
      have HNE := hide (show gv ≠ gu by have := ZT2.out.blk.lt; omega)
      clear hg HP2
      go_upto_region 11 with (first | (refine wpList_load_blk rfl 24 (.tmp 10) rfl gv rfl 24 y.cs _ ZT2.out.blk Try.underlying24 rfl tg_size ?_) | (refine wpList_store_new rfl 24 (.tmp 12) (.tmp 59) rfl y.cs _ 24 rfl rfl tg_size rfl (Tg.cs_one y) ?_))
      rw [GU.out]
      clear ZT2
      generalize w2.alloc (.cells y.cs 24) = w3 at *
      obtain ⟨u, hu⟩ : ∃ u : Tg, u = ⟨1 + k, D, 0, 0⟩ := ⟨_, rfl⟩
      have HU := hide hu
      clear hu
      have HP4 := hide (HP3.out.put ZU3.out HGU.out 1 (.int .i64 D))
      have ZT4 := hide (show Apt (w3.setCell ⟨gu, 1, none⟩ (.int .i64 D)) u7 u8 gv 24 y.cs from ⟨ZT3.out.blk.far (p := ⟨gu, 1, none⟩) HNE.out _, ZT3.out.na, ZT3.out.nm⟩)
      have ZU4 := hide (show Apt (w3.setCell ⟨gu, 1, none⟩ (.int .i64 D)) u7 u8 gu 24 u.cs from ⟨by rw [HU.out]; have h := ZU3.out.blk.put 1 (.int .i64 D); rw [HY.out] at h; exact h, ZU3.out.na, ZU3.out.nm⟩)
      have dd := (ZU3.out.blk.cell 1).trans (show _ = some (Value.int .i64 y.s) from rfl)
      have ff := ZU3.out.blk.frozen 1
      have e5 : IntKind.i64.wrap D = D := IntWalk.i64_in _ (by have := HD.out; omega)
      clear HP3 ZT3 ZU3
      go_upto_region 12 with (fail)
      clear dd ff e5
      generalize w3.setCell ⟨gu, 1, none⟩ (.int .i64 D) = w4 at *
      refine wp_region_noPanic ?_
      refine wp_region_held_drew (S := (fun w' => BlkIs w' gv 24 #[.int .i64 y.w, .int .i64 y.s, .int .i64 y.f, .int .i64 y.k] ∧ BlkIs w' gu 24 #[.int .i64 u.w, .int .i64 u.s, .int .i64 u.f, .int .i64 u.k])) (by kernel_rfl) ⟨ZT4.out.blk.drew, ZU4.out.blk.drew⟩ (fun hS => ?_)
      have P0 := HP4.out.drew
      have Z0 := ZT4.out.drew
      have V0 := ZU4.out.drew
      generalize w4.drew = wd at hS P0 Z0 V0 ⊢
      refine wpAnyH_take (i := 0) (v := ?_) (by simp only [List.getElem?_toArray, List.getElem?_cons_succ, List.getElem?_cons_zero] <;> exact rfl) (by kernel_rfl) (by kernel_rfl) (by kernel_rfl) (fun _ _ _ h => h) (Or.inl ⟨by rfl, ?_⟩) hS ?_
      rotate_left
      focus (intro w' hw'; go_simp; all_goals with_reducible rfl)
      try simp only [Act.put, List.setIfInBounds_toArray, List.set_cons_zero, List.set_cons_succ]
      refine wpAnyH_take (i := 1) (by simp only [List.getElem?_toArray, List.getElem?_cons_succ, List.getElem?_cons_zero] <;> exact rfl) (by kernel_rfl) (by kernel_rfl) (by kernel_rfl) (fun _ _ _ h => h) (rgs_yields_blk (by rfl) 24 (.tmp 10) (by rfl) gv (by rfl) 24 #[.int .i64 y.w, .int .i64 y.s, .int .i64 y.f, .int .i64 y.k] _ (fun w' hw' => hw'.1) Try.underlying24 rfl tg_size) hS ?_
      try simp only [Act.put, List.setIfInBounds_toArray, List.set_cons_zero, List.set_cons_succ]
      refine wpAnyH_take (i := 4) (v := ?_) (by simp only [List.getElem?_toArray, List.getElem?_cons_succ, List.getElem?_cons_zero] <;> exact rfl) (by kernel_rfl) (by kernel_rfl) (by kernel_rfl) (fun _ _ _ h => h) (Or.inl ⟨by rfl, ?_⟩) hS ?_
      rotate_left
      focus (intro w' hw'; go_simp; all_goals with_reducible rfl)
      try simp only [Act.put, List.setIfInBounds_toArray, List.set_cons_zero, List.set_cons_succ]
      refine wpAnyH_take (i := 5) (by simp only [List.getElem?_toArray, List.getElem?_cons_succ, List.getElem?_cons_zero] <;> exact rfl) (by kernel_rfl) (by kernel_rfl) (by kernel_rfl) (fun _ _ _ h => h) (rgs_yields_blk (by rfl) 24 (.tmp 12) (by rfl) gu (by rfl) 24 #[.int .i64 u.w, .int .i64 u.s, .int .i64 u.f, .int .i64 u.k] _ (fun w' hw' => hw'.2) Try.underlying24 rfl tg_size) hS ?_
      try simp only [Act.put, List.setIfInBounds_toArray, List.set_cons_zero, List.set_cons_succ]
      refine wpAnyH_ready (rs := [2, 6]) (by kernel_rfl) (by simp) ?_
      refine AllReadyH.cons (o := _) (by simp only [List.getElem?_toArray, List.getElem?_cons_succ, List.getElem?_cons_zero] <;> exact rfl) (fun K hK => ?_) ?_
      focus (
        go_simp
        have hS := And.intro (hS.1.alloc (.cells #[.int .i64 y.w, .int .i64 y.s, .int .i64 y.f, .int .i64 y.k] 24)) (hS.2.alloc (.cells #[.int .i64 y.w, .int .i64 y.s, .int .i64 y.f, .int .i64 y.k] 24))
        refine hK.out _ _ hS (fun _ => ?_)
        have D1 := Apt.new P0 24 #[.int .i64 y.w, .int .i64 y.s, .int .i64 y.f, .int .i64 y.k]
        have P1 := P0.alloc (.cells #[.int .i64 y.w, .int .i64 y.s, .int .i64 y.f, .int .i64 y.k] 24)
        have Z1 := Z0.alloc (.cells #[.int .i64 y.w, .int .i64 y.s, .int .i64 y.f, .int .i64 y.k] 24)
        have V1 := V0.alloc (.cells #[.int .i64 y.w, .int .i64 y.s, .int .i64 y.f, .int .i64 y.k] 24)
        obtain ⟨h1, qh1⟩ : ∃ g, g = wd.heap.size := ⟨_, rfl⟩
        rw [← qh1] at D1 ⊢
        generalize wd.alloc (.cells #[.int .i64 y.w, .int .i64 y.s, .int .i64 y.f, .int .i64 y.k] 24) = wb1 at hS D1 P1 Z1 V1 ⊢
        clear qh1
        clear hK K
        try simp only [Act.put, List.setIfInBounds_toArray, List.set_cons_zero, List.set_cons_succ]
        refine wpAnyH_ready (rs := [3, 6]) (by kernel_rfl) (by simp) ?_
        refine AllReadyH.cons (o := _) (by simp only [List.getElem?_toArray, List.getElem?_cons_succ, List.getElem?_cons_zero] <;> exact rfl) (fun K hK => ?_) ?_
        focus (
          refine step_append_one isTg wb1 (by rfl) (.tmp 63) (.tmp 65) (by rfl) w.heap.size u7 i (newL 0 (W8.take i)) (by rfl) P1.oa h1 y (by rfl) D1.blk (by omega) P1.size ?_
          intro x2 cap2 wv2 ho2 hg2 hx2
          have P2 := P1.growA hg2 ho2 hx2
          have Z2 := Apt.growA (n' := i + 1) (cap := cap2) Z1 hg2 hx2
          have V2 := Apt.growA (n' := i + 1) (cap := cap2) V1 hg2 hx2
          have hS : BlkIs _ gv 24 #[.int .i64 y.w, .int .i64 y.s, .int .i64 y.f, .int .i64 y.k] ∧ BlkIs _ gu 24 #[.int .i64 u.w, .int .i64 u.s, .int .i64 u.f, .int .i64 u.k] := And.intro Z2.blk V2.blk
          refine hK.out _ _ hS (fun _ => ?_)
          clear hK K
          try simp only [Act.put, List.setIfInBounds_toArray, List.set_cons_zero, List.set_cons_succ]
          refine wpAnyH_ready (rs := [6]) (by kernel_rfl) (by simp) ?_
          refine AllReadyH.cons (o := _) (by simp only [List.getElem?_toArray, List.getElem?_cons_succ, List.getElem?_cons_zero] <;> exact rfl) (fun K hK => ?_) ?_
          focus (
            go_simp
            have hS := And.intro (hS.1.alloc (.cells #[.int .i64 u.w, .int .i64 u.s, .int .i64 u.f, .int .i64 u.k] 24)) (hS.2.alloc (.cells #[.int .i64 u.w, .int .i64 u.s, .int .i64 u.f, .int .i64 u.k] 24))
            refine hK.out _ _ hS (fun _ => ?_)
            have D3 := Apt.new P2 24 #[.int .i64 u.w, .int .i64 u.s, .int .i64 u.f, .int .i64 u.k]
            have P3 := P2.alloc (.cells #[.int .i64 u.w, .int .i64 u.s, .int .i64 u.f, .int .i64 u.k] 24)
            have Z3 := Z2.alloc (.cells #[.int .i64 u.w, .int .i64 u.s, .int .i64 u.f, .int .i64 u.k] 24)
            have V3 := V2.alloc (.cells #[.int .i64 u.w, .int .i64 u.s, .int .i64 u.f, .int .i64 u.k] 24)
            obtain ⟨h2, qh2⟩ : ∃ g, g = wv2.heap.size := ⟨_, rfl⟩
            rw [← qh2] at D3 ⊢
            generalize wv2.alloc (.cells #[.int .i64 u.w, .int .i64 u.s, .int .i64 u.f, .int .i64 u.k] 24) = wb3 at hS D3 P3 Z3 V3 ⊢
            clear qh2
            clear hK K
            try simp only [Act.put, List.setIfInBounds_toArray, List.set_cons_zero, List.set_cons_succ]
            refine wpAnyH_ready (rs := [7]) (by kernel_rfl) (by simp) ?_
            refine AllReadyH.cons (o := _) (by simp only [List.getElem?_toArray, List.getElem?_cons_succ, List.getElem?_cons_zero] <;> exact rfl) (fun K hK => ?_) ?_
            focus (
              refine step_append_one isTg wb3 (by rfl) (.tmp 67) (.tmp 69) (by rfl) w.heap.size u8 i (newL D (W8.take i)) (by rfl) P3.om h2 u (by rfl) D3.blk (by omega) P3.size ?_
              intro x4 cap4 wv4 ho4 hg4 hx4
              have P4 := P3.growM hg4 ho4 hx4
              have Z4 := Apt.growM (n' := i + 1) (cap := cap4) Z3 hg4 hx4
              have V4 := Apt.growM (n' := i + 1) (cap := cap4) V3 hg4 hx4
              have hS : BlkIs _ gv 24 #[.int .i64 y.w, .int .i64 y.s, .int .i64 y.f, .int .i64 y.k] ∧ BlkIs _ gu 24 #[.int .i64 u.w, .int .i64 u.s, .int .i64 u.f, .int .i64 u.k] := And.intro Z4.blk V4.blk
              refine hK.out _ _ hS (fun _ => ?_)
              clear hK K
              try simp only [Act.put, List.setIfInBounds_toArray, List.set_cons_zero, List.set_cons_succ]
              refine wpAnyH_take (i := 8) (v := ?_) (by simp only [List.getElem?_toArray, List.getElem?_cons_succ, List.getElem?_cons_zero] <;> exact rfl) (by kernel_rfl) (by kernel_rfl) (by kernel_rfl) (fun _ _ _ h => h) (Or.inl ⟨by rfl, ?_⟩) hS ?_
              rotate_left
              focus (intro w' hw'; go_simp; all_goals with_reducible rfl)
              try simp only [Act.put, List.setIfInBounds_toArray, List.set_cons_zero, List.set_cons_succ]
              refine wpAnyH_take (i := 9) (v := ?_) (by simp only [List.getElem?_toArray, List.getElem?_cons_succ, List.getElem?_cons_zero] <;> exact rfl) (by kernel_rfl) (by kernel_rfl) (by kernel_rfl) (fun _ _ _ h => h) (Or.inl ⟨by rfl, ?_⟩) hS ?_
              rotate_left
              focus (intro w' hw'; go_simp; all_goals with_reducible rfl)
              try simp only [Act.put, List.setIfInBounds_toArray, List.set_cons_zero, List.set_cons_succ]
              refine wpAnyH_done (by kernel_rfl) ?_ _
              refine NoPanic.normal ?_
              have PF := hide P4
              clear Z4 V4 hS
              go_wp2_with fail
              go_roundw
              case rel => exact ⟨i + 1, HI.out, by go_num, by have h := PF.out; rw [HY.out, HU.out] at h; rw [new_take 0 HX.out, new_take D HX.out]; exact h⟩
              case measure => simp [intOf]; omega)
            exact AllReadyH.nil)
          exact AllReadyH.nil)
        refine AllReadyH.cons (o := _) (by simp only [List.getElem?_toArray, List.getElem?_cons_succ, List.getElem?_cons_zero] <;> exact rfl) (fun K hK => ?_) ?_
        focus (
          go_simp
          have hS := And.intro (hS.1.alloc (.cells #[.int .i64 u.w, .int .i64 u.s, .int .i64 u.f, .int .i64 u.k] 24)) (hS.2.alloc (.cells #[.int .i64 u.w, .int .i64 u.s, .int .i64 u.f, .int .i64 u.k] 24))
          refine hK.out _ _ hS (fun _ => ?_)
          have D5 := Apt.new P1 24 #[.int .i64 u.w, .int .i64 u.s, .int .i64 u.f, .int .i64 u.k]
          have P5 := P1.alloc (.cells #[.int .i64 u.w, .int .i64 u.s, .int .i64 u.f, .int .i64 u.k] 24)
          have Z5 := Z1.alloc (.cells #[.int .i64 u.w, .int .i64 u.s, .int .i64 u.f, .int .i64 u.k] 24)
          have V5 := V1.alloc (.cells #[.int .i64 u.w, .int .i64 u.s, .int .i64 u.f, .int .i64 u.k] 24)
          have Eh15 := D1.alloc (.cells #[.int .i64 u.w, .int .i64 u.s, .int .i64 u.f, .int .i64 u.k] 24)
          obtain ⟨h2, qh2⟩ : ∃ g, g = wb1.heap.size := ⟨_, rfl⟩
          rw [← qh2] at D5 ⊢
          generalize wb1.alloc (.cells #[.int .i64 u.w, .int .i64 u.s, .int .i64 u.f, .int .i64 u.k] 24) = wb5 at hS D5 P5 Z5 V5 Eh15 ⊢
          clear qh2
          clear hK K
          try simp only [Act.put, List.setIfInBounds_toArray, List.set_cons_zero, List.set_cons_succ]
          refine wpAnyH_ready (rs := [3]) (by kernel_rfl) (by simp) ?_
          refine AllReadyH.cons (o := _) (by simp only [List.getElem?_toArray, List.getElem?_cons_succ, List.getElem?_cons_zero] <;> exact rfl) (fun K hK => ?_) ?_
          focus (
            refine step_append_one isTg wb5 (by rfl) (.tmp 63) (.tmp 65) (by rfl) w.heap.size u7 i (newL 0 (W8.take i)) (by rfl) P5.oa h1 y (by rfl) Eh15.blk (by omega) P5.size ?_
            intro x6 cap6 wv6 ho6 hg6 hx6
            have P6 := P5.growA hg6 ho6 hx6
            have Eh26 := Apt.growA (n' := i + 1) (cap := cap6) D5 hg6 hx6
            have Z6 := Apt.growA (n' := i + 1) (cap := cap6) Z5 hg6 hx6
            have V6 := Apt.growA (n' := i + 1) (cap := cap6) V5 hg6 hx6
            have hS : BlkIs _ gv 24 #[.int .i64 y.w, .int .i64 y.s, .int .i64 y.f, .int .i64 y.k] ∧ BlkIs _ gu 24 #[.int .i64 u.w, .int .i64 u.s, .int .i64 u.f, .int .i64 u.k] := And.intro Z6.blk V6.blk
            refine hK.out _ _ hS (fun _ => ?_)
            clear hK K
            try simp only [Act.put, List.setIfInBounds_toArray, List.set_cons_zero, List.set_cons_succ]
            refine wpAnyH_ready (rs := [7]) (by kernel_rfl) (by simp) ?_
            refine AllReadyH.cons (o := _) (by simp only [List.getElem?_toArray, List.getElem?_cons_succ, List.getElem?_cons_zero] <;> exact rfl) (fun K hK => ?_) ?_
            focus (
              refine step_append_one isTg wv6 (by rfl) (.tmp 67) (.tmp 69) (by rfl) w.heap.size u8 i (newL D (W8.take i)) (by rfl) P6.om h2 u (by rfl) Eh26.blk (by omega) P6.size ?_
              intro x7 cap7 wv7 ho7 hg7 hx7
              have P7 := P6.growM hg7 ho7 hx7
              have Z7 := Apt.growM (n' := i + 1) (cap := cap7) Z6 hg7 hx7
              have V7 := Apt.growM (n' := i + 1) (cap := cap7) V6 hg7 hx7
              have hS : BlkIs _ gv 24 #[.int .i64 y.w, .int .i64 y.s, .int .i64 y.f, .int .i64 y.k] ∧ BlkIs _ gu 24 #[.int .i64 u.w, .int .i64 u.s, .int .i64 u.f, .int .i64 u.k] := And.intro Z7.blk V7.blk
              refine hK.out _ _ hS (fun _ => ?_)
              clear hK K
              try simp only [Act.put, List.setIfInBounds_toArray, List.set_cons_zero, List.set_cons_succ]
              refine wpAnyH_take (i := 8) (v := ?_) (by simp only [List.getElem?_toArray, List.getElem?_cons_succ, List.getElem?_cons_zero] <;> exact rfl) (by kernel_rfl) (by kernel_rfl) (by kernel_rfl) (fun _ _ _ h => h) (Or.inl ⟨by rfl, ?_⟩) hS ?_
              rotate_left
              focus (intro w' hw'; go_simp; all_goals with_reducible rfl)
              try simp only [Act.put, List.setIfInBounds_toArray, List.set_cons_zero, List.set_cons_succ]
              refine wpAnyH_take (i := 9) (v := ?_) (by simp only [List.getElem?_toArray, List.getElem?_cons_succ, List.getElem?_cons_zero] <;> exact rfl) (by kernel_rfl) (by kernel_rfl) (by kernel_rfl) (fun _ _ _ h => h) (Or.inl ⟨by rfl, ?_⟩) hS ?_
              rotate_left
              focus (intro w' hw'; go_simp; all_goals with_reducible rfl)
              try simp only [Act.put, List.setIfInBounds_toArray, List.set_cons_zero, List.set_cons_succ]
              refine wpAnyH_done (by kernel_rfl) ?_ _
              refine NoPanic.normal ?_
              have PF := hide P7
              clear Z7 V7 hS
              go_wp2_with fail
              go_roundw
              case rel => exact ⟨i + 1, HI.out, by go_num, by have h := PF.out; rw [HY.out, HU.out] at h; rw [new_take 0 HX.out, new_take D HX.out]; exact h⟩
              case measure => simp [intOf]; omega)
            exact AllReadyH.nil)
          exact AllReadyH.nil)
        exact AllReadyH.nil)
      refine AllReadyH.cons (o := _) (by simp only [List.getElem?_toArray, List.getElem?_cons_succ, List.getElem?_cons_zero] <;> exact rfl) (fun K hK => ?_) ?_
      focus (
        go_simp
        have hS := And.intro (hS.1.alloc (.cells #[.int .i64 u.w, .int .i64 u.s, .int .i64 u.f, .int .i64 u.k] 24)) (hS.2.alloc (.cells #[.int .i64 u.w, .int .i64 u.s, .int .i64 u.f, .int .i64 u.k] 24))
        refine hK.out _ _ hS (fun _ => ?_)
        have D8 := Apt.new P0 24 #[.int .i64 u.w, .int .i64 u.s, .int .i64 u.f, .int .i64 u.k]
        have P8 := P0.alloc (.cells #[.int .i64 u.w, .int .i64 u.s, .int .i64 u.f, .int .i64 u.k] 24)
        have Z8 := Z0.alloc (.cells #[.int .i64 u.w, .int .i64 u.s, .int .i64 u.f, .int .i64 u.k] 24)
        have V8 := V0.alloc (.cells #[.int .i64 u.w, .int .i64 u.s, .int .i64 u.f, .int .i64 u.k] 24)
        obtain ⟨h2, qh2⟩ : ∃ g, g = wd.heap.size := ⟨_, rfl⟩
        rw [← qh2] at D8 ⊢
        generalize wd.alloc (.cells #[.int .i64 u.w, .int .i64 u.s, .int .i64 u.f, .int .i64 u.k] 24) = wb8 at hS D8 P8 Z8 V8 ⊢
        clear qh2
        clear hK K
        try simp only [Act.put, List.setIfInBounds_toArray, List.set_cons_zero, List.set_cons_succ]
        refine wpAnyH_ready (rs := [2]) (by kernel_rfl) (by simp) ?_
        refine AllReadyH.cons (o := _) (by simp only [List.getElem?_toArray, List.getElem?_cons_succ, List.getElem?_cons_zero] <;> exact rfl) (fun K hK => ?_) ?_
        focus (
          go_simp
          have hS := And.intro (hS.1.alloc (.cells #[.int .i64 y.w, .int .i64 y.s, .int .i64 y.f, .int .i64 y.k] 24)) (hS.2.alloc (.cells #[.int .i64 y.w, .int .i64 y.s, .int .i64 y.f, .int .i64 y.k] 24))
          refine hK.out _ _ hS (fun _ => ?_)
          have D9 := Apt.new P8 24 #[.int .i64 y.w, .int .i64 y.s, .int .i64 y.f, .int .i64 y.k]
          have P9 := P8.alloc (.cells #[.int .i64 y.w, .int .i64 y.s, .int .i64 y.f, .int .i64 y.k] 24)
          have Z9 := Z8.alloc (.cells #[.int .i64 y.w, .int .i64 y.s, .int .i64 y.f, .int .i64 y.k] 24)
          have V9 := V8.alloc (.cells #[.int .i64 y.w, .int .i64 y.s, .int .i64 y.f, .int .i64 y.k] 24)
          have Eh29 := D8.alloc (.cells #[.int .i64 y.w, .int .i64 y.s, .int .i64 y.f, .int .i64 y.k] 24)
          obtain ⟨h1, qh1⟩ : ∃ g, g = wb8.heap.size := ⟨_, rfl⟩
          rw [← qh1] at D9 ⊢
          generalize wb8.alloc (.cells #[.int .i64 y.w, .int .i64 y.s, .int .i64 y.f, .int .i64 y.k] 24) = wb9 at hS D9 P9 Z9 V9 Eh29 ⊢
          clear qh1
          clear hK K
          try simp only [Act.put, List.setIfInBounds_toArray, List.set_cons_zero, List.set_cons_succ]
          refine wpAnyH_ready (rs := [3]) (by kernel_rfl) (by simp) ?_
          refine AllReadyH.cons (o := _) (by simp only [List.getElem?_toArray, List.getElem?_cons_succ, List.getElem?_cons_zero] <;> exact rfl) (fun K hK => ?_) ?_
          focus (
            refine step_append_one isTg wb9 (by rfl) (.tmp 63) (.tmp 65) (by rfl) w.heap.size u7 i (newL 0 (W8.take i)) (by rfl) P9.oa h1 y (by rfl) D9.blk (by omega) P9.size ?_
            intro x10 cap10 wv10 ho10 hg10 hx10
            have P10 := P9.growA hg10 ho10 hx10
            have Eh210 := Apt.growA (n' := i + 1) (cap := cap10) Eh29 hg10 hx10
            have Z10 := Apt.growA (n' := i + 1) (cap := cap10) Z9 hg10 hx10
            have V10 := Apt.growA (n' := i + 1) (cap := cap10) V9 hg10 hx10
            have hS : BlkIs _ gv 24 #[.int .i64 y.w, .int .i64 y.s, .int .i64 y.f, .int .i64 y.k] ∧ BlkIs _ gu 24 #[.int .i64 u.w, .int .i64 u.s, .int .i64 u.f, .int .i64 u.k] := And.intro Z10.blk V10.blk
            refine hK.out _ _ hS (fun _ => ?_)
            clear hK K
            try simp only [Act.put, List.setIfInBounds_toArray, List.set_cons_zero, List.set_cons_succ]
            refine wpAnyH_ready (rs := [7]) (by kernel_rfl) (by simp) ?_
            refine AllReadyH.cons (o := _) (by simp only [List.getElem?_toArray, List.getElem?_cons_succ, List.getElem?_cons_zero] <;> exact rfl) (fun K hK => ?_) ?_
            focus (
              refine step_append_one isTg wv10 (by rfl) (.tmp 67) (.tmp 69) (by rfl) w.heap.size u8 i (newL D (W8.take i)) (by rfl) P10.om h2 u (by rfl) Eh210.blk (by omega) P10.size ?_
              intro x11 cap11 wv11 ho11 hg11 hx11
              have P11 := P10.growM hg11 ho11 hx11
              have Z11 := Apt.growM (n' := i + 1) (cap := cap11) Z10 hg11 hx11
              have V11 := Apt.growM (n' := i + 1) (cap := cap11) V10 hg11 hx11
              have hS : BlkIs _ gv 24 #[.int .i64 y.w, .int .i64 y.s, .int .i64 y.f, .int .i64 y.k] ∧ BlkIs _ gu 24 #[.int .i64 u.w, .int .i64 u.s, .int .i64 u.f, .int .i64 u.k] := And.intro Z11.blk V11.blk
              refine hK.out _ _ hS (fun _ => ?_)
              clear hK K
              try simp only [Act.put, List.setIfInBounds_toArray, List.set_cons_zero, List.set_cons_succ]
              refine wpAnyH_take (i := 8) (v := ?_) (by simp only [List.getElem?_toArray, List.getElem?_cons_succ, List.getElem?_cons_zero] <;> exact rfl) (by kernel_rfl) (by kernel_rfl) (by kernel_rfl) (fun _ _ _ h => h) (Or.inl ⟨by rfl, ?_⟩) hS ?_
              rotate_left
              focus (intro w' hw'; go_simp; all_goals with_reducible rfl)
              try simp only [Act.put, List.setIfInBounds_toArray, List.set_cons_zero, List.set_cons_succ]
              refine wpAnyH_take (i := 9) (v := ?_) (by simp only [List.getElem?_toArray, List.getElem?_cons_succ, List.getElem?_cons_zero] <;> exact rfl) (by kernel_rfl) (by kernel_rfl) (by kernel_rfl) (fun _ _ _ h => h) (Or.inl ⟨by rfl, ?_⟩) hS ?_
              rotate_left
              focus (intro w' hw'; go_simp; all_goals with_reducible rfl)
              try simp only [Act.put, List.setIfInBounds_toArray, List.set_cons_zero, List.set_cons_succ]
              refine wpAnyH_done (by kernel_rfl) ?_ _
              refine NoPanic.normal ?_
              have PF := hide P11
              clear Z11 V11 hS
              go_wp2_with fail
              go_roundw
              case rel => exact ⟨i + 1, HI.out, by go_num, by have h := PF.out; rw [HY.out, HU.out] at h; rw [new_take 0 HX.out, new_take D HX.out]; exact h⟩
              case measure => simp [intOf]; omega)
            exact AllReadyH.nil)
          exact AllReadyH.nil)
        exact AllReadyH.nil)
      exact AllReadyH.nil
    · obtain rfl : i = n := by omega
      have h2' : ¬ (i : Int) < (i : Int) := by omega
      have hoa := HP.out.oa
      have hom := HP.out.om
      rw [show W8.take i = W8 from List.take_of_length_le (by rw [HWN.out]; exact Nat.le_refl _)] at hoa hom
      obtain ⟨A7, c7, rfl, hsa⟩ := own_sl (F := tgF) hoa
      obtain ⟨A8, c8, rfl, hsb⟩ := own_sl (F := tgF) hom
      have HTA := hide hsa
      have HTB := hide hsb
      have HB := hide HP.out.bel
      clear hoa hom hsa hsb HP
      go_wp2_with fail
      obtain ⟨w3, hw3⟩ : ∃ q, wr = q := ⟨_, rfl⟩
      rw [hw3] at HTA HTB HB ⊢
      clear hw3
      go_loopw [13, 14, 15] (fun s13 s14 s15 wx => ∃ j : Nat, j ≤ N ∧ s15 = .int .i64 (j : Int) ∧ s14 = .int .i64 (mxQ (C.take j)) ∧ Hid (wx.ownsRow w3.heap.size 3 1 s13 j (ncs (C.take j))) ∧ Hid (Below w3.heap.size w3 wx)) (fun _ _ s15 _ => N - (intOf s15).toNat)
      case atStart => exact ⟨0, by omega, rfl, rfl, by rw [List.take_zero]; exact World.ownsRow_nil _ _ _ _, Below.refl _ _⟩
      case round =>
        obtain ⟨j, hj, rfl, rfl, HO, HV⟩ := hrel
        by_cases h3 : j < N
        · have h3' : (j : Int) < (N : Int) := by omega
          have hN9 : (N : Int) ≤ 60 := by have := HN80.out; omega
          obtain ⟨x, b, off, hx, rfl, hbl, x0, hwf⟩ := (HC.out.keep (HB.out.trans (HV.out.mono HB.out.size))).round h3
          have hx0 := bounds_u16 hwf
          have HX := hide (HC8.out j x hx)
          have HJ3 := hide h3
          have X0 := hide x0
          have HBL := hide hbl
          obtain ⟨v, hv⟩ : ∃ v, 1 + x = v := ⟨_, rfl⟩
          have hv0 : 1 ≤ v ∧ v ≤ 65536 := by omega
          rw [hv] at HX
          have e1 : IntKind.i64.wrap x = x := IntWalk.i64_in _ (by omega)
          have e2 : IntKind.i64.wrap v = v := IntWalk.i64_in _ (by omega)
          have HQ := hide (mxQ_take HX.out)
          obtain ⟨q, hq⟩ : ∃ q, mxQ (C.take j) = q := ⟨_, rfl⟩
          rw [hq] at HQ ⊢
          obtain ⟨q2, hq2⟩ : ∃ q2, max q v = q2 := ⟨_, rfl⟩
          rw [hq2] at HQ
          clear hx hwf hq hj hx0 hv0
          have KX := hide (BlkIs.new wr 3 #[.int .i64 v])
          have HA6 := hide (HO.out.alloc (.cells #[.int .i64 v] 3))
          have HB6 := hide (HV.out.alloc HV.out.size (.cells #[.int .i64 v] 3))
          go_upto_region 19 with (at_builtin; refine wpList_append_n1 _ rfl (.tmp 77) (.tmp 84) rfl w3.heap.size _ j _ rfl HA6.out wr.heap.size v rfl KX.out (by have := HJ3.out; have := HN80.out; omega) HB6.out.size ?_; intro g7 c7 w7 ho7 hg7 hl7; have HA7 := hide ho7; have HB7 := hide (own_bel HA6.out HB6.out (Nat.le_refl _) (Nat.le_refl _) hg7); clear ho7 hg7 hl7)
          clear x0 KX HA6 HB6 HO
          obtain ⟨x_, b_, off_, hx_, hA_, hbl_, x0_, -⟩ := (HC.out.keep (HB.out.trans (HB7.out.mono HB.out.size))).round HJ3.out
          obtain ⟨rfl, rfl⟩ : b = b_ ∧ off = off_ := by injection hA_ with e; injection e with e1 e2; exact ⟨e1, e2⟩
          obtain rfl : x = x_ := by have := HC8.out j x_ hx_; rw [HX.out] at this; injection this with this; omega
          clear hA_ hx_ hbl_
          go_wp2_with fail
          go_roundw
          case rel => exact ⟨j + 1, HJ3.out, by go_num, by rw [HQ.out], by rw [take_snoc HX.out]; exact HA7.out, HB7.out⟩
          case measure => simp [intOf]; omega
        · obtain rfl : j = N := by omega
          have h3' : ¬ (j : Int) < (j : Int) := by omega
          have hal := HO.out
          have hqe : C.take j = C := List.take_of_length_le (by rw [HCN.out]; exact Nat.le_refl _)
          rw [hqe] at hal ⊢
          obtain ⟨B2, d2, rfl⟩ := own_slice hal
          have HN1 := hide (nl_own hal (all_wf HCT.out))
          have HTX := hide (HTA.out.keep HV.out)
          have HTY := hide (HTB.out.keep HV.out)
          have HBX := hide (HB.out.trans (HV.out.mono HB.out.size))
          have FF := hide (late_all (d := D) (ws := W8) (C := C) HD.out.1 HD.out.2 HWT.out (by rw [HWN.out]; have := HN2.out; omega) HCT.out (by rw [HCN.out]; exact HN80.out))
          rw [HWN.out] at FF
          have HQL := hide (mxQ_low C)
          have HQH := hide (mxQ_le (l := C) (B := 65536) (by omega) (fun x hx => (HCT.out x hx).2))
          obtain ⟨Q, hQ⟩ : ∃ q, mxQ C = q := ⟨_, rfl⟩
          rw [hQ] at FF HQL HQH ⊢
          have HC1 := hide (show 1 ≤ c7 from Nat.le_trans (Nat.le_of_lt HN2.out) HTX.out.le)
          clear hal HO HV HTA HTB HB hqe hQ
          go_wp2_with fail
          refine (tg_Run A7 i c7 _ B2 j d2 _ _ HTX.out HN1.out (by have := HN8.out; omega) (by have := HN80.out; omega)).mono ?_
          rintro e w4 ⟨A16, c16, B17, d17, rfl, hs, hm, hb⟩
          have HTX_ := hide (HTX.out.keep hb)
          clear HTX
          have HTX := hide HTX_.out
          clear HTX_
          have HTY_ := hide (HTY.out.keep hb)
          clear HTY
          have HTY := hide HTY_.out
          clear HTY_
          have HN1_ := hide (HN1.out.keep hb)
          clear HN1
          have HN1 := hide HN1_.out
          clear HN1_
          have HBX_ := hide (HBX.out.trans (hb.mono HBX.out.size))
          clear HBX
          have HBX := hide HBX_.out
          clear HBX_
          clear hb
          have HS1 := hide hs
          have HM1 := hide hm
          clear hs hm
          go_wp2_with fail
          refine (tg_Run A8 i c8 _ B2 j d2 _ _ HTY.out HN1.out (by have := HN8.out; omega) (by have := HN80.out; omega)).mono ?_
          rintro e w5 ⟨A18, c18, B19, d19, rfl, hs, hm, hb⟩
          have HTX_ := hide (HTX.out.keep hb)
          clear HTX
          have HTX := hide HTX_.out
          clear HTX_
          have HN1_ := hide (HN1.out.keep hb)
          clear HN1
          have HN1 := hide HN1_.out
          clear HN1_
          have HS1_ := hide (HS1.out.keep hb)
          clear HS1
          have HS1 := hide HS1_.out
          clear HS1_
          have HM1_ := hide (HM1.out.keep hb)
          clear HM1
          have HM1 := hide HM1_.out
          clear HM1_
          have HBX_ := hide (HBX.out.trans (hb.mono HBX.out.size))
          clear HBX
          have HBX := hide HBX_.out
          clear HBX_
          clear hb
          have HS2 := hide hs
          have HM2 := hide hm
          clear hs hm HTY
          have hs1 := fun w' => run_headS isTg A7 i c7 1 HC1.out w'
          rw [show ((1 : Nat) : Int) = 1 from rfl] at hs1
          have HT1 := hide (HTX.out.take (k := 1) (Nat.le_of_lt HN2.out))
          go_wp2_with fail
          refine (tg_Run A7 1 c7 _ B2 j d2 _ _ HT1.out HN1.out (by decide) (by have := HN80.out; omega)).mono ?_
          rintro e w6 ⟨A20, c20, B21, d21, rfl, hs, hm, hb⟩
          have HN1_ := hide (HN1.out.keep hb)
          clear HN1
          have HN1 := hide HN1_.out
          clear HN1_
          have HS1_ := hide (HS1.out.keep hb)
          clear HS1
          have HS1 := hide HS1_.out
          clear HS1_
          have HM1_ := hide (HM1.out.keep hb)
          clear HM1
          have HM1 := hide HM1_.out
          clear HM1_
          have HS2_ := hide (HS2.out.keep hb)
          clear HS2
          have HS2 := hide HS2_.out
          clear HS2_
          have HM2_ := hide (HM2.out.keep hb)
          clear HM2
          have HM2 := hide HM2_.out
          clear HM2_
          have HBX_ := hide (HBX.out.trans (hb.mono HBX.out.size))
          clear HBX
          have HBX := hide HBX_.out
          clear HBX_
          clear hb
          have HS3 := hide hs
          have HM3 := hide hm
          clear hs hm HTX HT1 hs1
          obtain ⟨lx, hlx⟩ : ∃ q, q = (runT (newL 0 W8) C).1 := ⟨_, rfl⟩
          obtain ⟨ly, hly⟩ : ∃ q, q = (runT (newL D W8) C).1 := ⟨_, rfl⟩
          obtain ⟨lz, hlz⟩ : ∃ q, q = (runT ((newL 0 W8).take 1) C).1 := ⟨_, rfl⟩
          obtain ⟨px, hpx⟩ : ∃ q, q = (runT (newL 0 W8) C).2 := ⟨_, rfl⟩
          obtain ⟨py, hpy⟩ : ∃ q, q = (runT (newL D W8) C).2 := ⟨_, rfl⟩
          obtain ⟨pz, hpz⟩ : ∃ q, q = (runT ((newL 0 W8).take 1) C).2 := ⟨_, rfl⟩
          rw [← hlx] at HS1 FF
          rw [← hly] at HS2 FF
          rw [← hlz] at HS3 FF
          rw [← hpx] at HM1 FF
          rw [← hpy] at HM2 FF
          rw [← hpz] at HM3 FF
          clear hlx hly hlz hpx hpy hpz
          go_wp2_with fail
          go_loopw [22, 23] (fun s22 s23 wy => ∃ a : Nat, a ≤ j ∧ s23 = .int .i64 (a : Int) ∧ s22 = .int .i64 (C.take a).sum ∧ Hid (Below w6.heap.size w6 wy)) (fun _ s23 _ => j - (intOf s23).toNat)
          case atStart => exact ⟨0, by omega, rfl, rfl, Below.refl _ _⟩
          case round =>
            obtain ⟨a, ha, rfl, rfl, HV⟩ := hrel
            have hj9 : (j : Int) ≤ 60 := by have := HN80.out; omega
            by_cases h5 : a < j
            · have h5' : (a : Int) < (j : Int) := by omega
              obtain ⟨x, bx, ox, hx, rfl, -, x0, -⟩ := (HN1.out.keep HV.out).round h5
              obtain ⟨p, bp, op, hp, rfl, -, p0, -⟩ := (HM1.out.keep HV.out).round h5
              obtain ⟨q, bq, oq, hq, rfl, -, q0, -⟩ := (HM2.out.keep HV.out).round h5
              obtain ⟨r, br, or, hr, rfl, -, r0, -⟩ := (HM3.out.keep HV.out).round h5
              obtain rfl : p = q := by rw [FF.out.who, hp] at hq; injection hq
              obtain rfl : r = 0 := by rw [FF.out.alone a (by rw [HCN.out]; exact h5)] at hr; injection hr with hr; exact hr.symm
              have HST := hide (sum_take hx)
              have hsi := sum_in (C := C.take a) (fun y hy => HCT.out y (List.mem_of_mem_take hy))
              have hxi := HCT.out x (List.mem_of_getElem? hx)
              have hal : (C.take a).length ≤ j := by rw [List.length_take, HCN.out]; omega
              obtain ⟨t, hT⟩ : ∃ q, (C.take a).sum = q := ⟨_, rfl⟩
              rw [hT] at HST hsi ⊢
              have e1 : IntKind.i64.wrap (t + x) = t + x := IntWalk.i64_in _ (by omega)
              clear hx hp hq hr hsi hxi hal hT
              go_upto_region 30 with (fail)
              go_quiet (fail)
              clear x0 p0 q0 r0 e1
              go_wp2_with fail
              go_roundw
              case rel => exact ⟨a + 1, h5, by go_num, by rw [HST.out], below_drewN HV.out _⟩
              case measure => simp [intOf]; omega
            · obtain rfl : a = j := by omega
              have h5' : ¬ (a : Int) < (a : Int) := by omega
              have hqe : C.take a = C := List.take_of_length_le (by rw [HCN.out]; exact Nat.le_refl _)
              rw [hqe]
              have HSUM := hide FF.out.sum
              obtain ⟨tt, htt⟩ : ∃ q, C.sum = q := ⟨_, rfl⟩
              rw [htt] at HSUM ⊢
              clear hqe htt HN1 HM1 HM2 HM3
              have HB6 := hide (HBX.out.trans (HV.out.mono HBX.out.size))
              have HX1 := hide (HS1.out.keep HV.out)
              have HX2 := hide (HS2.out.keep HV.out)
              have HX3 := hide (HS3.out.keep HV.out)
              clear HBX HS1 HS2 HS3 HV
              obtain ⟨w7, hw7⟩ : ∃ q, wr = q := ⟨_, rfl⟩
              rw [hw7] at HB6 HX1 HX2 HX3 ⊢
              clear hw7
              go_wp2_with fail
              go_loopw [24] (fun s24 wy => ∃ b : Nat, b ≤ i ∧ s24 = .int .i64 (b : Int) ∧ Hid (Below w7.heap.size w7 wy)) (fun s24 _ => i - (intOf s24).toNat)
              case atStart => exact ⟨0, by omega, rfl, Below.refl _ _⟩
              case round =>
                obtain ⟨b, hb, rfl, HV⟩ := hrel
                have hi9 : (i : Int) ≤ 6 := by have := HN8.out; omega
                by_cases h6 : b < i
                · have h6' : (b : Int) < (i : Int) := by omega
                  obtain ⟨x, bx, ox, hx, hA16, hbl, x0, x1, x2, x3⟩ := tg_round (HX1.out.keep HV.out) h6
                  obtain ⟨y, by_, oy, hy, hA18, _, y0, y1, y2, y3⟩ := tg_round (HX2.out.keep HV.out) h6
                  subst hA16 hA18
                  have HWK := FF.out.work b h6
                  have HST := hide (FF.out.st b h6)
                  rw [hx, hy] at HWK
                  rw [hx] at HST
                  have HXX := hide hx
                  clear hx hy hb
                  obtain ⟨x0_, x1_, x2_, x3_⟩ := x
                  obtain ⟨y0_, y1_, y2_, y3_⟩ := y
                  simp only at x0 x1 x2 x3 y0 y1 y2 y3 HWK HST
                  obtain ⟨hq1_, rfl⟩ := HWK
                  replace hq1_ := hq1_.symm
                  subst hq1_
                  have e1 : IntKind.i64.wrap D = D := IntWalk.i64_in _ (by have := HD.out; omega)
                  have e2 : IntKind.i64.wrap (x1_ + D) = x1_ + D := IntWalk.i64_in _ (by have := HD.out; have := HST.out; omega)
                  go_upto_region 35 with (fail)
                  go_quiet (fail)
                  clear x0 x1 x2 x3 y0 y1 y2 y3 e1 e2
                  have HV2 := hide (below_drewN HV.out nq)
                  clear HV
                  generalize wr.drewN nq = wv at *
                  go_wp2_with fail
                  go_loopw [25] (fun s25 wz => ∃ k : Nat, k ≤ i ∧ s25 = .int .i64 (k : Int) ∧ Hid (Below w7.heap.size w7 wz)) (fun s25 _ => i - (intOf s25).toNat)
                  case atStart => exact ⟨0, by omega, rfl, HV2.out⟩
                  case round =>
                    clear HV2
                    obtain ⟨k, hk, rfl, HV⟩ := hrel
                    by_cases h7 : k < i
                    · have h7' : (k : Int) < (i : Int) := by omega
                      obtain ⟨z, bz, oz, hz, hA, _, z0, z1, z2, z3⟩ := tg_round (HX1.out.keep HV.out) h7
                      obtain ⟨xx, bb, oo, hxx, hA2, _, x0, x1, x2, x3⟩ := tg_round (HX1.out.keep HV.out) h6
                      obtain ⟨rfl, rfl⟩ : bx = bz ∧ ox = oz := by injection hA with e; injection e with e1 e2; exact ⟨e1, e2⟩
                      obtain ⟨rfl, rfl⟩ : bx = bb ∧ ox = oo := by injection hA2 with e; injection e with e1 e2; exact ⟨e1, e2⟩
                      obtain rfl : (⟨x0_, x1_, x2_, x3_⟩ : Tg) = xx := HXX.out.symm.trans hxx
                      clear hA hA2 hxx
                      have HHV := hide (FF.out.heavy b k h6 h7)
                      rw [HXX.out, hz] at HHV
                      have HSZ := hide (FF.out.st k h7)
                      rw [hz] at HSZ
                      clear hz hk
                      obtain ⟨z0_, z1_, z2_, z3_⟩ := z
                      simp only at z0 z1 z2 z3 x0 x1 x2 x3 HHV HSZ
                      clear z1 z2 x1 x2
                      have hq0 := HQL.out
                      have hq1 := HQH.out
                      have hs0 := HST.out
                      have e1 : IntKind.i64.wrap (2 * Q) = 2 * Q := IntWalk.i64_in _ (by omega)
                      have e2 : IntKind.i64.wrap (x3_ + 2 * Q) = x3_ + 2 * Q := IntWalk.i64_in _ (by omega)
                      by_cases hh : z0_ ≤ x0_
                      · have hw := HHV.out hh
                        have k1 : decide (z0_ ≤ x0_) = true := decide_eq_true hh
                        have k2 : decide (x3_ + 2 * Q < z3_) = false := decide_eq_false (by omega)
                        clear hw hh hq0 hq1 hs0
                        go_upto_region 40 with (fail)
                        go_quiet (fail)
                        clear x0 x3 z0 z3 e1 e2 k1 k2
                        go_wp2_with fail
                        go_roundw
                        case rel => exact ⟨k + 1, h7, by go_num, below_drewN HV.out _⟩
                        case measure => simp [intOf]; omega
                      · have k1 : decide (z0_ ≤ x0_) = false := decide_eq_false hh
                        clear hh hq0 hq1 hs0
                        go_upto_region 40 with (fail)
                        go_quiet (fail)
                        clear x0 x3 z0 z3 e1 e2 k1
                        go_wp2_with fail
                        go_roundw
                        case rel => exact ⟨k + 1, h7, by go_num, below_drewN HV.out _⟩
                        case measure => simp [intOf]; omega
                    · obtain rfl : k = i := by omega
                      have h7' : ¬ (k : Int) < (k : Int) := by omega
                      go_wp2_with fail
                      go_roundw
                      case rel => exact ⟨b + 1, h6, by go_num, HV.out⟩
                      case measure => simp [intOf]; omega
                · obtain rfl : b = i := by omega
                  have h6' : ¬ (b : Int) < (b : Int) := by omega
                  obtain ⟨z, bz, oz, hz, hA, _, z0, z1, z2, z3⟩ := tg_round (HX3.out.keep HV.out) (show 0 < 1 by decide)
                  subst hA
                  obtain ⟨z0_, z1_, z2_, z3_⟩ := z
                  have hzk : z3_ = tt := by have := HSUM.out; rw [hz] at this; exact this
                  subst hzk
                  simp only [Nat.zero_mul, Nat.add_zero] at z0 z1 z2 z3
                  have HB7 := hide (HB6.out.trans (HV.out.mono HB6.out.size))
                  clear hz HV
                  go_wp2_with fail
                  refine (HAW.out _).mono ?_
                  rintro e w9 ⟨rfl, hb⟩
                  have HB9 := hide (HB7.out.trans (hb.mono HB7.out.size))
                  clear hb
                  go_wp2_with fail
                  go_ret
                  exact ⟨rfl, HB9.out⟩
end Go.Proofs.Ytlondjmklnehhaa.tagsLater
