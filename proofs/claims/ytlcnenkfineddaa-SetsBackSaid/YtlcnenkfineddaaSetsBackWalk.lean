/-
  Layer 12: SetsBack: the walk.
-/
import Derived.Test.YtlcnenkfineddaaSsAwake
import Derived.Test.YtlcnenkfineddaaRsApply
import Derived.Test.YtlcnenkfineddaaFrEqR
import Derived.BigGuardPart
import Derived.Deep.CutRange
import Derived.Deep.DeepCutAuto
namespace Go.Proofs.Ytlcnenkfineddaa.setsBack
set_option linter.unusedSimpArgs false
set_option linter.unusedVariables false
open Go.RowKit

theorem pr_sz : (Try.prog.info? (Try.prog.elem 24)).map (·.size) = some 2 := by kernel_rfl
theorem pr_under : Try.prog.underlying 24 = some (.slice (Try.prog.elem 24)) := by kernel_rfl
/-- l[i:i+1] of settings. -/
theorem slice_one {w : World} {b off n c : Nat} {l : List Pr} (h : PL w (some ⟨b, off, none⟩) n c l) {i : Nat} {f : Pr} (hf : l[i]? = some f) :
    (∀ w', (Instr.slice 24 (.slice (some ⟨b, off, none⟩) n c) (some (.int .i64 (i : Int))) (some (.int .i64 ((i : Int) + 1))) none).run Try.prog w' = .ok (.slice (some ⟨b, off + i * 2, none⟩) 1 (c - i)) w') ∧ PL w (some ⟨b, off + i * 2, none⟩) 1 (c - i) [f] := by
  have hin : i < n := by have := (List.getElem?_eq_some_iff.1 hf).1; rw [h.len] at this; exact this
  have hle := h.le
  have hmx := h.max
  refine ⟨fun w' => ?_, rfl, by omega, by omega, (fun e => by cases e), fun k p hk => ?_⟩
  · rw [run_slice_lh w' 24 (some ⟨b, off, none⟩) n c pr_under .i64 .i64 (i : Int) ((i : Int) + 1) (by omega) (by omega) (by omega), run_size_is pr_sz]
    have e1 : ((i : Int) + 1).toNat = i + 1 := by omega
    have e2 : ((i : Int)).toNat = i := by omega
    have e3 : ¬ c = i := by omega
    simp [Result.andThen, sliced, e1, e2, e3, Addr.add]
  · cases k with
    | zero =>
      simp at hk
      subst hk
      obtain ⟨b', off', e, hlt, c0, c1⟩ := h.at_ i f hf
      injection e with e
      injection e with e1 e2
      subst e1 e2
      exact ⟨b, off + i * 2, rfl, hlt, by simpa using c0, by simpa using c1⟩
    | succ k => simp at hk
theorem dif_ok {v u : Vs} (hu : okB u = true) (k : Nat) (hk : k ≤ 6) : AllP (dif v u k) := by
  induction k with
  | zero => intro p hp; cases hp
  | succ k ih =>
    intro p hp
    rw [dif] at hp
    rcases List.mem_append.1 hp with h | h
    · exact ih (by omega) p h
    · split at h
      · cases h
      · simp only [List.mem_singleton] at h
        subst h
        obtain ⟨a, b⟩ := ok_at hu (k + 1)
        refine ⟨?_, ?_, a, b⟩ <;> simp only <;> omega
theorem pairs_ok {v u : Vs} (hu : okB u = true) : AllP (pairsS v u) := by
  unfold pairsS
  split
  · exact dif_ok hu 6 (by omega)
  · intro p hp; cases hp
/-- Two copies in new variables. -/
def TwoR (w0 wx : World) (v u : Vs) (s7 s8 : Value) : Prop := ∃ x y, s7 = .pointer (some ⟨x, 0, none⟩) ∧ s8 = .pointer (some ⟨y, 0, none⟩) ∧ BlkIs wx x 26 v.cs ∧ BlkIs wx y 26 u.cs ∧ Below w0.heap.size w0 wx
/-- What Apply leaves in new variables. -/
def XcS (w0 wx : World) (v : Vs) (ec : Int) (s9 s10 : Value) : Prop := ∃ x, s9 = .pointer (some ⟨x, 0, none⟩) ∧ s10 = .int .u32 ec ∧ BlkIs wx x 26 v.cs ∧ Below w0.heap.size w0 wx
/-- What the settings one by one come to. -/
def OneR (V : Vs) (l : List Pr) (i : Nat) (one : Vs) (ec : Int) : Prop := (ec = 0 ∧ runS V (l.take i) = (one, 0) ∧ okB one = true) ∨ (¬ ec = 0 ∧ applyS V l = (V, ec))
theorem oneR_next {V : Vs} {l : List Pr} {i : Nat} {one : Vs} {f : Pr} (hV : okB V = true) (hr : runS V (l.take i) = (one, 0)) (ho : okB one = true) (hf : l[i]? = some f) (hfo : f.ok) : OneR V l (i + 1) (applyS one [f]).1 (applyS one [f]).2 := by
  obtain ⟨h1, h2⟩ := take_pr hf
  rw [apply_one ho]
  by_cases hz : fltC f = 0
  · rw [if_pos hz]
    exact .inl ⟨rfl, by rw [h2, run_snoc hr hz], ok_set ho hfo hz⟩
  · rw [if_neg hz]
    exact .inr ⟨hz, by rw [h1]; exact apply_fault hV hr hz⟩

set_option maxRecDepth 100000 in
set_option maxHeartbeats 6400000 in
theorem walk (V U : Vs) (A : Option Addr) (n c : Nat) (l : List Pr) (w : World) (hl : PL w A n c l) (ha : AllP l) :
    Calls Try.prog 5 #[.agg V.cs, .agg U.cs, .slice A n c] w fun e w' => e = .returned (.bool true) ∧ Below w.heap.size w w' := by
  have HAW := hide (fun w => aw_sets w)
  obtain ⟨g, hg⟩ : ∃ g, g = w.heap.size := ⟨_, rfl⟩
  have HG := hide hg
  have HV := hide (show BlkIs ((w.alloc (.cells V.cs 23)).alloc (.cells U.cs 23)) g 23 V.cs by rw [hg]; exact (BlkIs.new w _ _).alloc _)
  have HU := hide (show BlkIs ((w.alloc (.cells V.cs 23)).alloc (.cells U.cs 23)) (g + 1) 23 U.cs by rw [hg]; exact new2 w _ _ _)
  have HB0 := hide (show Below g w ((w.alloc (.cells V.cs 23)).alloc (.cells U.cs 23)) by rw [hg]; exact bel2 w _ _)
  have HPL := hide hl
  have HAL := hide ha
  have HC1 := hide (fun w => ss_Check V w)
  have HC2 := hide (fun w => ss_Check U w)
  clear hl ha hg
  go_enter Try.func5, Try.ntmps5
  go_upto_region 1 with (fail)
  rw [← HG.out]
  generalize (w.alloc (.cells V.cs 23)).alloc (.cells U.cs 23) = w0 at *
  go_cut [7, 8] (fun s7 s8 wx => TwoR w0 wx V U s7 s8)
  case first =>
    refine wp_region_noPanic ?_
    refine wp_region_held_drew (S := fun w' => Below w0.heap.size w0 w') (by kernel_rfl) (Below.refl _ _).drew (fun hS => ?_)
    generalize w0.drew = wd at hS ⊢
    refine wpAnyH_take (i := 0) (by simp only [List.getElem?_toArray, List.getElem?_cons_zero] <;> exact rfl) (by kernel_rfl) (by kernel_rfl) (by kernel_rfl) (fun _ _ _ h => h) (rgs_yields_blk (by rfl) 23 (.tmp 3) (by rfl) g (by rfl) 23 V.cs _ (fun w' hw' => HV.out.keep hw') Try.underlying23 rfl rs_size) hS ?_
    try simp only [Act.put, List.setIfInBounds_toArray, List.set_cons_zero, List.set_cons_succ]
    refine wpAnyH_take (i := 1) (by simp only [List.getElem?_toArray, List.getElem?_cons_succ, List.getElem?_cons_zero] <;> exact rfl) (by kernel_rfl) (by kernel_rfl) (by kernel_rfl) (fun _ _ _ h => h) (rgs_yields_blk (by rfl) 23 (.tmp 4) (by rfl) (g + 1) (by rfl) 23 U.cs _ (fun w' hw' => HU.out.keep hw') Try.underlying23 rfl rs_size) hS ?_
    try simp only [Act.put, List.setIfInBounds_toArray, List.set_cons_zero, List.set_cons_succ]
    refine wpAnyH_ready (rs := [2, 3]) (by kernel_rfl) (by simp) ?_
    refine AllReadyH.cons (o := _) (by simp only [List.getElem?_toArray, List.getElem?_cons_succ, List.getElem?_cons_zero] <;> exact rfl) (fun K hK => ?_) ?_
    focus (
      go_simp
      have hz1 := hS.size
      have hS := hS.alloc hS.size (.cells #[.int .i64 0, .int .i64 0, .int .i64 0, .int .i64 0, .int .i64 0, .int .i64 0] 26)
      refine hK.out _ _ hS (fun _ => ?_)
      have Ex1 := BlkIs.new wd 26 #[.int .i64 0, .int .i64 0, .int .i64 0, .int .i64 0, .int .i64 0, .int .i64 0]
      obtain ⟨x, hx⟩ : ∃ g, g = wd.heap.size := ⟨_, rfl⟩
      have Mx : w0.heap.size ≤ x := by rw [hx]; exact hz1
      rw [← hx] at Ex1 ⊢
      generalize wd.alloc (.cells #[.int .i64 0, .int .i64 0, .int .i64 0, .int .i64 0, .int .i64 0, .int .i64 0] 26) = wa1 at hS Ex1 ⊢
      clear hx hz1
      clear hK K
      try simp only [Act.put, List.setIfInBounds_toArray, List.set_cons_zero, List.set_cons_succ]
      refine wpAnyH_ready (rs := [3]) (by kernel_rfl) (by simp) ?_
      refine AllReadyH.cons (o := _) (by simp only [List.getElem?_toArray, List.getElem?_cons_succ, List.getElem?_cons_zero] <;> exact rfl) (fun K hK => ?_) ?_
      focus (
        go_simp
        have hz2 := hS.size
        have hS := hS.alloc hS.size (.cells #[.int .i64 0, .int .i64 0, .int .i64 0, .int .i64 0, .int .i64 0, .int .i64 0] 26)
        refine hK.out _ _ hS (fun _ => ?_)
        have Ex2 := Ex1.alloc (.cells #[.int .i64 0, .int .i64 0, .int .i64 0, .int .i64 0, .int .i64 0, .int .i64 0] 26)
        have Ey2 := BlkIs.new wa1 26 #[.int .i64 0, .int .i64 0, .int .i64 0, .int .i64 0, .int .i64 0, .int .i64 0]
        obtain ⟨y, hy⟩ : ∃ g, g = wa1.heap.size := ⟨_, rfl⟩
        have My : w0.heap.size ≤ y := by rw [hy]; exact hz2
        rw [← hy] at Ey2 ⊢
        have Nxy : x ≠ y := by have := Ex1.lt; omega
        have Nyx : y ≠ x := by have := Ex1.lt; omega
        generalize wa1.alloc (.cells #[.int .i64 0, .int .i64 0, .int .i64 0, .int .i64 0, .int .i64 0, .int .i64 0] 26) = wa2 at hS Ex2 Ey2 ⊢
        clear hy hz2
        clear hK K
        try simp only [Act.put, List.setIfInBounds_toArray, List.set_cons_zero, List.set_cons_succ]
        refine wpAnyH_ready (rs := [4]) (by kernel_rfl) (by simp) ?_
        refine AllReadyH.cons (o := _) (by simp only [List.getElem?_toArray, List.getElem?_cons_succ, List.getElem?_cons_zero] <;> exact rfl) (fun K hK => ?_) ?_
        focus (
          refine rgs_store_blk (by rfl) 26 (.tmp 7) (.tmp 16) (by rfl) x V.cs #[.int .i64 0, .int .i64 0, .int .i64 0, .int .i64 0, .int .i64 0, .int .i64 0] 26 (by rfl) (by rfl) Ex2 ss_size rfl (Vs.cs_one V) ?_
          have hS := below_setRow hS Mx V.cs
          have Ex3 := Ex2.row V.cs
          have Ey3 := Ey2.row_other Nyx V.cs
          refine hK.out _ _ hS (fun _ => ?_)
          generalize wa2.setRow x V.cs = ws3 at hS Ex3 Ey3 ⊢
          clear hK K
          try simp only [Act.put, List.setIfInBounds_toArray, List.set_cons_zero, List.set_cons_succ]
          refine wpAnyH_ready (rs := [5]) (by kernel_rfl) (by simp) ?_
          refine AllReadyH.cons (o := _) (by simp only [List.getElem?_toArray, List.getElem?_cons_succ, List.getElem?_cons_zero] <;> exact rfl) (fun K hK => ?_) ?_
          focus (
            refine rgs_store_blk (by rfl) 26 (.tmp 8) (.tmp 17) (by rfl) y U.cs #[.int .i64 0, .int .i64 0, .int .i64 0, .int .i64 0, .int .i64 0, .int .i64 0] 26 (by rfl) (by rfl) Ey3 ss_size rfl (Vs.cs_one U) ?_
            have hS := below_setRow hS My U.cs
            have Ex4 := Ex3.row_other Nxy U.cs
            have Ey4 := Ey3.row U.cs
            refine hK.out _ _ hS (fun _ => ?_)
            generalize ws3.setRow y U.cs = ws4 at hS Ex4 Ey4 ⊢
            clear hK K
            try simp only [Act.put, List.setIfInBounds_toArray, List.set_cons_zero, List.set_cons_succ]
            refine wpAnyH_done (by kernel_rfl) ?_ _
            refine NoPanic.normal ?_
            go_wp2
            go_meet
            exact ⟨x, y, rfl, rfl, Ex4, Ey4, hS⟩)
          exact AllReadyH.nil)
        exact AllReadyH.nil)
      exact AllReadyH.nil)
    refine AllReadyH.cons (o := _) (by simp only [List.getElem?_toArray, List.getElem?_cons_succ, List.getElem?_cons_zero] <;> exact rfl) (fun K hK => ?_) ?_
    focus (
      go_simp
      have hz5 := hS.size
      have hS := hS.alloc hS.size (.cells #[.int .i64 0, .int .i64 0, .int .i64 0, .int .i64 0, .int .i64 0, .int .i64 0] 26)
      refine hK.out _ _ hS (fun _ => ?_)
      have Ey5 := BlkIs.new wd 26 #[.int .i64 0, .int .i64 0, .int .i64 0, .int .i64 0, .int .i64 0, .int .i64 0]
      obtain ⟨y, hy⟩ : ∃ g, g = wd.heap.size := ⟨_, rfl⟩
      have My : w0.heap.size ≤ y := by rw [hy]; exact hz5
      rw [← hy] at Ey5 ⊢
      generalize wd.alloc (.cells #[.int .i64 0, .int .i64 0, .int .i64 0, .int .i64 0, .int .i64 0, .int .i64 0] 26) = wa5 at hS Ey5 ⊢
      clear hy hz5
      clear hK K
      try simp only [Act.put, List.setIfInBounds_toArray, List.set_cons_zero, List.set_cons_succ]
      refine wpAnyH_ready (rs := [2]) (by kernel_rfl) (by simp) ?_
      refine AllReadyH.cons (o := _) (by simp only [List.getElem?_toArray, List.getElem?_cons_succ, List.getElem?_cons_zero] <;> exact rfl) (fun K hK => ?_) ?_
      focus (
        go_simp
        have hz6 := hS.size
        have hS := hS.alloc hS.size (.cells #[.int .i64 0, .int .i64 0, .int .i64 0, .int .i64 0, .int .i64 0, .int .i64 0] 26)
        refine hK.out _ _ hS (fun _ => ?_)
        have Ey6 := Ey5.alloc (.cells #[.int .i64 0, .int .i64 0, .int .i64 0, .int .i64 0, .int .i64 0, .int .i64 0] 26)
        have Ex6 := BlkIs.new wa5 26 #[.int .i64 0, .int .i64 0, .int .i64 0, .int .i64 0, .int .i64 0, .int .i64 0]
        obtain ⟨x, hx⟩ : ∃ g, g = wa5.heap.size := ⟨_, rfl⟩
        have Mx : w0.heap.size ≤ x := by rw [hx]; exact hz6
        rw [← hx] at Ex6 ⊢
        have Nyx : y ≠ x := by have := Ey5.lt; omega
        have Nxy : x ≠ y := by have := Ey5.lt; omega
        generalize wa5.alloc (.cells #[.int .i64 0, .int .i64 0, .int .i64 0, .int .i64 0, .int .i64 0, .int .i64 0] 26) = wa6 at hS Ex6 Ey6 ⊢
        clear hx hz6
        clear hK K
        try simp only [Act.put, List.setIfInBounds_toArray, List.set_cons_zero, List.set_cons_succ]
        refine wpAnyH_ready (rs := [4]) (by kernel_rfl) (by simp) ?_
        refine AllReadyH.cons (o := _) (by simp only [List.getElem?_toArray, List.getElem?_cons_succ, List.getElem?_cons_zero] <;> exact rfl) (fun K hK => ?_) ?_
        focus (
          refine rgs_store_blk (by rfl) 26 (.tmp 7) (.tmp 16) (by rfl) x V.cs #[.int .i64 0, .int .i64 0, .int .i64 0, .int .i64 0, .int .i64 0, .int .i64 0] 26 (by rfl) (by rfl) Ex6 ss_size rfl (Vs.cs_one V) ?_
          have hS := below_setRow hS Mx V.cs
          have Ex7 := Ex6.row V.cs
          have Ey7 := Ey6.row_other Nyx V.cs
          refine hK.out _ _ hS (fun _ => ?_)
          generalize wa6.setRow x V.cs = ws7 at hS Ex7 Ey7 ⊢
          clear hK K
          try simp only [Act.put, List.setIfInBounds_toArray, List.set_cons_zero, List.set_cons_succ]
          refine wpAnyH_ready (rs := [5]) (by kernel_rfl) (by simp) ?_
          refine AllReadyH.cons (o := _) (by simp only [List.getElem?_toArray, List.getElem?_cons_succ, List.getElem?_cons_zero] <;> exact rfl) (fun K hK => ?_) ?_
          focus (
            refine rgs_store_blk (by rfl) 26 (.tmp 8) (.tmp 17) (by rfl) y U.cs #[.int .i64 0, .int .i64 0, .int .i64 0, .int .i64 0, .int .i64 0, .int .i64 0] 26 (by rfl) (by rfl) Ey7 ss_size rfl (Vs.cs_one U) ?_
            have hS := below_setRow hS My U.cs
            have Ex8 := Ex7.row_other Nxy U.cs
            have Ey8 := Ey7.row U.cs
            refine hK.out _ _ hS (fun _ => ?_)
            generalize ws7.setRow y U.cs = ws8 at hS Ex8 Ey8 ⊢
            clear hK K
            try simp only [Act.put, List.setIfInBounds_toArray, List.set_cons_zero, List.set_cons_succ]
            refine wpAnyH_done (by kernel_rfl) ?_ _
            refine NoPanic.normal ?_
            go_wp2
            go_meet
            exact ⟨x, y, rfl, rfl, Ex8, Ey8, hS⟩)
          exact AllReadyH.nil)
        exact AllReadyH.nil)
      exact AllReadyH.nil)
    exact AllReadyH.nil
  obtain ⟨pa, pb, rfl, rfl, ka, kb, hb⟩ := hcut
  have KA := hide ka
  have KB' := hide kb
  have HB := hide (HB0.out.trans (hb.mono (by have := HB0.out.size; have := HG.out; omega)))
  clear ka kb hb HV HU HB0
  by_cases hnn : n ≤ 40
  · have hn' : ¬ (40 : Int) < (n : Int) := by omega
    cases hov : okB V with
    | false =>
      rw [chkV_no hov] at HC1
      clear hov HC2
      go_wp2_with (refine rgs_load_want (by rfl) 26 (.tmp 7) (by rfl) pa (by rfl) 26 V.cs _ KA.out Try.underlying26 rfl ss_size ?_)
      refine (HC1.out _).mono ?_
      rintro e w2 ⟨rfl, hb2⟩
      have HB2 := hide (HB.out.trans (hb2.mono (by have := HB.out.size; have := HG.out; omega)))
      clear hb2 HB
      have HB := HB2
      clear HB2
      go_wp2_with fail
      refine (HAW.out _).mono ?_
      rintro e wz ⟨rfl, hbz⟩
      have HBZ := hide (HB.out.trans (hbz.mono (by have := HB.out.size; have := HG.out; omega)))
      clear hbz
      go_wp2_with fail
      go_ret
      exact ⟨rfl, HG.out ▸ HBZ.out⟩
    | true =>
      rw [chkV_yes hov] at HC1
      go_wp2_with (refine rgs_load_want (by rfl) 26 (.tmp 7) (by rfl) pa (by rfl) 26 V.cs _ KA.out Try.underlying26 rfl ss_size ?_)
      refine (HC1.out _).mono ?_
      rintro e w2 ⟨rfl, hb2⟩
      have HB2 := hide (HB.out.trans (hb2.mono (by have := HB.out.size; have := HG.out; omega)))
      have KA2 := hide (KA.out.keep hb2)
      have KB2 := hide (KB'.out.keep hb2)
      clear hb2 HB KA KB' HC1
      have HB := HB2
      have KA := KA2
      have KB' := KB2
      clear HB2 KA2 KB2
      cases hou : okB U with
      | false =>
        rw [chkV_no hou] at HC2
        clear hou hov
        go_wp2_with (refine rgs_load_want (by rfl) 26 (.tmp 8) (by rfl) pb (by rfl) 26 U.cs _ KB'.out Try.underlying26 rfl ss_size ?_)
        refine (HC2.out _).mono ?_
        rintro e w2 ⟨rfl, hb2⟩
        have HB2 := hide (HB.out.trans (hb2.mono (by have := HB.out.size; have := HG.out; omega)))
        clear hb2 HB
        have HB := HB2
        clear HB2
        go_wp2_with fail
        refine (HAW.out _).mono ?_
        rintro e wz ⟨rfl, hbz⟩
        have HBZ := hide (HB.out.trans (hbz.mono (by have := HB.out.size; have := HG.out; omega)))
        clear hbz
        go_wp2_with fail
        go_ret
        exact ⟨rfl, HG.out ▸ HBZ.out⟩
      | true =>
        rw [chkV_yes hou] at HC2
        go_wp2_with (refine rgs_load_want (by rfl) 26 (.tmp 8) (by rfl) pb (by rfl) 26 U.cs _ KB'.out Try.underlying26 rfl ss_size ?_)
        refine (HC2.out _).mono ?_
        rintro e w3 ⟨rfl, hb2⟩
        have HB2 := hide (HB.out.trans (hb2.mono (by have := HB.out.size; have := HG.out; omega)))
        have KA2 := hide (KA.out.keep hb2)
        have KB2 := hide (KB'.out.keep hb2)
        clear hb2 HB KA KB' HC2
        have HB := HB2
        have KA := KA2
        have KB' := KB2
        clear HB2 KA2 KB2
        have HPP := hide (fun w => ss_Pairs V U w)
        have HLN := hide (pairs_len V U)
        have HA1 := hide (fun (w' : World) (A' : Option Addr) (c' : Nat) (h : PL w' A' (pairsS V U).length c' (pairsS V U)) => (show Calls Try.prog 8 #[.agg V.cs, .slice A' (pairsS V U).length c'] w' (GivesAp .u32 (U, 0) w') from apply_pairs hov hou ▸ ss_Apply V A' _ c' _ w' h (pairs_ok hou) (by have := HLN.out; omega)))
        have HA2 := hide (fun (w' : World) (h : PL w' A n c l) => ss_Apply V A n c l w' h HAL.out (by omega))
        have HPS := hide (fun w => ss_Pairs V V w)
        rw [pairs_self] at HPS
        have HYC := hide (show chkV (applyS V l).1 = 0 from chkV_yes (apply_ok hov HAL.out))
        have HOV := hide hov
        have HYN := hide (show ∀ x, runS V l = (x, 0) → applyS V l = (x, 0) from fun x h => apply_all hov h)
        obtain ⟨d0, d1⟩ := apply_code V l
        have HNM := hide (show n ≤ maxLen from Nat.le_trans HPL.out.le HPL.out.max)
        clear hov hou
        generalize pairsS V U = lp at *
        go_upto_region 4 with (fail)
        go_cut [9, 10] (fun s9 s10 wx => XcS w3 wx U 0 s9 s10)
        case first =>
          refine wp_region_noPanic ?_
          refine wp_region_held_drew (S := fun w' => Below w3.heap.size w3 w') (by kernel_rfl) (Below.refl _ _).drew (fun hS => ?_)
          generalize w3.drew = wd at hS ⊢
          refine wpAnyH_take (i := 0) (by simp only [List.getElem?_toArray, List.getElem?_cons_zero] <;> exact rfl) (by kernel_rfl) (by kernel_rfl) (by kernel_rfl) (fun _ _ _ h => h) (rgs_yields_blk (by rfl) 26 (.tmp 7) (by rfl) pa (by rfl) 26 V.cs _ (fun w' hw' => KA.out.keep hw') Try.underlying26 rfl ss_size) hS ?_
          try simp only [Act.put, List.setIfInBounds_toArray, List.set_cons_zero, List.set_cons_succ]
          refine wpAnyH_take (i := 1) (by simp only [List.getElem?_toArray, List.getElem?_cons_succ, List.getElem?_cons_zero] <;> exact rfl) (by kernel_rfl) (by kernel_rfl) (by kernel_rfl) (fun _ _ _ h => h) (rgs_yields_blk (by rfl) 26 (.tmp 7) (by rfl) pa (by rfl) 26 V.cs _ (fun w' hw' => KA.out.keep hw') Try.underlying26 rfl ss_size) hS ?_
          try simp only [Act.put, List.setIfInBounds_toArray, List.set_cons_zero, List.set_cons_succ]
          refine wpAnyH_take (i := 2) (by simp only [List.getElem?_toArray, List.getElem?_cons_succ, List.getElem?_cons_zero] <;> exact rfl) (by kernel_rfl) (by kernel_rfl) (by kernel_rfl) (fun _ _ _ h => h) (rgs_yields_blk (by rfl) 26 (.tmp 8) (by rfl) pb (by rfl) 26 U.cs _ (fun w' hw' => KB'.out.keep hw') Try.underlying26 rfl ss_size) hS ?_
          try simp only [Act.put, List.setIfInBounds_toArray, List.set_cons_zero, List.set_cons_succ]
          refine wpAnyH_ready (rs := [3, 8]) (by kernel_rfl) (by simp) ?_
          refine AllReadyH.cons (o := _) (by simp only [List.getElem?_toArray, List.getElem?_cons_succ, List.getElem?_cons_zero] <;> exact rfl) (fun K hK => ?_) ?_
          focus (
            go_simp
            go_at_call 15
            refine (HPP.out _).mono ?_
            rintro e wr1 ⟨A1, c1, rfl, hp, hb⟩
            have hS := hS.trans (hb.mono hS.size)
            clear hb
            go_wp2_with fail
            refine hK.out _ _ hS (fun _ => ?_)
            clear hK K
            try simp only [Act.put, List.setIfInBounds_toArray, List.set_cons_zero, List.set_cons_succ]
            refine wpAnyH_ready (rs := [4, 8]) (by kernel_rfl) (by simp) ?_
            refine AllReadyH.cons (o := _) (by simp only [List.getElem?_toArray, List.getElem?_cons_succ, List.getElem?_cons_zero] <;> exact rfl) (fun K hK => ?_) ?_
            focus (
              go_simp
              go_at_call 8
              refine (HA1.out _ _ _ hp).mono ?_
              rintro e wr2 ⟨rfl, hb⟩
              have hS := hS.trans (hb.mono hS.size)
              have Ehp2 := hp.keep hb
              clear hb
              go_wp2_with fail
              refine hK.out _ _ hS (fun _ => ?_)
              clear hK K
              try simp only [Act.put, List.setIfInBounds_toArray, List.set_cons_zero, List.set_cons_succ]
              refine wpAnyH_take (i := 5) (v := ?_) (by simp only [List.getElem?_toArray, List.getElem?_cons_succ, List.getElem?_cons_zero] <;> exact rfl) (by kernel_rfl) (by kernel_rfl) (by kernel_rfl) (fun _ _ _ h => h) (Or.inl ⟨by rfl, ?_⟩) hS ?_
              rotate_left
              focus (intro w' hw'; go_simp; all_goals with_reducible rfl)
              try simp only [Act.put, List.setIfInBounds_toArray, List.set_cons_zero, List.set_cons_succ]
              refine wpAnyH_take (i := 6) (v := ?_) (by simp only [List.getElem?_toArray, List.getElem?_cons_succ, List.getElem?_cons_zero] <;> exact rfl) (by kernel_rfl) (by kernel_rfl) (by kernel_rfl) (fun _ _ _ h => h) (Or.inl ⟨by rfl, ?_⟩) hS ?_
              rotate_left
              focus (intro w' hw'; go_simp; all_goals with_reducible rfl)
              try simp only [Act.put, List.setIfInBounds_toArray, List.set_cons_zero, List.set_cons_succ]
              refine wpAnyH_take (i := 7) (v := ?_) (by simp only [List.getElem?_toArray, List.getElem?_cons_succ, List.getElem?_cons_zero] <;> exact rfl) (by kernel_rfl) (by kernel_rfl) (by kernel_rfl) (fun _ _ _ h => h) (Or.inl ⟨by rfl, ?_⟩) hS ?_
              rotate_left
              focus (intro w' hw'; go_simp; all_goals with_reducible rfl)
              try simp only [Act.put, List.setIfInBounds_toArray, List.set_cons_zero, List.set_cons_succ]
              refine wpAnyH_ready (rs := [8]) (by kernel_rfl) (by simp) ?_
              refine AllReadyH.cons (o := _) (by simp only [List.getElem?_toArray, List.getElem?_cons_succ, List.getElem?_cons_zero] <;> exact rfl) (fun K hK => ?_) ?_
              focus (
                go_simp
                have hz3 := hS.size
                have hS := hS.alloc hS.size (.cells #[.int .i64 0, .int .i64 0, .int .i64 0, .int .i64 0, .int .i64 0, .int .i64 0] 26)
                refine hK.out _ _ hS (fun _ => ?_)
                have Ehp3 := Ehp2.alloc (.cells #[.int .i64 0, .int .i64 0, .int .i64 0, .int .i64 0, .int .i64 0, .int .i64 0] 26)
                have Ex3 := BlkIs.new wr2 26 #[.int .i64 0, .int .i64 0, .int .i64 0, .int .i64 0, .int .i64 0, .int .i64 0]
                obtain ⟨x, hx⟩ : ∃ g, g = wr2.heap.size := ⟨_, rfl⟩
                have Mx : w3.heap.size ≤ x := by rw [hx]; exact hz3
                rw [← hx] at Ex3 ⊢
                generalize wr2.alloc (.cells #[.int .i64 0, .int .i64 0, .int .i64 0, .int .i64 0, .int .i64 0, .int .i64 0] 26) = wa3 at hS Ex3 Ehp3 ⊢
                clear hx hz3
                clear hK K
                try simp only [Act.put, List.setIfInBounds_toArray, List.set_cons_zero, List.set_cons_succ]
                refine wpAnyH_ready (rs := [9]) (by kernel_rfl) (by simp) ?_
                refine AllReadyH.cons (o := _) (by simp only [List.getElem?_toArray, List.getElem?_cons_succ, List.getElem?_cons_zero] <;> exact rfl) (fun K hK => ?_) ?_
                focus (
                  refine rgs_store_blk (by rfl) 26 (.tmp 9) (.tmp 38) (by rfl) x U.cs #[.int .i64 0, .int .i64 0, .int .i64 0, .int .i64 0, .int .i64 0, .int .i64 0] 26 (by rfl) (by rfl) Ex3 ss_size rfl (Vs.cs_one U) ?_
                  have hS := below_setRow hS Mx U.cs
                  have Ex4 := Ex3.row U.cs
                  refine hK.out _ _ hS (fun _ => ?_)
                  generalize wa3.setRow x U.cs = ws4 at hS Ex4 ⊢
                  clear hK K
                  try simp only [Act.put, List.setIfInBounds_toArray, List.set_cons_zero, List.set_cons_succ]
                  refine wpAnyH_take (i := 10) (v := ?_) (by simp only [List.getElem?_toArray, List.getElem?_cons_succ, List.getElem?_cons_zero] <;> exact rfl) (by kernel_rfl) (by kernel_rfl) (by kernel_rfl) (fun _ _ _ h => h) (Or.inl ⟨by rfl, ?_⟩) hS ?_
                  rotate_left
                  focus (intro w' hw'; go_simp; all_goals with_reducible rfl)
                  try simp only [Act.put, List.setIfInBounds_toArray, List.set_cons_zero, List.set_cons_succ]
                  refine wpAnyH_done (by kernel_rfl) ?_ _
                  refine NoPanic.normal ?_
                  go_wp2
                  go_meet
                  exact ⟨x, rfl, rfl, Ex4, hS⟩)
                exact AllReadyH.nil)
              exact AllReadyH.nil)
            refine AllReadyH.cons (o := _) (by simp only [List.getElem?_toArray, List.getElem?_cons_succ, List.getElem?_cons_zero] <;> exact rfl) (fun K hK => ?_) ?_
            focus (
              go_simp
              have hz5 := hS.size
              have hS := hS.alloc hS.size (.cells #[.int .i64 0, .int .i64 0, .int .i64 0, .int .i64 0, .int .i64 0, .int .i64 0] 26)
              refine hK.out _ _ hS (fun _ => ?_)
              have Ehp5 := hp.alloc (.cells #[.int .i64 0, .int .i64 0, .int .i64 0, .int .i64 0, .int .i64 0, .int .i64 0] 26)
              have Ex5 := BlkIs.new wr1 26 #[.int .i64 0, .int .i64 0, .int .i64 0, .int .i64 0, .int .i64 0, .int .i64 0]
              obtain ⟨x, hx⟩ : ∃ g, g = wr1.heap.size := ⟨_, rfl⟩
              have Mx : w3.heap.size ≤ x := by rw [hx]; exact hz5
              rw [← hx] at Ex5 ⊢
              generalize wr1.alloc (.cells #[.int .i64 0, .int .i64 0, .int .i64 0, .int .i64 0, .int .i64 0, .int .i64 0] 26) = wa5 at hS Ex5 Ehp5 ⊢
              clear hx hz5
              clear hK K
              try simp only [Act.put, List.setIfInBounds_toArray, List.set_cons_zero, List.set_cons_succ]
              refine wpAnyH_ready (rs := [4]) (by kernel_rfl) (by simp) ?_
              refine AllReadyH.cons (o := _) (by simp only [List.getElem?_toArray, List.getElem?_cons_succ, List.getElem?_cons_zero] <;> exact rfl) (fun K hK => ?_) ?_
              focus (
                go_simp
                go_at_call 8
                refine (HA1.out _ _ _ Ehp5).mono ?_
                rintro e wr6 ⟨rfl, hb⟩
                have hS := hS.trans (hb.mono hS.size)
                have Ex6 := Ex5.keep hb
                have Ehp6 := Ehp5.keep hb
                clear hb
                go_wp2_with fail
                refine hK.out _ _ hS (fun _ => ?_)
                clear hK K
                try simp only [Act.put, List.setIfInBounds_toArray, List.set_cons_zero, List.set_cons_succ]
                refine wpAnyH_take (i := 5) (v := ?_) (by simp only [List.getElem?_toArray, List.getElem?_cons_succ, List.getElem?_cons_zero] <;> exact rfl) (by kernel_rfl) (by kernel_rfl) (by kernel_rfl) (fun _ _ _ h => h) (Or.inl ⟨by rfl, ?_⟩) hS ?_
                rotate_left
                focus (intro w' hw'; go_simp; all_goals with_reducible rfl)
                try simp only [Act.put, List.setIfInBounds_toArray, List.set_cons_zero, List.set_cons_succ]
                refine wpAnyH_take (i := 6) (v := ?_) (by simp only [List.getElem?_toArray, List.getElem?_cons_succ, List.getElem?_cons_zero] <;> exact rfl) (by kernel_rfl) (by kernel_rfl) (by kernel_rfl) (fun _ _ _ h => h) (Or.inl ⟨by rfl, ?_⟩) hS ?_
                rotate_left
                focus (intro w' hw'; go_simp; all_goals with_reducible rfl)
                try simp only [Act.put, List.setIfInBounds_toArray, List.set_cons_zero, List.set_cons_succ]
                refine wpAnyH_take (i := 7) (v := ?_) (by simp only [List.getElem?_toArray, List.getElem?_cons_succ, List.getElem?_cons_zero] <;> exact rfl) (by kernel_rfl) (by kernel_rfl) (by kernel_rfl) (fun _ _ _ h => h) (Or.inl ⟨by rfl, ?_⟩) hS ?_
                rotate_left
                focus (intro w' hw'; go_simp; all_goals with_reducible rfl)
                try simp only [Act.put, List.setIfInBounds_toArray, List.set_cons_zero, List.set_cons_succ]
                refine wpAnyH_ready (rs := [9]) (by kernel_rfl) (by simp) ?_
                refine AllReadyH.cons (o := _) (by simp only [List.getElem?_toArray, List.getElem?_cons_succ, List.getElem?_cons_zero] <;> exact rfl) (fun K hK => ?_) ?_
                focus (
                  refine rgs_store_blk (by rfl) 26 (.tmp 9) (.tmp 38) (by rfl) x U.cs #[.int .i64 0, .int .i64 0, .int .i64 0, .int .i64 0, .int .i64 0, .int .i64 0] 26 (by rfl) (by rfl) Ex6 ss_size rfl (Vs.cs_one U) ?_
                  have hS := below_setRow hS Mx U.cs
                  have Ex7 := Ex6.row U.cs
                  refine hK.out _ _ hS (fun _ => ?_)
                  generalize wr6.setRow x U.cs = ws7 at hS Ex7 ⊢
                  clear hK K
                  try simp only [Act.put, List.setIfInBounds_toArray, List.set_cons_zero, List.set_cons_succ]
                  refine wpAnyH_take (i := 10) (v := ?_) (by simp only [List.getElem?_toArray, List.getElem?_cons_succ, List.getElem?_cons_zero] <;> exact rfl) (by kernel_rfl) (by kernel_rfl) (by kernel_rfl) (fun _ _ _ h => h) (Or.inl ⟨by rfl, ?_⟩) hS ?_
                  rotate_left
                  focus (intro w' hw'; go_simp; all_goals with_reducible rfl)
                  try simp only [Act.put, List.setIfInBounds_toArray, List.set_cons_zero, List.set_cons_succ]
                  refine wpAnyH_done (by kernel_rfl) ?_ _
                  refine NoPanic.normal ?_
                  go_wp2
                  go_meet
                  exact ⟨x, rfl, rfl, Ex7, hS⟩)
                exact AllReadyH.nil)
              exact AllReadyH.nil)
            exact AllReadyH.nil)
          refine AllReadyH.cons (o := _) (by simp only [List.getElem?_toArray, List.getElem?_cons_succ, List.getElem?_cons_zero] <;> exact rfl) (fun K hK => ?_) ?_
          focus (
            go_simp
            have hz8 := hS.size
            have hS := hS.alloc hS.size (.cells #[.int .i64 0, .int .i64 0, .int .i64 0, .int .i64 0, .int .i64 0, .int .i64 0] 26)
            refine hK.out _ _ hS (fun _ => ?_)
            have Ex8 := BlkIs.new wd 26 #[.int .i64 0, .int .i64 0, .int .i64 0, .int .i64 0, .int .i64 0, .int .i64 0]
            obtain ⟨x, hx⟩ : ∃ g, g = wd.heap.size := ⟨_, rfl⟩
            have Mx : w3.heap.size ≤ x := by rw [hx]; exact hz8
            rw [← hx] at Ex8 ⊢
            generalize wd.alloc (.cells #[.int .i64 0, .int .i64 0, .int .i64 0, .int .i64 0, .int .i64 0, .int .i64 0] 26) = wa8 at hS Ex8 ⊢
            clear hx hz8
            clear hK K
            try simp only [Act.put, List.setIfInBounds_toArray, List.set_cons_zero, List.set_cons_succ]
            refine wpAnyH_ready (rs := [3]) (by kernel_rfl) (by simp) ?_
            refine AllReadyH.cons (o := _) (by simp only [List.getElem?_toArray, List.getElem?_cons_succ, List.getElem?_cons_zero] <;> exact rfl) (fun K hK => ?_) ?_
            focus (
              go_simp
              go_at_call 15
              refine (HPP.out _).mono ?_
              rintro e wr9 ⟨A1, c1, rfl, hp, hb⟩
              have hS := hS.trans (hb.mono hS.size)
              have Ex9 := Ex8.keep hb
              clear hb
              go_wp2_with fail
              refine hK.out _ _ hS (fun _ => ?_)
              clear hK K
              try simp only [Act.put, List.setIfInBounds_toArray, List.set_cons_zero, List.set_cons_succ]
              refine wpAnyH_ready (rs := [4]) (by kernel_rfl) (by simp) ?_
              refine AllReadyH.cons (o := _) (by simp only [List.getElem?_toArray, List.getElem?_cons_succ, List.getElem?_cons_zero] <;> exact rfl) (fun K hK => ?_) ?_
              focus (
                go_simp
                go_at_call 8
                refine (HA1.out _ _ _ hp).mono ?_
                rintro e wr10 ⟨rfl, hb⟩
                have hS := hS.trans (hb.mono hS.size)
                have Ex10 := Ex9.keep hb
                have Ehp10 := hp.keep hb
                clear hb
                go_wp2_with fail
                refine hK.out _ _ hS (fun _ => ?_)
                clear hK K
                try simp only [Act.put, List.setIfInBounds_toArray, List.set_cons_zero, List.set_cons_succ]
                refine wpAnyH_take (i := 5) (v := ?_) (by simp only [List.getElem?_toArray, List.getElem?_cons_succ, List.getElem?_cons_zero] <;> exact rfl) (by kernel_rfl) (by kernel_rfl) (by kernel_rfl) (fun _ _ _ h => h) (Or.inl ⟨by rfl, ?_⟩) hS ?_
                rotate_left
                focus (intro w' hw'; go_simp; all_goals with_reducible rfl)
                try simp only [Act.put, List.setIfInBounds_toArray, List.set_cons_zero, List.set_cons_succ]
                refine wpAnyH_take (i := 6) (v := ?_) (by simp only [List.getElem?_toArray, List.getElem?_cons_succ, List.getElem?_cons_zero] <;> exact rfl) (by kernel_rfl) (by kernel_rfl) (by kernel_rfl) (fun _ _ _ h => h) (Or.inl ⟨by rfl, ?_⟩) hS ?_
                rotate_left
                focus (intro w' hw'; go_simp; all_goals with_reducible rfl)
                try simp only [Act.put, List.setIfInBounds_toArray, List.set_cons_zero, List.set_cons_succ]
                refine wpAnyH_take (i := 7) (v := ?_) (by simp only [List.getElem?_toArray, List.getElem?_cons_succ, List.getElem?_cons_zero] <;> exact rfl) (by kernel_rfl) (by kernel_rfl) (by kernel_rfl) (fun _ _ _ h => h) (Or.inl ⟨by rfl, ?_⟩) hS ?_
                rotate_left
                focus (intro w' hw'; go_simp; all_goals with_reducible rfl)
                try simp only [Act.put, List.setIfInBounds_toArray, List.set_cons_zero, List.set_cons_succ]
                refine wpAnyH_ready (rs := [9]) (by kernel_rfl) (by simp) ?_
                refine AllReadyH.cons (o := _) (by simp only [List.getElem?_toArray, List.getElem?_cons_succ, List.getElem?_cons_zero] <;> exact rfl) (fun K hK => ?_) ?_
                focus (
                  refine rgs_store_blk (by rfl) 26 (.tmp 9) (.tmp 38) (by rfl) x U.cs #[.int .i64 0, .int .i64 0, .int .i64 0, .int .i64 0, .int .i64 0, .int .i64 0] 26 (by rfl) (by rfl) Ex10 ss_size rfl (Vs.cs_one U) ?_
                  have hS := below_setRow hS Mx U.cs
                  have Ex11 := Ex10.row U.cs
                  refine hK.out _ _ hS (fun _ => ?_)
                  generalize wr10.setRow x U.cs = ws11 at hS Ex11 ⊢
                  clear hK K
                  try simp only [Act.put, List.setIfInBounds_toArray, List.set_cons_zero, List.set_cons_succ]
                  refine wpAnyH_take (i := 10) (v := ?_) (by simp only [List.getElem?_toArray, List.getElem?_cons_succ, List.getElem?_cons_zero] <;> exact rfl) (by kernel_rfl) (by kernel_rfl) (by kernel_rfl) (fun _ _ _ h => h) (Or.inl ⟨by rfl, ?_⟩) hS ?_
                  rotate_left
                  focus (intro w' hw'; go_simp; all_goals with_reducible rfl)
                  try simp only [Act.put, List.setIfInBounds_toArray, List.set_cons_zero, List.set_cons_succ]
                  refine wpAnyH_done (by kernel_rfl) ?_ _
                  refine NoPanic.normal ?_
                  go_wp2
                  go_meet
                  exact ⟨x, rfl, rfl, Ex11, hS⟩)
                exact AllReadyH.nil)
              exact AllReadyH.nil)
            exact AllReadyH.nil)
          exact AllReadyH.nil
        obtain ⟨px, rfl, rfl, kx, hb⟩ := hcut
        have KX4 := hide kx
        have KA4 := hide (KA.out.keep hb)
        have KB4 := hide (KB'.out.keep hb)
        have HB4 := hide (HB.out.trans (hb.mono (by have := HB.out.size; have := HG.out; omega)))
        have HPL4 := hide (HPL.out.keep (HG.out ▸ HB4.out))
        clear kx hb KA KB' HB HPP HLN HA1
        obtain ⟨r, hr⟩ : ∃ r, r = applyS V l := ⟨_, rfl⟩
        rw [← hr] at HA2 HYC HYN d0 d1
        have HR := hide hr
        clear hr
        go_wp2_with (refine wpList_load_blk rfl 26 (.tmp 7) rfl pa rfl 26 V.cs _ KA4.out Try.underlying26 rfl ss_size ?_)
        refine (HA2.out _ HPL4.out).mono ?_
        rintro e w5 ⟨rfl, hb⟩
        obtain ⟨py, hpy⟩ : ∃ p, p = w5.heap.size := ⟨_, rfl⟩
        have KY5 := hide (show BlkIs (w5.alloc (.cells r.1.cs 26)) py 26 r.1.cs by rw [hpy]; exact BlkIs.new w5 _ _)
        have KX5 := hide ((KX4.out.keep hb).alloc (.cells r.1.cs 26))
        have KA5 := hide ((KA4.out.keep hb).alloc (.cells r.1.cs 26))
        have KB5 := hide ((KB4.out.keep hb).alloc (.cells r.1.cs 26))
        have HB5a := hide (HB4.out.trans (hb.mono (by have := HB4.out.size; have := HG.out; omega)))
        have HB5 := hide (HB5a.out.alloc (by have := HB5a.out.size; have := HG.out; omega) (.cells r.1.cs 26))
        clear hb KX4 KA4 KB4 HB4 HPL4 HB5a HA2
        go_upto_region 6 with (refine wpList_store_new rfl 26 (.tmp 11) (.tmp 44) rfl r.1.cs _ 26 rfl rfl ss_size rfl (Vs.cs_one r.1) ?_; simp only [Act.put])
        rw [← hpy]
        clear hpy
        generalize w5.alloc (.cells r.1.cs 26) = w6 at *
        obtain ⟨po, hpo⟩ : ∃ p, p = w6.heap.size := ⟨_, rfl⟩
        have KO := hide (show BlkIs (w6.alloc (.cells V.cs 26)) po 26 V.cs by rw [hpo]; exact BlkIs.new w6 _ _)
        have NO := hide (show g ≤ po ∧ pa ≠ po ∧ pb ≠ po ∧ px ≠ po ∧ py ≠ po by
          have := KA5.out.lt; have := KB5.out.lt; have := KX5.out.lt; have := KY5.out.lt; have := HB5.out.size; have := HG.out
          omega)
        have KY := hide (KY5.out.alloc (.cells V.cs 26))
        have KX := hide (KX5.out.alloc (.cells V.cs 26))
        have KA := hide (KA5.out.alloc (.cells V.cs 26))
        have KB' := hide (KB5.out.alloc (.cells V.cs 26))
        have HB := hide (HB5.out.alloc (by have := HB5.out.size; have := HG.out; omega) (.cells V.cs 26))
        go_upto_region 7 with (first
          | (refine wpList_load_blk rfl 26 (.tmp 7) rfl pa rfl 26 V.cs _ KA5.out Try.underlying26 rfl ss_size ?_)
          | (refine wpList_store_new rfl 26 (.tmp 13) (.tmp 46) rfl V.cs _ 26 rfl rfl ss_size rfl (Vs.cs_one V) ?_; simp only [Act.put]))
        rw [← hpo]
        clear hpo KY5 KX5 KA5 KB5 HB5
        generalize w6.alloc (.cells V.cs 26) = w7 at *
        go_wp2_with fail
        go_loopw [14, 15] (fun s14 s15 wr => ∃ (i : Nat) (one : Vs) (ec : Int), i ≤ n ∧ s15 = .int .i64 (i : Int) ∧ s14 = .int .u32 ec ∧ OneR V l i one ec ∧ 0 ≤ ec ∧ ec ≤ 4294967295 ∧ BlkIs wr po 26 one.cs ∧ BlkIs wr pa 26 V.cs ∧ BlkIs wr pb 26 U.cs ∧ BlkIs wr px 26 U.cs ∧ BlkIs wr py 26 r.1.cs ∧ Below g w wr) (fun _ k _ => n - (intOf k).toNat)
        case atStart => exact ⟨0, V, 0, by omega, rfl, rfl, .inl ⟨rfl, rfl, HOV.out⟩, by omega, by omega, KO.out, KA.out, KB'.out, KX.out, KY.out, HB.out⟩
        case round =>
          clear KO KA KB' KX KY HB
          obtain ⟨i, one, ec, hi, rfl, rfl, hone, x0, x1, ko, ka, kb, kx, ky, hb⟩ := hrel
          have KO := hide ko
          have KA := hide ka
          have KB' := hide kb
          have KX := hide kx
          have KY := hide ky
          have HB := hide hb
          have HON := hide hone
          clear ko ka kb kx ky hb hone
          by_cases hec : ec = 0
          · subst hec
            have HRO := hide (show runS V (l.take i) = (one, 0) ∧ okB one = true from by
              rcases HON.out with h | h
              · exact h.2
              · exact absurd rfl h.1)
            clear HON
            by_cases hlt : i < n
            · have hlt' : (i : Int) < (n : Int) := by omega
              obtain ⟨f, b, off, hf, rfl, hbl, c0, c1⟩ := (HPL.out.keep (HG.out ▸ HB.out)).round hlt
              have hfo := HAL.out f (List.mem_of_getElem? hf)
              have HNX := hide (oneR_next HOV.out HRO.out.1 HRO.out.2 hf hfo)
              have HEB := hide (apply_code one [f])
              obtain ⟨hs1, hs2⟩ := slice_one (HPL.out.keep (HG.out ▸ HB.out)) hf
              have HSL := hide hs1
              have HPI := hide hs2
              have HONE := hide (fun (w' : World) (h : PL w' (some ⟨b, off + i * 2, none⟩) 1 (c - i) [f]) => ss_Apply one _ 1 (c - i) [f] w' h (fun p hp => by simp at hp; subst hp; exact hfo) (by omega))
              have HWI := hide (show IntKind.i64.wrap ((i : Int) + 1) = (i : Int) + 1 from IntWalk.i64_in _ (by omega))
              obtain ⟨NO0, NO1, NO2, NO3, NO4⟩ := NO.out
              generalize applyS one [f] = r2 at *
              clear hf hfo hbl c0 c1 hs1 hs2 HYN HYC
              go_upto_region 11 with (fail)
              refine wp_region_noPanic ?_
              refine wp_region_held_drew (S := fun w' => KB (· = po) wr w') (by kernel_rfl) (KB.refl _ _).drew (fun hS => ?_)
              have hre := KO.out.drew
              have hpl := HPI.out.drew
              generalize wr.drew = wd at hS hre hpl ⊢
              refine wpAnyH_take (i := 1) (v := ?_) (by simp only [List.getElem?_toArray, List.getElem?_cons_succ, List.getElem?_cons_zero] <;> exact rfl) (by kernel_rfl) (by kernel_rfl) (by kernel_rfl) (fun _ _ _ h => h) (Or.inl ⟨by rfl, ?_⟩) hS ?_
              rotate_left
              focus (intro w' hw'; go_simp; all_goals with_reducible rfl)
              try simp only [Act.put, List.setIfInBounds_toArray, List.set_cons_zero, List.set_cons_succ]
              refine wpAnyH_take (i := 2) (v := ?_) (by simp only [List.getElem?_toArray, List.getElem?_cons_succ, List.getElem?_cons_zero] <;> exact rfl) (by kernel_rfl) (by kernel_rfl) (by kernel_rfl) (fun _ _ _ h => h) (Or.inl ⟨by rfl, ?_⟩) hS ?_
              rotate_left
              focus (intro w' hw'; go_simp; all_goals with_reducible rfl)
              try simp only [Act.put, List.setIfInBounds_toArray, List.set_cons_zero, List.set_cons_succ]
              refine wpAnyH_take (i := 3) (v := ?_) (by simp only [List.getElem?_toArray, List.getElem?_cons_succ, List.getElem?_cons_zero] <;> exact rfl) (by kernel_rfl) (by kernel_rfl) (by kernel_rfl) (fun _ _ _ h => h) (Or.inl ⟨by rfl, ?_⟩) hS ?_
              rotate_left
              focus (intro w' hw'; go_simp; all_goals with_reducible rfl)
              try simp only [Act.put, List.setIfInBounds_toArray, List.set_cons_zero, List.set_cons_succ]
              refine wpAnyH_take (i := 4) (v := ?_) (by simp only [List.getElem?_toArray, List.getElem?_cons_succ, List.getElem?_cons_zero] <;> exact rfl) (by kernel_rfl) (by kernel_rfl) (by kernel_rfl) (fun _ _ _ h => h) (Or.inl ⟨by rfl, ?_⟩) hS ?_
              rotate_left
              focus (intro w' hw'; have kk : IntKind.i64.wrap ((i : Int) + 1) = (i : Int) + 1 := HWI.out; go_simp; all_goals with_reducible rfl)
              try simp only [Act.put, List.setIfInBounds_toArray, List.set_cons_zero, List.set_cons_succ]
              refine wpAnyH_take (i := 5) (v := ?_) (by simp only [List.getElem?_toArray, List.getElem?_cons_succ, List.getElem?_cons_zero] <;> exact rfl) (by kernel_rfl) (by kernel_rfl) (by kernel_rfl) (fun _ _ _ h => h) (Or.inl ⟨by rfl, ?_⟩) hS ?_
              rotate_left
              focus (intro w' hw'; have kk := HSL.out w'; go_simp; all_goals with_reducible rfl)
              try simp only [Act.put, List.setIfInBounds_toArray, List.set_cons_zero, List.set_cons_succ]
              refine wpAnyH_ready (rs := [0]) (by kernel_rfl) (by simp) ?_
              refine AllReadyH.cons (o := _) (by simp only [List.getElem?_toArray, List.getElem?_cons_succ, List.getElem?_cons_zero] <;> exact rfl) (fun K hK => ?_) ?_
              focus (
                refine rgs_ld_blk (by rfl) 26 (.tmp 13) (by rfl) po (by rfl) 26 one.cs _ hre Try.underlying26 rfl ss_size ?_
                refine hK.out _ _ hS (fun _ => ?_)
                clear hK K
                try simp only [Act.put, List.setIfInBounds_toArray, List.set_cons_zero, List.set_cons_succ]
                refine wpAnyH_ready (rs := [6]) (by kernel_rfl) (by simp) ?_
                refine AllReadyH.cons (o := _) (by simp only [List.getElem?_toArray, List.getElem?_cons_succ, List.getElem?_cons_zero] <;> exact rfl) (fun K hK => ?_) ?_
                focus (
                  go_simp
                  go_at_call 8
                  refine (HONE.out _ hpl).mono ?_
                  rintro e wc ⟨rfl, hb⟩
                  have hS := hS.trans' (KB.of_below (· = po) hb) (fun _ _ h => h)
                  have hre := hre.keep hb
                  clear hb
                  go_wp2_with fail
                  refine hK.out _ _ hS (fun _ => ?_)
                  clear hK K
                  try simp only [Act.put, List.setIfInBounds_toArray, List.set_cons_zero, List.set_cons_succ]
                  refine wpAnyH_take (i := 7) (v := ?_) (by simp only [List.getElem?_toArray, List.getElem?_cons_succ, List.getElem?_cons_zero] <;> exact rfl) (by kernel_rfl) (by kernel_rfl) (by kernel_rfl) (fun _ _ _ h => h) (Or.inl ⟨by rfl, ?_⟩) hS ?_
                  rotate_left
                  focus (intro w' hw'; go_simp; all_goals with_reducible rfl)
                  try simp only [Act.put, List.setIfInBounds_toArray, List.set_cons_zero, List.set_cons_succ]
                  refine wpAnyH_take (i := 8) (v := ?_) (by simp only [List.getElem?_toArray, List.getElem?_cons_succ, List.getElem?_cons_zero] <;> exact rfl) (by kernel_rfl) (by kernel_rfl) (by kernel_rfl) (fun _ _ _ h => h) (Or.inl ⟨by rfl, ?_⟩) hS ?_
                  rotate_left
                  focus (intro w' hw'; go_simp; all_goals with_reducible rfl)
                  try simp only [Act.put, List.setIfInBounds_toArray, List.set_cons_zero, List.set_cons_succ]
                  refine wpAnyH_take (i := 9) (v := ?_) (by simp only [List.getElem?_toArray, List.getElem?_cons_succ, List.getElem?_cons_zero] <;> exact rfl) (by kernel_rfl) (by kernel_rfl) (by kernel_rfl) (fun _ _ _ h => h) (Or.inl ⟨by rfl, ?_⟩) hS ?_
                  rotate_left
                  focus (intro w' hw'; go_simp; all_goals with_reducible rfl)
                  try simp only [Act.put, List.setIfInBounds_toArray, List.set_cons_zero, List.set_cons_succ]
                  refine wpAnyH_ready (rs := [10]) (by kernel_rfl) (by simp) ?_
                  refine AllReadyH.cons (o := _) (by simp only [List.getElem?_toArray, List.getElem?_cons_succ, List.getElem?_cons_zero] <;> exact rfl) (fun K hK => ?_) ?_
                  focus (
                    refine rgs_store_blk (by rfl) 26 (.tmp 13) (.tmp 65) (by rfl) po r2.1.cs one.cs 26 (by rfl) (by rfl) hre ss_size rfl (Vs.cs_one r2.1) ?_
                    have hk2 := BlkIs.row hre r2.1.cs
                    have hS2 := hS.setRow (g := po) (fun _ => rfl) r2.1.cs
                    clear hS
                    have hS := hS2
                    clear hS2
                    refine hK.out _ _ hS (fun _ => ?_)
                    clear hK K
                    try simp only [Act.put, List.setIfInBounds_toArray, List.set_cons_zero, List.set_cons_succ]
                    refine wpAnyH_take (i := 11) (v := ?_) (by simp only [List.getElem?_toArray, List.getElem?_cons_succ, List.getElem?_cons_zero] <;> exact rfl) (by kernel_rfl) (by kernel_rfl) (by kernel_rfl) (fun _ _ _ h => h) (Or.inl ⟨by rfl, ?_⟩) hS ?_
                    rotate_left
                    focus (intro w' hw'; go_simp; all_goals with_reducible rfl)
                    try simp only [Act.put, List.setIfInBounds_toArray, List.set_cons_zero, List.set_cons_succ]
                    refine wpAnyH_done (by kernel_rfl) ?_ _
                    refine NoPanic.normal ?_
                    have HS5 := hide hS
                    have KO5 := hide hk2
                    clear hS hk2
                    generalize wc.setRow po r2.1.cs = w9 at *
                    go_wp2
                    go_roundw
                    case rel => exact ⟨i + 1, r2.1, r2.2, by omega, by go_num, rfl, HNX.out, HEB.out.1, HEB.out.2, KO5.out, HS5.out.blk KA.out (by omega), HS5.out.blk KB'.out (by omega), HS5.out.blk KX.out (by omega), HS5.out.blk KY.out (by omega), below_kb HB.out HS5.out (by omega) (by have := HG.out; omega)⟩
                    case measure => simp [intOf]; omega)
                  exact AllReadyH.nil)
                exact AllReadyH.nil)
              exact AllReadyH.nil
            · obtain rfl : i = n := by omega
              have HX := HYN.out one (by have h := HRO.out.1; rwa [← HPL.out.len, List.take_length] at h)
              subst HX
              clear HYN HRO HR d0 d1 x0 x1
              simp only at KY HYC
              have HCY := hide (fun w => ss_Check one w)
              rw [HYC.out] at HCY
              have kone0 : one.cs[0]? = some (.int .i64 one.t) := rfl
              have kone1 : one.cs[1]? = some (.int .i64 one.p) := rfl
              have kone2 : one.cs[2]? = some (.int .i64 one.s) := rfl
              have kone3 : one.cs[3]? = some (.int .i64 one.w) := rfl
              have kone4 : one.cs[4]? = some (.int .i64 one.f) := rfl
              have kone5 : one.cs[5]? = some (.int .i64 one.l) := rfl
              go_upto_region 14 with (first | (refine rgs_load_want (by rfl) 26 (.tmp 11) (by rfl) py (by rfl) 26 one.cs _ KY.out Try.underlying26 rfl ss_size ?_) | (refine rgs_load_want (by rfl) 26 (.tmp 13) (by rfl) po (by rfl) 26 one.cs _ KO.out Try.underlying26 rfl ss_size ?_) | (refine rgs_load_want (by rfl) 26 (.tmp 7) (by rfl) pa (by rfl) 26 V.cs _ KA.out Try.underlying26 rfl ss_size ?_))
              clear kone0 kone1 kone2 kone3 kone4 kone5
              have kU0 : U.cs[0]? = some (.int .i64 U.t) := rfl
              have kU1 : U.cs[1]? = some (.int .i64 U.p) := rfl
              have kU2 : U.cs[2]? = some (.int .i64 U.s) := rfl
              have kU3 : U.cs[3]? = some (.int .i64 U.w) := rfl
              have kU4 : U.cs[4]? = some (.int .i64 U.f) := rfl
              have kU5 : U.cs[5]? = some (.int .i64 U.l) := rfl
              go_wp2_with (first | (refine wpList_load_blk rfl 26 (.tmp 9) rfl px rfl 26 U.cs _ KX.out Try.underlying26 rfl ss_size ?_) | (refine wpList_load_blk rfl 26 (.tmp 8) rfl pb rfl 26 U.cs _ KB'.out Try.underlying26 rfl ss_size ?_) | (refine rgs_load_want (by rfl) 26 (.tmp 7) (by rfl) pa (by rfl) 26 V.cs _ KA.out Try.underlying26 rfl ss_size ?_))
              clear kU0 kU1 kU2 kU3 kU4 kU5
              refine (HPS.out _).mono ?_
              rintro e w8 ⟨A8, c8, rfl, hp8, hb8⟩
              have KY8 := hide (KY.out.keep hb8)
              have HB8 := hide (HB.out.trans (hb8.mono (by have := HB.out.size; have := HG.out; omega)))
              clear hb8 hp8
              go_wp2_with (refine rgs_load_want (by rfl) 26 (.tmp 11) (by rfl) py (by rfl) 26 one.cs _ KY8.out Try.underlying26 rfl ss_size ?_)
              refine (HCY.out _).mono ?_
              rintro e w9 ⟨rfl, hb9⟩
              have HB9 := hide (HB8.out.trans (hb9.mono (by have := HB8.out.size; have := HG.out; omega)))
              clear hb9 HB HB8
              have HB := HB9
              clear HB9
              go_wp2_with fail
              refine (HAW.out _).mono ?_
              rintro e wz ⟨rfl, hbz⟩
              have HBZ := hide (HB.out.trans (hbz.mono (by have := HB.out.size; have := HG.out; omega)))
              clear hbz
              go_wp2_with fail
              go_ret
              exact ⟨rfl, HG.out ▸ HBZ.out⟩
          · have HX : r = (V, ec) := by
              rcases HON.out with h | h
              · exact absurd h.1 hec
              · exact HR.out.trans h.2
            subst HX
            clear HYN HR HON d0 d1
            simp only at KY HYC
            have h2 : (ec == 0) = false := by simp [hec]
            by_cases hlt : i < n
            · have hlt' : (i : Int) < (n : Int) := by omega
              have h3 : (ec != ec) = false := by simp
              have h4 : (ec != 0) = true := by simp [hec]
              have HCY := hide (fun w => ss_Check V w)
              rw [HYC.out] at HCY
              have kV0 : V.cs[0]? = some (.int .i64 V.t) := rfl
              have kV1 : V.cs[1]? = some (.int .i64 V.p) := rfl
              have kV2 : V.cs[2]? = some (.int .i64 V.s) := rfl
              have kV3 : V.cs[3]? = some (.int .i64 V.w) := rfl
              have kV4 : V.cs[4]? = some (.int .i64 V.f) := rfl
              have kV5 : V.cs[5]? = some (.int .i64 V.l) := rfl
              go_upto_region 14 with (first | (refine rgs_load_want (by rfl) 26 (.tmp 11) (by rfl) py (by rfl) 26 V.cs _ KY.out Try.underlying26 rfl ss_size ?_) | (refine rgs_load_want (by rfl) 26 (.tmp 13) (by rfl) po (by rfl) 26 one.cs _ KO.out Try.underlying26 rfl ss_size ?_) | (refine rgs_load_want (by rfl) 26 (.tmp 7) (by rfl) pa (by rfl) 26 V.cs _ KA.out Try.underlying26 rfl ss_size ?_))
              clear kV0 kV1 kV2 kV3 kV4 kV5
              have kU0 : U.cs[0]? = some (.int .i64 U.t) := rfl
              have kU1 : U.cs[1]? = some (.int .i64 U.p) := rfl
              have kU2 : U.cs[2]? = some (.int .i64 U.s) := rfl
              have kU3 : U.cs[3]? = some (.int .i64 U.w) := rfl
              have kU4 : U.cs[4]? = some (.int .i64 U.f) := rfl
              have kU5 : U.cs[5]? = some (.int .i64 U.l) := rfl
              go_wp2_with (first | (refine wpList_load_blk rfl 26 (.tmp 9) rfl px rfl 26 U.cs _ KX.out Try.underlying26 rfl ss_size ?_) | (refine wpList_load_blk rfl 26 (.tmp 8) rfl pb rfl 26 U.cs _ KB'.out Try.underlying26 rfl ss_size ?_) | (refine rgs_load_want (by rfl) 26 (.tmp 7) (by rfl) pa (by rfl) 26 V.cs _ KA.out Try.underlying26 rfl ss_size ?_))
              clear kU0 kU1 kU2 kU3 kU4 kU5
              refine (HPS.out _).mono ?_
              rintro e w8 ⟨A8, c8, rfl, hp8, hb8⟩
              have KY8 := hide (KY.out.keep hb8)
              have HB8 := hide (HB.out.trans (hb8.mono (by have := HB.out.size; have := HG.out; omega)))
              clear hb8 hp8
              go_wp2_with (refine rgs_load_want (by rfl) 26 (.tmp 11) (by rfl) py (by rfl) 26 V.cs _ KY8.out Try.underlying26 rfl ss_size ?_)
              refine (HCY.out _).mono ?_
              rintro e w9 ⟨rfl, hb9⟩
              have HB9 := hide (HB8.out.trans (hb9.mono (by have := HB8.out.size; have := HG.out; omega)))
              clear hb9 HB HB8
              have HB := HB9
              clear HB9
              go_wp2_with fail
              refine (HAW.out _).mono ?_
              rintro e wz ⟨rfl, hbz⟩
              have HBZ := hide (HB.out.trans (hbz.mono (by have := HB.out.size; have := HG.out; omega)))
              clear hbz
              go_wp2_with fail
              go_ret
              exact ⟨rfl, HG.out ▸ HBZ.out⟩
            · have hlt' : ¬ (i : Int) < (n : Int) := by omega
              have h3 : (ec != ec) = false := by simp
              have h4 : (ec != 0) = true := by simp [hec]
              have HCY := hide (fun w => ss_Check V w)
              rw [HYC.out] at HCY
              have kV0 : V.cs[0]? = some (.int .i64 V.t) := rfl
              have kV1 : V.cs[1]? = some (.int .i64 V.p) := rfl
              have kV2 : V.cs[2]? = some (.int .i64 V.s) := rfl
              have kV3 : V.cs[3]? = some (.int .i64 V.w) := rfl
              have kV4 : V.cs[4]? = some (.int .i64 V.f) := rfl
              have kV5 : V.cs[5]? = some (.int .i64 V.l) := rfl
              go_upto_region 14 with (first | (refine rgs_load_want (by rfl) 26 (.tmp 11) (by rfl) py (by rfl) 26 V.cs _ KY.out Try.underlying26 rfl ss_size ?_) | (refine rgs_load_want (by rfl) 26 (.tmp 13) (by rfl) po (by rfl) 26 one.cs _ KO.out Try.underlying26 rfl ss_size ?_) | (refine rgs_load_want (by rfl) 26 (.tmp 7) (by rfl) pa (by rfl) 26 V.cs _ KA.out Try.underlying26 rfl ss_size ?_))
              clear kV0 kV1 kV2 kV3 kV4 kV5
              have kU0 : U.cs[0]? = some (.int .i64 U.t) := rfl
              have kU1 : U.cs[1]? = some (.int .i64 U.p) := rfl
              have kU2 : U.cs[2]? = some (.int .i64 U.s) := rfl
              have kU3 : U.cs[3]? = some (.int .i64 U.w) := rfl
              have kU4 : U.cs[4]? = some (.int .i64 U.f) := rfl
              have kU5 : U.cs[5]? = some (.int .i64 U.l) := rfl
              go_wp2_with (first | (refine wpList_load_blk rfl 26 (.tmp 9) rfl px rfl 26 U.cs _ KX.out Try.underlying26 rfl ss_size ?_) | (refine wpList_load_blk rfl 26 (.tmp 8) rfl pb rfl 26 U.cs _ KB'.out Try.underlying26 rfl ss_size ?_) | (refine rgs_load_want (by rfl) 26 (.tmp 7) (by rfl) pa (by rfl) 26 V.cs _ KA.out Try.underlying26 rfl ss_size ?_))
              clear kU0 kU1 kU2 kU3 kU4 kU5
              refine (HPS.out _).mono ?_
              rintro e w8 ⟨A8, c8, rfl, hp8, hb8⟩
              have KY8 := hide (KY.out.keep hb8)
              have HB8 := hide (HB.out.trans (hb8.mono (by have := HB.out.size; have := HG.out; omega)))
              clear hb8 hp8
              go_wp2_with (refine rgs_load_want (by rfl) 26 (.tmp 11) (by rfl) py (by rfl) 26 V.cs _ KY8.out Try.underlying26 rfl ss_size ?_)
              refine (HCY.out _).mono ?_
              rintro e w9 ⟨rfl, hb9⟩
              have HB9 := hide (HB8.out.trans (hb9.mono (by have := HB8.out.size; have := HG.out; omega)))
              clear hb9 HB HB8
              have HB := HB9
              clear HB9
              go_wp2_with fail
              refine (HAW.out _).mono ?_
              rintro e wz ⟨rfl, hbz⟩
              have HBZ := hide (HB.out.trans (hbz.mono (by have := HB.out.size; have := HG.out; omega)))
              clear hbz
              go_wp2_with fail
              go_ret
              exact ⟨rfl, HG.out ▸ HBZ.out⟩
  · have hn' : (40 : Int) < (n : Int) := by omega
    clear hnn HC1 HC2 HPL HAL
    go_wp2_with fail
    refine (HAW.out _).mono ?_
    rintro e wz ⟨rfl, hbz⟩
    have HBZ := hide (HB.out.trans (hbz.mono (by have := HB.out.size; have := HG.out; omega)))
    clear hbz
    go_wp2_with fail
    go_ret
    exact ⟨rfl, HG.out ▸ HBZ.out⟩
end Go.Proofs.Ytlcnenkfineddaa.setsBack
