/-
  Layer 12: SetsUnknown: the walk.
-/
import Derived.Test.YtlcnenkfineddaaSsAwake
import Derived.Test.YtlcnenkfineddaaSsApply
import Derived.Test.YtlcnenkfineddaaPrApp
import Derived.Test.YtlcnenkfineddaaFrEqR
import Derived.BigGuardPart
import Derived.Deep.CutRange
import Derived.Deep.DeepCutAuto
import Derived.Deep.AppendLies
namespace Go.Proofs.Ytlcnenkfineddaa.setsUnknown
set_option linter.unusedSimpArgs false
set_option linter.unusedVariables false
open Go.RowKit

theorem pr_sz : (Try.prog.info? 47).map (·.size) = some 2 := by kernel_rfl
theorem own_new {w : World} {B n s : Nat} {e : TypeId} {v : Value} {xs : List Value} (h : w.ownsRow B e s v n xs) : v.ownBlock = none ∨ v.ownBlock ≠ some w.heap.size := by
  refine .inr fun he => ?_
  have := (h.lt _ he).2
  omega
/-- append of one setting, in a drawn region. -/
theorem step_append_pr (w : World) {ops : Array Oper} {o : Oper} {a : Act} {K : Act → World → Prop} {Q : Exit → Act → World → Prop} {E : Prop} (hgd : o.guard = none) (s x : Operand)
    (ho : o.op = .call { callee := .builtin .append, args := #[s, x], argTypes := #[24, 24] })
    (base : Nat) (v : Value) (n : Nat) (xs : List Pr) (hs : a.eval s = v) (hown : w.ownsRow base 47 2 v n (pcs xs))
    (h : Nat) (i p : Int) (hx : a.eval x = .slice (some ⟨h, 0, none⟩) 1 1) (hk : BlkIs w h 47 #[.int .u16 i, .int .u32 p])
    (h63 : n + 1 ≤ 1000000) (hbase : base ≤ w.heap.size)
    (hh : ∀ v' w', w'.ownsRow base 47 2 v' (n + 1) (pcs (xs ++ [⟨i, p⟩])) → w.grownBy w' v.ownBlock → K (a.put o.dst v') w') :
    if Region.wanted o (yielded ops a.tmps) = true then Oper.wp Try.prog o a w K Q else E := by
  obtain ⟨i0, hi0, hz0, hz1, hz2⟩ := info_parts pr_info
  refine step_append_lies w hgd s x _ ho base _ i0 _ 2 8 Try.underlying24 hi0 hz0 hz1 hz2 rfl (by omega) v n (pcs xs) hs hown ⟨h, 0, none⟩ 1 1 [.int .u16 i, .int .u32 p] hx rfl (World.news_of_block (cs := #[.int .u16 i, .int .u32 p]) hk) (by simp [Value.oneCell']) (by omega) (by unfold maxLen; omega) (by omega) hbase _ rfl ?_
  intro g cap w' h2 h3 _ _
  exact hh _ _ (by rw [pcs_append]; exact h2) h3
theorem all_weave {p : Pr} (hp : p.ok) {l : List Pr} (h : AllP l) : AllP (weave p l ++ [p]) := by
  induction l with
  | nil => intro q hq; simp [weave] at hq; subst hq; exact hp
  | cons a l ih =>
    intro q hq
    simp only [weave, List.cons_append, List.mem_cons] at hq
    rcases hq with rfl | rfl | hq
    · exact hp
    · exact h _ (List.mem_cons_self ..)
    · exact ih (fun z hz => h z (List.mem_cons_of_mem _ hz)) q hq
/-- What a round leaves. -/
def RndS (g m : Nat) (ls : List Pr) (wr wx : World) (s7 : Value) : Prop := ∃ v, s7 = v ∧ wx.ownsRow (g + 2) 47 2 v m (pcs ls) ∧ Below (g + 2) wr wx
/-- What the second Apply leaves. -/
def SecS (g p : Nat) (x : Vs) (ec : Int) (wr wx : World) (s11 s12 : Value) : Prop := ∃ q, s11 = .pointer (some ⟨q, 0, none⟩) ∧ s12 = .int .u32 ec ∧ BlkIs wx q 26 x.cs ∧ BlkIs wx p 26 x.cs ∧ Below (g + 2) wr wx

set_option maxRecDepth 100000 in
set_option maxHeartbeats 6400000 in
theorem walk (V : Vs) (A : Option Addr) (n c : Nat) (l : List Pr) (P : Pr) (w : World) (hl : PL w A n c l) (ha : AllP l) (hpo : P.ok) :
    Calls Try.prog 6 #[.agg V.cs, .slice A n c, .agg P.cs] w fun e w' => e = .returned (.bool true) ∧ Below w.heap.size w w' := by
  have HAW := hide (fun w => aw_sets w)
  obtain ⟨g, hg⟩ : ∃ g, g = w.heap.size := ⟨_, rfl⟩
  have HG := hide hg
  obtain ⟨Pi, Pv⟩ := P
  have HPO := hide hpo
  obtain ⟨p0, p1, p2, p3⟩ := hpo
  simp only at p0 p1 p2 p3
  have HV0 := hide (show BlkIs ((w.alloc (.cells V.cs 23)).alloc (.cells #[.int .u16 Pi, .int .u32 Pv] 47)) g 23 V.cs by rw [hg]; exact (BlkIs.new w _ _).alloc _)
  have HP0 := hide (show BlkIs ((w.alloc (.cells V.cs 23)).alloc (.cells #[.int .u16 Pi, .int .u32 Pv] 47)) (g + 1) 47 #[.int .u16 Pi, .int .u32 Pv] by rw [hg]; exact new2 w _ _ _)
  have HB0 := hide (show Below g w ((w.alloc (.cells V.cs 23)).alloc (.cells #[.int .u16 Pi, .int .u32 Pv] 47)) by rw [hg]; exact bel2 w _ _)
  have HZ0 := hide (show ((w.alloc (.cells V.cs 23)).alloc (.cells #[.int .u16 Pi, .int .u32 Pv] 47)).heap.size = g + 2 by rw [hg]; simp)
  show Calls Try.prog 6 #[.agg V.cs, .slice A n c, .agg #[.int .u16 Pi, .int .u32 Pv]] w _
  by_cases hnn : n ≤ 40
  · have hn' : ¬ (40 : Int) < (n : Int) := by omega
    cases hp : isN Pi with
    | true =>
      obtain ⟨q1, q6⟩ := isN_yes.1 hp
      clear hl ha hp
      go_enter Try.func6, Try.ntmps6
      go_wp2_with fail
      refine (HAW.out _).mono ?_
      rintro e w2 ⟨rfl, hb2⟩
      have HB2 := hide (HB0.out.trans (hb2.mono (by have := HZ0.out; omega)))
      clear hb2 HB0
      go_wp2
      go_ret
      exact ⟨rfl, HG.out ▸ HB2.out⟩
    | false =>
      have HPL := hide hl
      have HAP := hide (fun (w' : World) (h : PL w' A n c l) => ss_Apply V A n c l w' h ha (by omega))
      have HAW2 := hide (show AllP (weave ⟨Pi, Pv⟩ l ++ [⟨Pi, Pv⟩]) from all_weave HPO.out ha)
      have HLW := hide (show (weave ⟨Pi, Pv⟩ l).length = 2 * n by rw [weave_len, hl.len])
      have HAPP := hide (fun (w' : World) (A' : Option Addr) (c' : Nat) (h : PL w' A' (2 * n + 1) c' (weave ⟨Pi, Pv⟩ l ++ [⟨Pi, Pv⟩])) => ss_Apply V A' (2 * n + 1) c' _ w' h HAW2.out (by omega))
      rw [apply_weave (p := ⟨Pi, Pv⟩) hp V l] at HAPP
      have hq : isN Pi = (decide (1 ≤ Pi) && decide (Pi ≤ 6)) := rfl
      have hor := isN_no.1 hp
      have HNM := hide (show n ≤ maxLen from Nat.le_trans hl.le hl.max)
      obtain ⟨e0, e1⟩ := apply_code V l
      generalize applyS V l = r at *
      clear hl ha hp hq HAW2 hg
      go_enter Try.func6, Try.ntmps6
      go_upto_region 1 with (fail)
      rw [← HG.out]
      generalize (w.alloc (.cells V.cs 23)).alloc (.cells #[.int .u16 Pi, .int .u32 Pv] 47) = wa at *
      have cp := HP0.out.cell 0
      simp only [List.getElem?_toArray, List.getElem?_cons_zero] at cp
      go_cut [25] (fun s25 wx => s25 = .bool false ∧ wx = wa)
      case first =>
        rcases hor with h | h
        · go_wp2
          go_meet
          exact ⟨rfl, rfl⟩
        · go_wp2
          all_goals
            go_meet
            exact ⟨by first | rfl | (simp; omega), rfl⟩
      obtain ⟨rfl, hwc⟩ := hcut
      subst hwc
      clear hor p0 p1 p2 p3 cp
      go_wp2_with fail
      go_loopw [7, 8] (fun s7 s8 wr => ∃ i : Nat, i ≤ n ∧ s8 = .int .i64 (i : Int) ∧ wr.ownsRow (g + 2) 47 2 s7 (2 * i) (pcs (weave ⟨Pi, Pv⟩ (l.take i))) ∧ BlkIs wr g 23 V.cs ∧ BlkIs wr (g + 1) 47 #[.int .u16 Pi, .int .u32 Pv] ∧ Below g w wr ∧ g + 2 ≤ wr.heap.size) (fun _ k _ => n - (intOf k).toNat)
      case atStart => exact ⟨0, by omega, rfl, World.ownsRow_nil _ _ _ _, HV0.out, HP0.out, HB0.out, by have := HZ0.out; omega⟩
      case round =>
        clear HV0 HP0 HB0 HZ0
        obtain ⟨i, hi, rfl, ho, hv, hpp, hb, hz⟩ := hrel
        have HO := hide ho
        have HV := hide hv
        have HP := hide hpp
        have HB := hide hb
        have HZ := hide hz
        clear ho hv hpp hb hz
        by_cases hlt : i < n
        · have hlt' : (i : Int) < (n : Int) := by omega
          have h0i : (0 : Int) ≤ (i : Int) := by omega
          obtain ⟨f, b, off, hf, rfl, hbl, c0, c1⟩ := (HPL.out.keep (HG.out ▸ HB.out)).round hlt
          have hbg : b < g + 2 := by
            obtain ⟨b', off', e, h', _⟩ := HPL.out.at_ i f hf
            injection e with e
            injection e with e1 e2
            subst e1
            have := HG.out
            omega
          obtain ⟨fi, fv⟩ := f
          simp only at c0 c1
          have HW := hide (show weave ⟨Pi, Pv⟩ (l.take (i + 1)) = (weave ⟨Pi, Pv⟩ (l.take i) ++ [⟨Pi, Pv⟩]) ++ [⟨fi, fv⟩] by rw [(take_pr hf).2, weave_snoc]; simp)
          obtain ⟨m, hm⟩ : ∃ m, m = 2 * i := ⟨_, rfl⟩
          have HM := hide hm
          have hm80 : m ≤ 80 := by omega
          have HO' := HO.out
          rw [← hm] at HO'
          have HO := hide HO'
          clear hf hbl hm HO' HAP HAPP e0 e1
          generalize weave ⟨Pi, Pv⟩ (l.take i) = ls at *
          go_upto_region 7 with (fail)
          refine wp_region_noPanic ?_
          refine wp_region_held_drew (S := fun w' => Below (g + 2) wr w') (by kernel_rfl) (Below.refl _ _).drew (fun hS => ?_)
          have HO0 := own_low HO.out (Below.refl wr.heap.size wr).drew
          have Z0 : g + 2 ≤ wr.drew.heap.size := HZ.out
          generalize wr.drew = wd at hS HO0 Z0 ⊢
          refine wpAnyH_take (i := 0) (v := ?_) (by simp only [List.getElem?_toArray, List.getElem?_cons_succ, List.getElem?_cons_zero] <;> exact rfl) (by kernel_rfl) (by kernel_rfl) (by kernel_rfl) (fun _ _ _ h => h) (Or.inl ⟨by rfl, ?_⟩) hS ?_
          rotate_left
          focus (intro w' hw'; go_simp; all_goals with_reducible rfl)
          try simp only [Act.put, List.setIfInBounds_toArray, List.set_cons_zero, List.set_cons_succ]
          refine wpAnyH_take (i := 1) (by simp only [List.getElem?_toArray, List.getElem?_cons_succ, List.getElem?_cons_zero] <;> exact rfl) (by kernel_rfl) (by kernel_rfl) (by kernel_rfl) (fun _ _ _ h => h) (rgs_yields_blk (by rfl) 47 (.tmp 5) (by rfl) (g + 1) (by rfl) 47 #[.int .u16 Pi, .int .u32 Pv] _ (fun w' hw' => HP.out.below hw' (by omega)) Try.underlying47 rfl pr_sz) hS ?_
          try simp only [Act.put, List.setIfInBounds_toArray, List.set_cons_zero, List.set_cons_succ]
          refine wpAnyH_take (i := 4) (v := ?_) (by simp only [List.getElem?_toArray, List.getElem?_cons_succ, List.getElem?_cons_zero] <;> exact rfl) (by kernel_rfl) (by kernel_rfl) (by kernel_rfl) (fun _ _ _ h => h) (Or.inl ⟨by rfl, ?_⟩) hS ?_
          rotate_left
          focus (intro w' hw'; go_simp; all_goals with_reducible rfl)
          try simp only [Act.put, List.setIfInBounds_toArray, List.set_cons_zero, List.set_cons_succ]
          refine wpAnyH_take (i := 5) (v := ?_) (by simp only [List.getElem?_toArray, List.getElem?_cons_succ, List.getElem?_cons_zero] <;> exact rfl) (by kernel_rfl) (by kernel_rfl) (by kernel_rfl) (fun _ _ _ h => h) (Or.inl ⟨by rfl, ?_⟩) hS ?_
          rotate_left
          focus (intro w' hw'; go_simp; all_goals with_reducible rfl)
          try simp only [Act.put, List.setIfInBounds_toArray, List.set_cons_zero, List.set_cons_succ]
          refine wpAnyH_take (i := 6) (v := ?_) (by simp only [List.getElem?_toArray, List.getElem?_cons_succ, List.getElem?_cons_zero] <;> exact rfl) (by kernel_rfl) (by kernel_rfl) (by kernel_rfl) (fun _ _ _ h => h) (Or.inl ⟨by rfl, ?_⟩) hS ?_
          rotate_left
          focus (intro w' hw'; have kk : (i : Int) < (n : Int) := hlt'; go_simp; all_goals with_reducible rfl)
          try simp only [Act.put, List.setIfInBounds_toArray, List.set_cons_zero, List.set_cons_succ]
          refine wpAnyH_take (i := 7) (v := ?_) (by simp only [List.getElem?_toArray, List.getElem?_cons_succ, List.getElem?_cons_zero] <;> exact rfl) (by kernel_rfl) (by kernel_rfl) (by kernel_rfl) (fun _ _ _ h => h) (Or.inl ⟨by rfl, ?_⟩) hS ?_
          rotate_left
          focus (intro w' hw'; have k0 := (hw'.cell (p := ⟨b, _, none⟩) hbg).trans c0; have k1 := (hw'.cell (p := ⟨b, _, none⟩) hbg).trans c1; go_simp; all_goals with_reducible rfl)
          try simp only [Act.put, List.setIfInBounds_toArray, List.set_cons_zero, List.set_cons_succ]
          refine wpAnyH_ready (rs := [2, 8]) (by kernel_rfl) (by simp) ?_
          refine AllReadyH.cons (o := _) (by simp only [List.getElem?_toArray, List.getElem?_cons_succ, List.getElem?_cons_zero] <;> exact rfl) (fun K hK => ?_) ?_
          focus (
            go_simp
            have hz1 := hS.size
            have hS := hS.alloc (by have := Z0; omega) (.cells #[.int .u16 Pi, .int .u32 Pv] 47)
            refine hK.out _ _ hS (fun _ => ?_)
            have Eh11 := BlkIs.new wd 47 #[.int .u16 Pi, .int .u32 Pv]
            have O1 := own_low HO0 (bel1 wd (.cells #[.int .u16 Pi, .int .u32 Pv] 47))
            have Nh1 := own_new HO0
            obtain ⟨h1, qh1⟩ : ∃ g, g = wd.heap.size := ⟨_, rfl⟩
            rw [← qh1] at Eh11 Nh1 ⊢
            have Z1 : (g + 2) ≤ (wd.alloc (.cells #[.int .u16 Pi, .int .u32 Pv] 47)).heap.size := by rw [World.size_alloc]; have := Z0; omega
            generalize wd.alloc (.cells #[.int .u16 Pi, .int .u32 Pv] 47) = wb1 at hS Z1 Eh11 O1 ⊢
            clear qh1 hz1
            clear hK K
            try simp only [Act.put, List.setIfInBounds_toArray, List.set_cons_zero, List.set_cons_succ]
            refine wpAnyH_ready (rs := [3, 8]) (by kernel_rfl) (by simp) ?_
            refine AllReadyH.cons (o := _) (by simp only [List.getElem?_toArray, List.getElem?_cons_succ, List.getElem?_cons_zero] <;> exact rfl) (fun K hK => ?_) ?_
            focus (
              refine step_append_pr wb1 (by rfl) (.tmp 33) (.tmp 35) (by rfl) (g + 2) u7 m ls (by rfl) O1 h1 Pi Pv (by rfl) Eh11 (by omega) Z1 ?_
              intro v2 wv2 ho2 hg2
              have hS := own_bel O1 hS (Nat.le_refl _) HZ.out hg2
              have Z2 := Nat.le_trans Z1 hg2.size
              clear hg2
              refine hK.out _ _ hS (fun _ => ?_)
              clear hK K
              try simp only [Act.put, List.setIfInBounds_toArray, List.set_cons_zero, List.set_cons_succ]
              refine wpAnyH_ready (rs := [8]) (by kernel_rfl) (by simp) ?_
              refine AllReadyH.cons (o := _) (by simp only [List.getElem?_toArray, List.getElem?_cons_succ, List.getElem?_cons_zero] <;> exact rfl) (fun K hK => ?_) ?_
              focus (
                go_simp
                have hz3 := hS.size
                have hS := hS.alloc (by have := Z2; omega) (.cells #[.int .u16 fi, .int .u32 fv] 47)
                refine hK.out _ _ hS (fun _ => ?_)
                have Eh23 := BlkIs.new wv2 47 #[.int .u16 fi, .int .u32 fv]
                have O3 := own_low ho2 (bel1 wv2 (.cells #[.int .u16 fi, .int .u32 fv] 47))
                have Nh2 := own_new ho2
                obtain ⟨h2, qh2⟩ : ∃ g, g = wv2.heap.size := ⟨_, rfl⟩
                rw [← qh2] at Eh23 Nh2 ⊢
                have Z3 : (g + 2) ≤ (wv2.alloc (.cells #[.int .u16 fi, .int .u32 fv] 47)).heap.size := by rw [World.size_alloc]; have := Z2; omega
                generalize wv2.alloc (.cells #[.int .u16 fi, .int .u32 fv] 47) = wb3 at hS Z3 Eh23 O3 ⊢
                clear qh2 hz3
                clear hK K
                try simp only [Act.put, List.setIfInBounds_toArray, List.set_cons_zero, List.set_cons_succ]
                refine wpAnyH_ready (rs := [9]) (by kernel_rfl) (by simp) ?_
                refine AllReadyH.cons (o := _) (by simp only [List.getElem?_toArray, List.getElem?_cons_succ, List.getElem?_cons_zero] <;> exact rfl) (fun K hK => ?_) ?_
                focus (
                  refine step_append_pr wb3 (by rfl) (.tmp 36) (.tmp 41) (by rfl) (g + 2) v2 (m + 1) (ls ++ [⟨Pi, Pv⟩]) (by rfl) O3 h2 fi fv (by rfl) Eh23 (by omega) Z3 ?_
                  intro v4 wv4 ho4 hg4
                  have hS := own_bel O3 hS (Nat.le_refl _) HZ.out hg4
                  have Z4 := Nat.le_trans Z3 hg4.size
                  clear hg4
                  refine hK.out _ _ hS (fun _ => ?_)
                  clear hK K
                  try simp only [Act.put, List.setIfInBounds_toArray, List.set_cons_zero, List.set_cons_succ]
                  refine wpAnyH_take (i := 10) (v := ?_) (by simp only [List.getElem?_toArray, List.getElem?_cons_succ, List.getElem?_cons_zero] <;> exact rfl) (by kernel_rfl) (by kernel_rfl) (by kernel_rfl) (fun _ _ _ h => h) (Or.inl ⟨by rfl, ?_⟩) hS ?_
                  rotate_left
                  focus (intro w' hw'; go_simp; all_goals with_reducible rfl)
                  try simp only [Act.put, List.setIfInBounds_toArray, List.set_cons_zero, List.set_cons_succ]
                  refine wpAnyH_done (by kernel_rfl) ?_ _
                  refine NoPanic.normal ?_
                  have HO7 := hide ho4
                  have HB7 := hide hS
                  clear c0 c1
                  go_wp2
                  go_roundw
                  case rel => exact ⟨i + 1, by omega, by go_num, by rw [show 2 * (i + 1) = m + 1 + 1 by have := HM.out; omega, HW.out]; exact HO7.out, HV.out.below HB7.out (by omega), HP.out.below HB7.out (by omega), HB.out.trans (HB7.out.mono (by omega)), Nat.le_trans HZ.out HB7.out.size⟩
                  case measure => simp [intOf]; omega)
                exact AllReadyH.nil)
              exact AllReadyH.nil)
            refine AllReadyH.cons (o := _) (by simp only [List.getElem?_toArray, List.getElem?_cons_succ, List.getElem?_cons_zero] <;> exact rfl) (fun K hK => ?_) ?_
            focus (
              go_simp
              have hz5 := hS.size
              have hS := hS.alloc (by have := Z1; omega) (.cells #[.int .u16 fi, .int .u32 fv] 47)
              refine hK.out _ _ hS (fun _ => ?_)
              have Eh25 := BlkIs.new wb1 47 #[.int .u16 fi, .int .u32 fv]
              have O5 := own_low O1 (bel1 wb1 (.cells #[.int .u16 fi, .int .u32 fv] 47))
              have Nh2 := own_new O1
              have Eh15 := Eh11.alloc (.cells #[.int .u16 fi, .int .u32 fv] 47)
              obtain ⟨h2, qh2⟩ : ∃ g, g = wb1.heap.size := ⟨_, rfl⟩
              rw [← qh2] at Eh25 Nh2 ⊢
              have Z5 : (g + 2) ≤ (wb1.alloc (.cells #[.int .u16 fi, .int .u32 fv] 47)).heap.size := by rw [World.size_alloc]; have := Z1; omega
              generalize wb1.alloc (.cells #[.int .u16 fi, .int .u32 fv] 47) = wb5 at hS Z5 Eh15 Eh25 O5 ⊢
              clear qh2 hz5
              clear hK K
              try simp only [Act.put, List.setIfInBounds_toArray, List.set_cons_zero, List.set_cons_succ]
              refine wpAnyH_ready (rs := [3]) (by kernel_rfl) (by simp) ?_
              refine AllReadyH.cons (o := _) (by simp only [List.getElem?_toArray, List.getElem?_cons_succ, List.getElem?_cons_zero] <;> exact rfl) (fun K hK => ?_) ?_
              focus (
                refine step_append_pr wb5 (by rfl) (.tmp 33) (.tmp 35) (by rfl) (g + 2) u7 m ls (by rfl) O5 h1 Pi Pv (by rfl) Eh15 (by omega) Z5 ?_
                intro v6 wv6 ho6 hg6
                have Eh26 := blk_grown Eh25 hg6 Nh2
                have hS := own_bel O5 hS (Nat.le_refl _) HZ.out hg6
                have Z6 := Nat.le_trans Z5 hg6.size
                clear hg6
                refine hK.out _ _ hS (fun _ => ?_)
                clear hK K
                try simp only [Act.put, List.setIfInBounds_toArray, List.set_cons_zero, List.set_cons_succ]
                refine wpAnyH_ready (rs := [9]) (by kernel_rfl) (by simp) ?_
                refine AllReadyH.cons (o := _) (by simp only [List.getElem?_toArray, List.getElem?_cons_succ, List.getElem?_cons_zero] <;> exact rfl) (fun K hK => ?_) ?_
                focus (
                  refine step_append_pr wv6 (by rfl) (.tmp 36) (.tmp 41) (by rfl) (g + 2) v6 (m + 1) (ls ++ [⟨Pi, Pv⟩]) (by rfl) ho6 h2 fi fv (by rfl) Eh26 (by omega) Z6 ?_
                  intro v7 wv7 ho7 hg7
                  have hS := own_bel ho6 hS (Nat.le_refl _) HZ.out hg7
                  have Z7 := Nat.le_trans Z6 hg7.size
                  clear hg7
                  refine hK.out _ _ hS (fun _ => ?_)
                  clear hK K
                  try simp only [Act.put, List.setIfInBounds_toArray, List.set_cons_zero, List.set_cons_succ]
                  refine wpAnyH_take (i := 10) (v := ?_) (by simp only [List.getElem?_toArray, List.getElem?_cons_succ, List.getElem?_cons_zero] <;> exact rfl) (by kernel_rfl) (by kernel_rfl) (by kernel_rfl) (fun _ _ _ h => h) (Or.inl ⟨by rfl, ?_⟩) hS ?_
                  rotate_left
                  focus (intro w' hw'; go_simp; all_goals with_reducible rfl)
                  try simp only [Act.put, List.setIfInBounds_toArray, List.set_cons_zero, List.set_cons_succ]
                  refine wpAnyH_done (by kernel_rfl) ?_ _
                  refine NoPanic.normal ?_
                  have HO7 := hide ho7
                  have HB7 := hide hS
                  clear c0 c1
                  go_wp2
                  go_roundw
                  case rel => exact ⟨i + 1, by omega, by go_num, by rw [show 2 * (i + 1) = m + 1 + 1 by have := HM.out; omega, HW.out]; exact HO7.out, HV.out.below HB7.out (by omega), HP.out.below HB7.out (by omega), HB.out.trans (HB7.out.mono (by omega)), Nat.le_trans HZ.out HB7.out.size⟩
                  case measure => simp [intOf]; omega)
                exact AllReadyH.nil)
              exact AllReadyH.nil)
            exact AllReadyH.nil)
          refine AllReadyH.cons (o := _) (by simp only [List.getElem?_toArray, List.getElem?_cons_succ, List.getElem?_cons_zero] <;> exact rfl) (fun K hK => ?_) ?_
          focus (
            go_simp
            have hz8 := hS.size
            have hS := hS.alloc (by have := Z0; omega) (.cells #[.int .u16 fi, .int .u32 fv] 47)
            refine hK.out _ _ hS (fun _ => ?_)
            have Eh28 := BlkIs.new wd 47 #[.int .u16 fi, .int .u32 fv]
            have O8 := own_low HO0 (bel1 wd (.cells #[.int .u16 fi, .int .u32 fv] 47))
            have Nh2 := own_new HO0
            obtain ⟨h2, qh2⟩ : ∃ g, g = wd.heap.size := ⟨_, rfl⟩
            rw [← qh2] at Eh28 Nh2 ⊢
            have Z8 : (g + 2) ≤ (wd.alloc (.cells #[.int .u16 fi, .int .u32 fv] 47)).heap.size := by rw [World.size_alloc]; have := Z0; omega
            generalize wd.alloc (.cells #[.int .u16 fi, .int .u32 fv] 47) = wb8 at hS Z8 Eh28 O8 ⊢
            clear qh2 hz8
            clear hK K
            try simp only [Act.put, List.setIfInBounds_toArray, List.set_cons_zero, List.set_cons_succ]
            refine wpAnyH_ready (rs := [2]) (by kernel_rfl) (by simp) ?_
            refine AllReadyH.cons (o := _) (by simp only [List.getElem?_toArray, List.getElem?_cons_succ, List.getElem?_cons_zero] <;> exact rfl) (fun K hK => ?_) ?_
            focus (
              go_simp
              have hz9 := hS.size
              have hS := hS.alloc (by have := Z8; omega) (.cells #[.int .u16 Pi, .int .u32 Pv] 47)
              refine hK.out _ _ hS (fun _ => ?_)
              have Eh19 := BlkIs.new wb8 47 #[.int .u16 Pi, .int .u32 Pv]
              have O9 := own_low O8 (bel1 wb8 (.cells #[.int .u16 Pi, .int .u32 Pv] 47))
              have Nh1 := own_new O8
              have Eh29 := Eh28.alloc (.cells #[.int .u16 Pi, .int .u32 Pv] 47)
              obtain ⟨h1, qh1⟩ : ∃ g, g = wb8.heap.size := ⟨_, rfl⟩
              rw [← qh1] at Eh19 Nh1 ⊢
              have Z9 : (g + 2) ≤ (wb8.alloc (.cells #[.int .u16 Pi, .int .u32 Pv] 47)).heap.size := by rw [World.size_alloc]; have := Z8; omega
              generalize wb8.alloc (.cells #[.int .u16 Pi, .int .u32 Pv] 47) = wb9 at hS Z9 Eh19 Eh29 O9 ⊢
              clear qh1 hz9
              clear hK K
              try simp only [Act.put, List.setIfInBounds_toArray, List.set_cons_zero, List.set_cons_succ]
              refine wpAnyH_ready (rs := [3]) (by kernel_rfl) (by simp) ?_
              refine AllReadyH.cons (o := _) (by simp only [List.getElem?_toArray, List.getElem?_cons_succ, List.getElem?_cons_zero] <;> exact rfl) (fun K hK => ?_) ?_
              focus (
                refine step_append_pr wb9 (by rfl) (.tmp 33) (.tmp 35) (by rfl) (g + 2) u7 m ls (by rfl) O9 h1 Pi Pv (by rfl) Eh19 (by omega) Z9 ?_
                intro v10 wv10 ho10 hg10
                have Eh210 := blk_grown Eh29 hg10 Nh2
                have hS := own_bel O9 hS (Nat.le_refl _) HZ.out hg10
                have Z10 := Nat.le_trans Z9 hg10.size
                clear hg10
                refine hK.out _ _ hS (fun _ => ?_)
                clear hK K
                try simp only [Act.put, List.setIfInBounds_toArray, List.set_cons_zero, List.set_cons_succ]
                refine wpAnyH_ready (rs := [9]) (by kernel_rfl) (by simp) ?_
                refine AllReadyH.cons (o := _) (by simp only [List.getElem?_toArray, List.getElem?_cons_succ, List.getElem?_cons_zero] <;> exact rfl) (fun K hK => ?_) ?_
                focus (
                  refine step_append_pr wv10 (by rfl) (.tmp 36) (.tmp 41) (by rfl) (g + 2) v10 (m + 1) (ls ++ [⟨Pi, Pv⟩]) (by rfl) ho10 h2 fi fv (by rfl) Eh210 (by omega) Z10 ?_
                  intro v11 wv11 ho11 hg11
                  have hS := own_bel ho10 hS (Nat.le_refl _) HZ.out hg11
                  have Z11 := Nat.le_trans Z10 hg11.size
                  clear hg11
                  refine hK.out _ _ hS (fun _ => ?_)
                  clear hK K
                  try simp only [Act.put, List.setIfInBounds_toArray, List.set_cons_zero, List.set_cons_succ]
                  refine wpAnyH_take (i := 10) (v := ?_) (by simp only [List.getElem?_toArray, List.getElem?_cons_succ, List.getElem?_cons_zero] <;> exact rfl) (by kernel_rfl) (by kernel_rfl) (by kernel_rfl) (fun _ _ _ h => h) (Or.inl ⟨by rfl, ?_⟩) hS ?_
                  rotate_left
                  focus (intro w' hw'; go_simp; all_goals with_reducible rfl)
                  try simp only [Act.put, List.setIfInBounds_toArray, List.set_cons_zero, List.set_cons_succ]
                  refine wpAnyH_done (by kernel_rfl) ?_ _
                  refine NoPanic.normal ?_
                  have HO7 := hide ho11
                  have HB7 := hide hS
                  clear c0 c1
                  go_wp2
                  go_roundw
                  case rel => exact ⟨i + 1, by omega, by go_num, by rw [show 2 * (i + 1) = m + 1 + 1 by have := HM.out; omega, HW.out]; exact HO7.out, HV.out.below HB7.out (by omega), HP.out.below HB7.out (by omega), HB.out.trans (HB7.out.mono (by omega)), Nat.le_trans HZ.out HB7.out.size⟩
                  case measure => simp [intOf]; omega)
                exact AllReadyH.nil)
              exact AllReadyH.nil)
            exact AllReadyH.nil)
          exact AllReadyH.nil
        · obtain rfl : i = n := by omega
          have hO := HO.out
          rw [show l.take i = l by rw [← HPL.out.len, List.take_length]] at hO
          have HPLr := hide (HPL.out.keep (HG.out ▸ HB.out))
          obtain ⟨m, hm⟩ : ∃ m, m = 2 * i := ⟨_, rfl⟩
          rw [← hm] at hO HLW HAPP
          have hm80 : m ≤ 80 := by omega
          have HOr := hide hO
          clear hO HO hm HPO
          generalize weave ⟨Pi, Pv⟩ l = ls at *
          go_wp2_with (refine wpList_load_blk rfl 23 (.tmp 3) rfl g rfl 23 V.cs _ HV.out Try.underlying23 rfl rs_size ?_)
          refine (HAP.out _ HPLr.out).mono ?_
          rintro e w5 ⟨rfl, hb5⟩
          obtain ⟨p, hp⟩ : ∃ p, p = w5.heap.size := ⟨_, rfl⟩
          have HX6 := hide (show BlkIs (w5.alloc (.cells r.1.cs 26)) p 26 r.1.cs by rw [hp]; exact BlkIs.new w5 _ _)
          have HV6 := hide ((HV.out.keep hb5).alloc (.cells r.1.cs 26))
          have HP6 := hide ((HP.out.keep hb5).alloc (.cells r.1.cs 26))
          have HO6 := hide (own_low (own_low HOr.out hb5) (bel1 w5 (.cells r.1.cs 26)))
          have HBa := hide (HB.out.trans (hb5.mono (by have := HZ.out; omega)))
          have HZa := hide (show g + 2 ≤ (w5.alloc (.cells r.1.cs 26)).heap.size by rw [World.size_alloc]; have := hb5.size; have := HZ.out; omega)
          have HB6 := hide (HBa.out.alloc (by have := hb5.size; have := HZ.out; omega) (.cells r.1.cs 26))
          clear hb5 HV HP HOr HBa HPLr HZ HB
          have HZ := HZa
          clear HZa
          go_upto_region 9 with (refine wpList_store_new rfl 26 (.tmp 9) (.tmp 47) rfl r.1.cs _ 26 rfl rfl ss_size rfl (Vs.cs_one r.1) ?_; simp only [Act.put])
          rw [← hp]
          clear hp
          generalize w5.alloc (.cells r.1.cs 26) = w6 at *
          go_cut [11, 12] (fun s11 s12 wx => SecS g p r.1 r.2 w6 wx s11 s12)
          case first =>
            refine wp_region_noPanic ?_
            refine wp_region_held_drew (S := fun w' => Below (g + 2) w6 w') (by kernel_rfl) (Below.refl _ _).drew (fun hS => ?_)
            have HO0 := own_low HO6.out (Below.refl w6.heap.size w6).drew
            have Ey0 := HX6.out.drew
            have Z0 : g + 2 ≤ w6.drew.heap.size := HZ.out
            generalize w6.drew = wd at hS HO0 Ey0 Z0 ⊢
            refine wpAnyH_take (i := 0) (by simp only [List.getElem?_toArray, List.getElem?_cons_zero] <;> exact rfl) (by kernel_rfl) (by kernel_rfl) (by kernel_rfl) (fun _ _ _ h => h) (rgs_yields_blk (by rfl) 23 (.tmp 3) (by rfl) g (by rfl) 23 V.cs _ (fun w' hw' => HV6.out.below hw' (by omega)) Try.underlying23 rfl rs_size) hS ?_
            try simp only [Act.put, List.setIfInBounds_toArray, List.set_cons_zero, List.set_cons_succ]
            refine wpAnyH_take (i := 1) (v := ?_) (by simp only [List.getElem?_toArray, List.getElem?_cons_succ, List.getElem?_cons_zero] <;> exact rfl) (by kernel_rfl) (by kernel_rfl) (by kernel_rfl) (fun _ _ _ h => h) (Or.inl ⟨by rfl, ?_⟩) hS ?_
            rotate_left
            focus (intro w' hw'; go_simp; all_goals with_reducible rfl)
            try simp only [Act.put, List.setIfInBounds_toArray, List.set_cons_zero, List.set_cons_succ]
            refine wpAnyH_take (i := 2) (by simp only [List.getElem?_toArray, List.getElem?_cons_succ, List.getElem?_cons_zero] <;> exact rfl) (by kernel_rfl) (by kernel_rfl) (by kernel_rfl) (fun _ _ _ h => h) (rgs_yields_blk (by rfl) 47 (.tmp 5) (by rfl) (g + 1) (by rfl) 47 #[.int .u16 Pi, .int .u32 Pv] _ (fun w' hw' => HP6.out.below hw' (by omega)) Try.underlying47 rfl pr_sz) hS ?_
            try simp only [Act.put, List.setIfInBounds_toArray, List.set_cons_zero, List.set_cons_succ]
            refine wpAnyH_ready (rs := [3, 9]) (by kernel_rfl) (by simp) ?_
            refine AllReadyH.cons (o := _) (by simp only [List.getElem?_toArray, List.getElem?_cons_succ, List.getElem?_cons_zero] <;> exact rfl) (fun K hK => ?_) ?_
            focus (
              go_simp
              have hz12 := hS.size
              have hS := hS.alloc (by have := Z0; omega) (.cells #[.int .u16 Pi, .int .u32 Pv] 47)
              refine hK.out _ _ hS (fun _ => ?_)
              have Eh112 := BlkIs.new wd 47 #[.int .u16 Pi, .int .u32 Pv]
              have O12 := own_low HO0 (bel1 wd (.cells #[.int .u16 Pi, .int .u32 Pv] 47))
              have Nh1 := own_new HO0
              have Ey12 := Ey0.alloc (.cells #[.int .u16 Pi, .int .u32 Pv] 47)
              obtain ⟨h1, qh1⟩ : ∃ g, g = wd.heap.size := ⟨_, rfl⟩
              rw [← qh1] at Eh112 Nh1 ⊢
              have Z12 : (g + 2) ≤ (wd.alloc (.cells #[.int .u16 Pi, .int .u32 Pv] 47)).heap.size := by rw [World.size_alloc]; have := Z0; omega
              generalize wd.alloc (.cells #[.int .u16 Pi, .int .u32 Pv] 47) = wb12 at hS Z12 Eh112 Ey12 O12 ⊢
              clear qh1 hz12
              clear hK K
              try simp only [Act.put, List.setIfInBounds_toArray, List.set_cons_zero, List.set_cons_succ]
              refine wpAnyH_ready (rs := [4, 9]) (by kernel_rfl) (by simp) ?_
              refine AllReadyH.cons (o := _) (by simp only [List.getElem?_toArray, List.getElem?_cons_succ, List.getElem?_cons_zero] <;> exact rfl) (fun K hK => ?_) ?_
              focus (
                refine step_append_pr wb12 (by rfl) (.tmp 51) (.tmp 53) (by rfl) (g + 2) u7 m ls (by rfl) O12 h1 Pi Pv (by rfl) Eh112 (by omega) Z12 ?_
                intro v13 wv13 ho13 hg13
                have Ey13 := blk_grown Ey12 hg13 (own_apart O12 Ey12 (by decide))
                have hS := own_bel O12 hS (Nat.le_refl _) HZ.out hg13
                have Z13 := Nat.le_trans Z12 hg13.size
                clear hg13
                refine hK.out _ _ hS (fun _ => ?_)
                clear hK K
                try simp only [Act.put, List.setIfInBounds_toArray, List.set_cons_zero, List.set_cons_succ]
                refine wpAnyH_ready (rs := [5, 9]) (by kernel_rfl) (by simp) ?_
                refine AllReadyH.cons (o := _) (by simp only [List.getElem?_toArray, List.getElem?_cons_succ, List.getElem?_cons_zero] <;> exact rfl) (fun K hK => ?_) ?_
                focus (
                  obtain ⟨A', c', hv', hpl⟩ := own_prs ho13
                  subst hv'
                  go_simp
                  go_at_call 8
                  refine (HAPP.out _ _ _ hpl).mono ?_
                  rintro e wc14 ⟨rfl, hb⟩
                  have hS := hS.trans (hb.mono Z13)
                  have Ey14 := Ey13.keep hb
                  have Z14 := Nat.le_trans Z13 hb.size
                  clear hb
                  go_wp2_with fail
                  refine hK.out _ _ hS (fun _ => ?_)
                  clear hK K
                  try simp only [Act.put, List.setIfInBounds_toArray, List.set_cons_zero, List.set_cons_succ]
                  refine wpAnyH_take (i := 6) (v := ?_) (by simp only [List.getElem?_toArray, List.getElem?_cons_succ, List.getElem?_cons_zero] <;> exact rfl) (by kernel_rfl) (by kernel_rfl) (by kernel_rfl) (fun _ _ _ h => h) (Or.inl ⟨by rfl, ?_⟩) hS ?_
                  rotate_left
                  focus (intro w' hw'; go_simp; all_goals with_reducible rfl)
                  try simp only [Act.put, List.setIfInBounds_toArray, List.set_cons_zero, List.set_cons_succ]
                  refine wpAnyH_take (i := 7) (v := ?_) (by simp only [List.getElem?_toArray, List.getElem?_cons_succ, List.getElem?_cons_zero] <;> exact rfl) (by kernel_rfl) (by kernel_rfl) (by kernel_rfl) (fun _ _ _ h => h) (Or.inl ⟨by rfl, ?_⟩) hS ?_
                  rotate_left
                  focus (intro w' hw'; go_simp; all_goals with_reducible rfl)
                  try simp only [Act.put, List.setIfInBounds_toArray, List.set_cons_zero, List.set_cons_succ]
                  refine wpAnyH_take (i := 8) (v := ?_) (by simp only [List.getElem?_toArray, List.getElem?_cons_succ, List.getElem?_cons_zero] <;> exact rfl) (by kernel_rfl) (by kernel_rfl) (by kernel_rfl) (fun _ _ _ h => h) (Or.inl ⟨by rfl, ?_⟩) hS ?_
                  rotate_left
                  focus (intro w' hw'; go_simp; all_goals with_reducible rfl)
                  try simp only [Act.put, List.setIfInBounds_toArray, List.set_cons_zero, List.set_cons_succ]
                  refine wpAnyH_ready (rs := [9]) (by kernel_rfl) (by simp) ?_
                  refine AllReadyH.cons (o := _) (by simp only [List.getElem?_toArray, List.getElem?_cons_succ, List.getElem?_cons_zero] <;> exact rfl) (fun K hK => ?_) ?_
                  focus (
                    go_simp
                    have hS := hS.alloc (by have := Z14; omega) (.cells #[.int .i64 0, .int .i64 0, .int .i64 0, .int .i64 0, .int .i64 0, .int .i64 0] 26)
                    refine hK.out _ _ hS (fun _ => ?_)
                    have Ex15 := BlkIs.new wc14 26 #[.int .i64 0, .int .i64 0, .int .i64 0, .int .i64 0, .int .i64 0, .int .i64 0]
                    have Ey15 := Ey14.alloc (.cells #[.int .i64 0, .int .i64 0, .int .i64 0, .int .i64 0, .int .i64 0, .int .i64 0] 26)
                    have Nyx : p ≠ wc14.heap.size := by have := Ey14.lt; omega
                    have Mx : g + 2 ≤ wc14.heap.size := Z14
                    have Z15 : g + 2 ≤ (wc14.alloc (.cells #[.int .i64 0, .int .i64 0, .int .i64 0, .int .i64 0, .int .i64 0, .int .i64 0] 26)).heap.size := by rw [World.size_alloc]; have := Z14; omega
                    obtain ⟨x, qx⟩ : ∃ g, g = wc14.heap.size := ⟨_, rfl⟩
                    rw [← qx] at Ex15 Mx Nyx ⊢
                    generalize wc14.alloc (.cells #[.int .i64 0, .int .i64 0, .int .i64 0, .int .i64 0, .int .i64 0, .int .i64 0] 26) = wx15 at hS Z15 Ex15 Ey15  ⊢
                    clear qx
                    clear hK K
                    try simp only [Act.put, List.setIfInBounds_toArray, List.set_cons_zero, List.set_cons_succ]
                    refine wpAnyH_ready (rs := [10]) (by kernel_rfl) (by simp) ?_
                    refine AllReadyH.cons (o := _) (by simp only [List.getElem?_toArray, List.getElem?_cons_succ, List.getElem?_cons_zero] <;> exact rfl) (fun K hK => ?_) ?_
                    focus (
                      refine rgs_store_blk (by rfl) 26 (.tmp 11) (.tmp 56) (by rfl) x r.1.cs #[.int .i64 0, .int .i64 0, .int .i64 0, .int .i64 0, .int .i64 0, .int .i64 0] 26 (by rfl) (by rfl) Ex15 ss_size rfl (Vs.cs_one r.1) ?_
                      have hS := below_setRow hS Mx r.1.cs
                      have hk2 := BlkIs.row Ex15 r.1.cs
                      have hy2 := BlkIs.row_other Ey15 Nyx r.1.cs
                      refine hK.out _ _ hS (fun _ => ?_)
                      clear hK K
                      try simp only [Act.put, List.setIfInBounds_toArray, List.set_cons_zero, List.set_cons_succ]
                      refine wpAnyH_take (i := 11) (v := ?_) (by simp only [List.getElem?_toArray, List.getElem?_cons_succ, List.getElem?_cons_zero] <;> exact rfl) (by kernel_rfl) (by kernel_rfl) (by kernel_rfl) (fun _ _ _ h => h) (Or.inl ⟨by rfl, ?_⟩) hS ?_
                      rotate_left
                      focus (intro w' hw'; go_simp; all_goals with_reducible rfl)
                      try simp only [Act.put, List.setIfInBounds_toArray, List.set_cons_zero, List.set_cons_succ]
                      refine wpAnyH_done (by kernel_rfl) ?_ _
                      refine NoPanic.normal ?_
                      go_wp2
                      go_meet
                      exact ⟨x, rfl, rfl, hk2, hy2, hS⟩)
                    exact AllReadyH.nil)
                  exact AllReadyH.nil)
                refine AllReadyH.cons (o := _) (by simp only [List.getElem?_toArray, List.getElem?_cons_succ, List.getElem?_cons_zero] <;> exact rfl) (fun K hK => ?_) ?_
                focus (
                  go_simp
                  have hS := hS.alloc (by have := Z13; omega) (.cells #[.int .i64 0, .int .i64 0, .int .i64 0, .int .i64 0, .int .i64 0, .int .i64 0] 26)
                  refine hK.out _ _ hS (fun _ => ?_)
                  have Ex17 := BlkIs.new wv13 26 #[.int .i64 0, .int .i64 0, .int .i64 0, .int .i64 0, .int .i64 0, .int .i64 0]
                  have O17 := own_low ho13 (bel1 wv13 (.cells #[.int .i64 0, .int .i64 0, .int .i64 0, .int .i64 0, .int .i64 0, .int .i64 0] 26))
                  have Nx := own_new ho13
                  have Ey17 := Ey13.alloc (.cells #[.int .i64 0, .int .i64 0, .int .i64 0, .int .i64 0, .int .i64 0, .int .i64 0] 26)
                  have Nyx : p ≠ wv13.heap.size := by have := Ey13.lt; omega
                  have Mx : g + 2 ≤ wv13.heap.size := Z13
                  have Z17 : g + 2 ≤ (wv13.alloc (.cells #[.int .i64 0, .int .i64 0, .int .i64 0, .int .i64 0, .int .i64 0, .int .i64 0] 26)).heap.size := by rw [World.size_alloc]; have := Z13; omega
                  obtain ⟨x, qx⟩ : ∃ g, g = wv13.heap.size := ⟨_, rfl⟩
                  rw [← qx] at Ex17 Mx Nyx Nx ⊢
                  generalize wv13.alloc (.cells #[.int .i64 0, .int .i64 0, .int .i64 0, .int .i64 0, .int .i64 0, .int .i64 0] 26) = wx17 at hS Z17 Ex17 Ey17 O17 ⊢
                  clear qx
                  clear hK K
                  try simp only [Act.put, List.setIfInBounds_toArray, List.set_cons_zero, List.set_cons_succ]
                  refine wpAnyH_ready (rs := [5]) (by kernel_rfl) (by simp) ?_
                  refine AllReadyH.cons (o := _) (by simp only [List.getElem?_toArray, List.getElem?_cons_succ, List.getElem?_cons_zero] <;> exact rfl) (fun K hK => ?_) ?_
                  focus (
                    obtain ⟨A', c', hv', hpl⟩ := own_prs O17
                    subst hv'
                    go_simp
                    go_at_call 8
                    refine (HAPP.out _ _ _ hpl).mono ?_
                    rintro e wc18 ⟨rfl, hb⟩
                    have hS := hS.trans (hb.mono Z17)
                    have Ex18 := Ex17.keep hb
                    have Ey18 := Ey17.keep hb
                    have Z18 := Nat.le_trans Z17 hb.size
                    clear hb
                    go_wp2_with fail
                    refine hK.out _ _ hS (fun _ => ?_)
                    clear hK K
                    try simp only [Act.put, List.setIfInBounds_toArray, List.set_cons_zero, List.set_cons_succ]
                    refine wpAnyH_take (i := 6) (v := ?_) (by simp only [List.getElem?_toArray, List.getElem?_cons_succ, List.getElem?_cons_zero] <;> exact rfl) (by kernel_rfl) (by kernel_rfl) (by kernel_rfl) (fun _ _ _ h => h) (Or.inl ⟨by rfl, ?_⟩) hS ?_
                    rotate_left
                    focus (intro w' hw'; go_simp; all_goals with_reducible rfl)
                    try simp only [Act.put, List.setIfInBounds_toArray, List.set_cons_zero, List.set_cons_succ]
                    refine wpAnyH_take (i := 7) (v := ?_) (by simp only [List.getElem?_toArray, List.getElem?_cons_succ, List.getElem?_cons_zero] <;> exact rfl) (by kernel_rfl) (by kernel_rfl) (by kernel_rfl) (fun _ _ _ h => h) (Or.inl ⟨by rfl, ?_⟩) hS ?_
                    rotate_left
                    focus (intro w' hw'; go_simp; all_goals with_reducible rfl)
                    try simp only [Act.put, List.setIfInBounds_toArray, List.set_cons_zero, List.set_cons_succ]
                    refine wpAnyH_take (i := 8) (v := ?_) (by simp only [List.getElem?_toArray, List.getElem?_cons_succ, List.getElem?_cons_zero] <;> exact rfl) (by kernel_rfl) (by kernel_rfl) (by kernel_rfl) (fun _ _ _ h => h) (Or.inl ⟨by rfl, ?_⟩) hS ?_
                    rotate_left
                    focus (intro w' hw'; go_simp; all_goals with_reducible rfl)
                    try simp only [Act.put, List.setIfInBounds_toArray, List.set_cons_zero, List.set_cons_succ]
                    refine wpAnyH_ready (rs := [10]) (by kernel_rfl) (by simp) ?_
                    refine AllReadyH.cons (o := _) (by simp only [List.getElem?_toArray, List.getElem?_cons_succ, List.getElem?_cons_zero] <;> exact rfl) (fun K hK => ?_) ?_
                    focus (
                      refine rgs_store_blk (by rfl) 26 (.tmp 11) (.tmp 56) (by rfl) x r.1.cs #[.int .i64 0, .int .i64 0, .int .i64 0, .int .i64 0, .int .i64 0, .int .i64 0] 26 (by rfl) (by rfl) Ex18 ss_size rfl (Vs.cs_one r.1) ?_
                      have hS := below_setRow hS Mx r.1.cs
                      have hk2 := BlkIs.row Ex18 r.1.cs
                      have hy2 := BlkIs.row_other Ey18 Nyx r.1.cs
                      refine hK.out _ _ hS (fun _ => ?_)
                      clear hK K
                      try simp only [Act.put, List.setIfInBounds_toArray, List.set_cons_zero, List.set_cons_succ]
                      refine wpAnyH_take (i := 11) (v := ?_) (by simp only [List.getElem?_toArray, List.getElem?_cons_succ, List.getElem?_cons_zero] <;> exact rfl) (by kernel_rfl) (by kernel_rfl) (by kernel_rfl) (fun _ _ _ h => h) (Or.inl ⟨by rfl, ?_⟩) hS ?_
                      rotate_left
                      focus (intro w' hw'; go_simp; all_goals with_reducible rfl)
                      try simp only [Act.put, List.setIfInBounds_toArray, List.set_cons_zero, List.set_cons_succ]
                      refine wpAnyH_done (by kernel_rfl) ?_ _
                      refine NoPanic.normal ?_
                      go_wp2
                      go_meet
                      exact ⟨x, rfl, rfl, hk2, hy2, hS⟩)
                    exact AllReadyH.nil)
                  exact AllReadyH.nil)
                exact AllReadyH.nil)
              refine AllReadyH.cons (o := _) (by simp only [List.getElem?_toArray, List.getElem?_cons_succ, List.getElem?_cons_zero] <;> exact rfl) (fun K hK => ?_) ?_
              focus (
                go_simp
                have hS := hS.alloc (by have := Z12; omega) (.cells #[.int .i64 0, .int .i64 0, .int .i64 0, .int .i64 0, .int .i64 0, .int .i64 0] 26)
                refine hK.out _ _ hS (fun _ => ?_)
                have Ex20 := BlkIs.new wb12 26 #[.int .i64 0, .int .i64 0, .int .i64 0, .int .i64 0, .int .i64 0, .int .i64 0]
                have O20 := own_low O12 (bel1 wb12 (.cells #[.int .i64 0, .int .i64 0, .int .i64 0, .int .i64 0, .int .i64 0, .int .i64 0] 26))
                have Nx := own_new O12
                have Eh120 := Eh112.alloc (.cells #[.int .i64 0, .int .i64 0, .int .i64 0, .int .i64 0, .int .i64 0, .int .i64 0] 26)
                have Ey20 := Ey12.alloc (.cells #[.int .i64 0, .int .i64 0, .int .i64 0, .int .i64 0, .int .i64 0, .int .i64 0] 26)
                have Nyx : p ≠ wb12.heap.size := by have := Ey12.lt; omega
                have Mx : g + 2 ≤ wb12.heap.size := Z12
                have Z20 : g + 2 ≤ (wb12.alloc (.cells #[.int .i64 0, .int .i64 0, .int .i64 0, .int .i64 0, .int .i64 0, .int .i64 0] 26)).heap.size := by rw [World.size_alloc]; have := Z12; omega
                obtain ⟨x, qx⟩ : ∃ g, g = wb12.heap.size := ⟨_, rfl⟩
                rw [← qx] at Ex20 Mx Nyx Nx ⊢
                generalize wb12.alloc (.cells #[.int .i64 0, .int .i64 0, .int .i64 0, .int .i64 0, .int .i64 0, .int .i64 0] 26) = wx20 at hS Z20 Ex20 Ey20 O20 Eh120 ⊢
                clear qx
                clear hK K
                try simp only [Act.put, List.setIfInBounds_toArray, List.set_cons_zero, List.set_cons_succ]
                refine wpAnyH_ready (rs := [4]) (by kernel_rfl) (by simp) ?_
                refine AllReadyH.cons (o := _) (by simp only [List.getElem?_toArray, List.getElem?_cons_succ, List.getElem?_cons_zero] <;> exact rfl) (fun K hK => ?_) ?_
                focus (
                  refine step_append_pr wx20 (by rfl) (.tmp 51) (.tmp 53) (by rfl) (g + 2) u7 m ls (by rfl) O20 h1 Pi Pv (by rfl) Eh120 (by omega) Z20 ?_
                  intro v21 wv21 ho21 hg21
                  have Ex21 := blk_grown Ex20 hg21 Nx
                  have Ey21 := blk_grown Ey20 hg21 (own_apart O20 Ey20 (by decide))
                  have hS := own_bel O20 hS (Nat.le_refl _) HZ.out hg21
                  have Z21 := Nat.le_trans Z20 hg21.size
                  clear hg21
                  refine hK.out _ _ hS (fun _ => ?_)
                  clear hK K
                  try simp only [Act.put, List.setIfInBounds_toArray, List.set_cons_zero, List.set_cons_succ]
                  refine wpAnyH_ready (rs := [5]) (by kernel_rfl) (by simp) ?_
                  refine AllReadyH.cons (o := _) (by simp only [List.getElem?_toArray, List.getElem?_cons_succ, List.getElem?_cons_zero] <;> exact rfl) (fun K hK => ?_) ?_
                  focus (
                    obtain ⟨A', c', hv', hpl⟩ := own_prs ho21
                    subst hv'
                    go_simp
                    go_at_call 8
                    refine (HAPP.out _ _ _ hpl).mono ?_
                    rintro e wc22 ⟨rfl, hb⟩
                    have hS := hS.trans (hb.mono Z21)
                    have Ex22 := Ex21.keep hb
                    have Ey22 := Ey21.keep hb
                    have Z22 := Nat.le_trans Z21 hb.size
                    clear hb
                    go_wp2_with fail
                    refine hK.out _ _ hS (fun _ => ?_)
                    clear hK K
                    try simp only [Act.put, List.setIfInBounds_toArray, List.set_cons_zero, List.set_cons_succ]
                    refine wpAnyH_take (i := 6) (v := ?_) (by simp only [List.getElem?_toArray, List.getElem?_cons_succ, List.getElem?_cons_zero] <;> exact rfl) (by kernel_rfl) (by kernel_rfl) (by kernel_rfl) (fun _ _ _ h => h) (Or.inl ⟨by rfl, ?_⟩) hS ?_
                    rotate_left
                    focus (intro w' hw'; go_simp; all_goals with_reducible rfl)
                    try simp only [Act.put, List.setIfInBounds_toArray, List.set_cons_zero, List.set_cons_succ]
                    refine wpAnyH_take (i := 7) (v := ?_) (by simp only [List.getElem?_toArray, List.getElem?_cons_succ, List.getElem?_cons_zero] <;> exact rfl) (by kernel_rfl) (by kernel_rfl) (by kernel_rfl) (fun _ _ _ h => h) (Or.inl ⟨by rfl, ?_⟩) hS ?_
                    rotate_left
                    focus (intro w' hw'; go_simp; all_goals with_reducible rfl)
                    try simp only [Act.put, List.setIfInBounds_toArray, List.set_cons_zero, List.set_cons_succ]
                    refine wpAnyH_take (i := 8) (v := ?_) (by simp only [List.getElem?_toArray, List.getElem?_cons_succ, List.getElem?_cons_zero] <;> exact rfl) (by kernel_rfl) (by kernel_rfl) (by kernel_rfl) (fun _ _ _ h => h) (Or.inl ⟨by rfl, ?_⟩) hS ?_
                    rotate_left
                    focus (intro w' hw'; go_simp; all_goals with_reducible rfl)
                    try simp only [Act.put, List.setIfInBounds_toArray, List.set_cons_zero, List.set_cons_succ]
                    refine wpAnyH_ready (rs := [10]) (by kernel_rfl) (by simp) ?_
                    refine AllReadyH.cons (o := _) (by simp only [List.getElem?_toArray, List.getElem?_cons_succ, List.getElem?_cons_zero] <;> exact rfl) (fun K hK => ?_) ?_
                    focus (
                      refine rgs_store_blk (by rfl) 26 (.tmp 11) (.tmp 56) (by rfl) x r.1.cs #[.int .i64 0, .int .i64 0, .int .i64 0, .int .i64 0, .int .i64 0, .int .i64 0] 26 (by rfl) (by rfl) Ex22 ss_size rfl (Vs.cs_one r.1) ?_
                      have hS := below_setRow hS Mx r.1.cs
                      have hk2 := BlkIs.row Ex22 r.1.cs
                      have hy2 := BlkIs.row_other Ey22 Nyx r.1.cs
                      refine hK.out _ _ hS (fun _ => ?_)
                      clear hK K
                      try simp only [Act.put, List.setIfInBounds_toArray, List.set_cons_zero, List.set_cons_succ]
                      refine wpAnyH_take (i := 11) (v := ?_) (by simp only [List.getElem?_toArray, List.getElem?_cons_succ, List.getElem?_cons_zero] <;> exact rfl) (by kernel_rfl) (by kernel_rfl) (by kernel_rfl) (fun _ _ _ h => h) (Or.inl ⟨by rfl, ?_⟩) hS ?_
                      rotate_left
                      focus (intro w' hw'; go_simp; all_goals with_reducible rfl)
                      try simp only [Act.put, List.setIfInBounds_toArray, List.set_cons_zero, List.set_cons_succ]
                      refine wpAnyH_done (by kernel_rfl) ?_ _
                      refine NoPanic.normal ?_
                      go_wp2
                      go_meet
                      exact ⟨x, rfl, rfl, hk2, hy2, hS⟩)
                    exact AllReadyH.nil)
                  exact AllReadyH.nil)
                exact AllReadyH.nil)
              exact AllReadyH.nil)
            refine AllReadyH.cons (o := _) (by simp only [List.getElem?_toArray, List.getElem?_cons_succ, List.getElem?_cons_zero] <;> exact rfl) (fun K hK => ?_) ?_
            focus (
              go_simp
              have hS := hS.alloc (by have := Z0; omega) (.cells #[.int .i64 0, .int .i64 0, .int .i64 0, .int .i64 0, .int .i64 0, .int .i64 0] 26)
              refine hK.out _ _ hS (fun _ => ?_)
              have Ex24 := BlkIs.new wd 26 #[.int .i64 0, .int .i64 0, .int .i64 0, .int .i64 0, .int .i64 0, .int .i64 0]
              have O24 := own_low HO0 (bel1 wd (.cells #[.int .i64 0, .int .i64 0, .int .i64 0, .int .i64 0, .int .i64 0, .int .i64 0] 26))
              have Nx := own_new HO0
              have Ey24 := Ey0.alloc (.cells #[.int .i64 0, .int .i64 0, .int .i64 0, .int .i64 0, .int .i64 0, .int .i64 0] 26)
              have Nyx : p ≠ wd.heap.size := by have := Ey0.lt; omega
              have Mx : g + 2 ≤ wd.heap.size := Z0
              have Z24 : g + 2 ≤ (wd.alloc (.cells #[.int .i64 0, .int .i64 0, .int .i64 0, .int .i64 0, .int .i64 0, .int .i64 0] 26)).heap.size := by rw [World.size_alloc]; have := Z0; omega
              obtain ⟨x, qx⟩ : ∃ g, g = wd.heap.size := ⟨_, rfl⟩
              rw [← qx] at Ex24 Mx Nyx Nx ⊢
              generalize wd.alloc (.cells #[.int .i64 0, .int .i64 0, .int .i64 0, .int .i64 0, .int .i64 0, .int .i64 0] 26) = wx24 at hS Z24 Ex24 Ey24 O24 ⊢
              clear qx
              clear hK K
              try simp only [Act.put, List.setIfInBounds_toArray, List.set_cons_zero, List.set_cons_succ]
              refine wpAnyH_ready (rs := [3]) (by kernel_rfl) (by simp) ?_
              refine AllReadyH.cons (o := _) (by simp only [List.getElem?_toArray, List.getElem?_cons_succ, List.getElem?_cons_zero] <;> exact rfl) (fun K hK => ?_) ?_
              focus (
                go_simp
                have hz25 := hS.size
                have hS := hS.alloc (by have := Z24; omega) (.cells #[.int .u16 Pi, .int .u32 Pv] 47)
                refine hK.out _ _ hS (fun _ => ?_)
                have Eh125 := BlkIs.new wx24 47 #[.int .u16 Pi, .int .u32 Pv]
                have O25 := own_low O24 (bel1 wx24 (.cells #[.int .u16 Pi, .int .u32 Pv] 47))
                have Nh1 := own_new O24
                have Ex25 := Ex24.alloc (.cells #[.int .u16 Pi, .int .u32 Pv] 47)
                have Ey25 := Ey24.alloc (.cells #[.int .u16 Pi, .int .u32 Pv] 47)
                obtain ⟨h1, qh1⟩ : ∃ g, g = wx24.heap.size := ⟨_, rfl⟩
                rw [← qh1] at Eh125 Nh1 ⊢
                have Z25 : (g + 2) ≤ (wx24.alloc (.cells #[.int .u16 Pi, .int .u32 Pv] 47)).heap.size := by rw [World.size_alloc]; have := Z24; omega
                generalize wx24.alloc (.cells #[.int .u16 Pi, .int .u32 Pv] 47) = wb25 at hS Z25 Eh125 Ex25 Ey25 O25 ⊢
                clear qh1 hz25
                clear hK K
                try simp only [Act.put, List.setIfInBounds_toArray, List.set_cons_zero, List.set_cons_succ]
                refine wpAnyH_ready (rs := [4]) (by kernel_rfl) (by simp) ?_
                refine AllReadyH.cons (o := _) (by simp only [List.getElem?_toArray, List.getElem?_cons_succ, List.getElem?_cons_zero] <;> exact rfl) (fun K hK => ?_) ?_
                focus (
                  refine step_append_pr wb25 (by rfl) (.tmp 51) (.tmp 53) (by rfl) (g + 2) u7 m ls (by rfl) O25 h1 Pi Pv (by rfl) Eh125 (by omega) Z25 ?_
                  intro v26 wv26 ho26 hg26
                  have Ex26 := blk_grown Ex25 hg26 Nx
                  have Ey26 := blk_grown Ey25 hg26 (own_apart O25 Ey25 (by decide))
                  have hS := own_bel O25 hS (Nat.le_refl _) HZ.out hg26
                  have Z26 := Nat.le_trans Z25 hg26.size
                  clear hg26
                  refine hK.out _ _ hS (fun _ => ?_)
                  clear hK K
                  try simp only [Act.put, List.setIfInBounds_toArray, List.set_cons_zero, List.set_cons_succ]
                  refine wpAnyH_ready (rs := [5]) (by kernel_rfl) (by simp) ?_
                  refine AllReadyH.cons (o := _) (by simp only [List.getElem?_toArray, List.getElem?_cons_succ, List.getElem?_cons_zero] <;> exact rfl) (fun K hK => ?_) ?_
                  focus (
                    obtain ⟨A', c', hv', hpl⟩ := own_prs ho26
                    subst hv'
                    go_simp
                    go_at_call 8
                    refine (HAPP.out _ _ _ hpl).mono ?_
                    rintro e wc27 ⟨rfl, hb⟩
                    have hS := hS.trans (hb.mono Z26)
                    have Ex27 := Ex26.keep hb
                    have Ey27 := Ey26.keep hb
                    have Z27 := Nat.le_trans Z26 hb.size
                    clear hb
                    go_wp2_with fail
                    refine hK.out _ _ hS (fun _ => ?_)
                    clear hK K
                    try simp only [Act.put, List.setIfInBounds_toArray, List.set_cons_zero, List.set_cons_succ]
                    refine wpAnyH_take (i := 6) (v := ?_) (by simp only [List.getElem?_toArray, List.getElem?_cons_succ, List.getElem?_cons_zero] <;> exact rfl) (by kernel_rfl) (by kernel_rfl) (by kernel_rfl) (fun _ _ _ h => h) (Or.inl ⟨by rfl, ?_⟩) hS ?_
                    rotate_left
                    focus (intro w' hw'; go_simp; all_goals with_reducible rfl)
                    try simp only [Act.put, List.setIfInBounds_toArray, List.set_cons_zero, List.set_cons_succ]
                    refine wpAnyH_take (i := 7) (v := ?_) (by simp only [List.getElem?_toArray, List.getElem?_cons_succ, List.getElem?_cons_zero] <;> exact rfl) (by kernel_rfl) (by kernel_rfl) (by kernel_rfl) (fun _ _ _ h => h) (Or.inl ⟨by rfl, ?_⟩) hS ?_
                    rotate_left
                    focus (intro w' hw'; go_simp; all_goals with_reducible rfl)
                    try simp only [Act.put, List.setIfInBounds_toArray, List.set_cons_zero, List.set_cons_succ]
                    refine wpAnyH_take (i := 8) (v := ?_) (by simp only [List.getElem?_toArray, List.getElem?_cons_succ, List.getElem?_cons_zero] <;> exact rfl) (by kernel_rfl) (by kernel_rfl) (by kernel_rfl) (fun _ _ _ h => h) (Or.inl ⟨by rfl, ?_⟩) hS ?_
                    rotate_left
                    focus (intro w' hw'; go_simp; all_goals with_reducible rfl)
                    try simp only [Act.put, List.setIfInBounds_toArray, List.set_cons_zero, List.set_cons_succ]
                    refine wpAnyH_ready (rs := [10]) (by kernel_rfl) (by simp) ?_
                    refine AllReadyH.cons (o := _) (by simp only [List.getElem?_toArray, List.getElem?_cons_succ, List.getElem?_cons_zero] <;> exact rfl) (fun K hK => ?_) ?_
                    focus (
                      refine rgs_store_blk (by rfl) 26 (.tmp 11) (.tmp 56) (by rfl) x r.1.cs #[.int .i64 0, .int .i64 0, .int .i64 0, .int .i64 0, .int .i64 0, .int .i64 0] 26 (by rfl) (by rfl) Ex27 ss_size rfl (Vs.cs_one r.1) ?_
                      have hS := below_setRow hS Mx r.1.cs
                      have hk2 := BlkIs.row Ex27 r.1.cs
                      have hy2 := BlkIs.row_other Ey27 Nyx r.1.cs
                      refine hK.out _ _ hS (fun _ => ?_)
                      clear hK K
                      try simp only [Act.put, List.setIfInBounds_toArray, List.set_cons_zero, List.set_cons_succ]
                      refine wpAnyH_take (i := 11) (v := ?_) (by simp only [List.getElem?_toArray, List.getElem?_cons_succ, List.getElem?_cons_zero] <;> exact rfl) (by kernel_rfl) (by kernel_rfl) (by kernel_rfl) (fun _ _ _ h => h) (Or.inl ⟨by rfl, ?_⟩) hS ?_
                      rotate_left
                      focus (intro w' hw'; go_simp; all_goals with_reducible rfl)
                      try simp only [Act.put, List.setIfInBounds_toArray, List.set_cons_zero, List.set_cons_succ]
                      refine wpAnyH_done (by kernel_rfl) ?_ _
                      refine NoPanic.normal ?_
                      go_wp2
                      go_meet
                      exact ⟨x, rfl, rfl, hk2, hy2, hS⟩)
                    exact AllReadyH.nil)
                  exact AllReadyH.nil)
                exact AllReadyH.nil)
              exact AllReadyH.nil)
            exact AllReadyH.nil
          obtain ⟨q, rfl, rfl, hq, hp, hb⟩ := hcut
          have HQ := hide hq
          have HP := hide hp
          have HB7 := hide (HB6.out.trans (hb.mono (by have := HZ.out; omega)))
          clear hq hp hb HX6 HV6 HP6 HO6 HB6 HAP HAPP HLW e0 e1
          obtain ⟨x, ec⟩ := r
          simp only at HQ HP
          have kk : (ec == ec) = true := beq_self_eq_true ec
          have k0 : x.cs[0]? = some (.int .i64 x.t) := rfl
          have k1 : x.cs[1]? = some (.int .i64 x.p) := rfl
          have k2 : x.cs[2]? = some (.int .i64 x.s) := rfl
          have k3 : x.cs[3]? = some (.int .i64 x.w) := rfl
          have k4 : x.cs[4]? = some (.int .i64 x.f) := rfl
          have k5 : x.cs[5]? = some (.int .i64 x.l) := rfl
          go_wp2_with (first
            | (refine wpList_load_blk rfl 26 (.tmp 9) rfl p rfl 26 x.cs _ HP.out Try.underlying26 rfl ss_size ?_)
            | (refine wpList_load_blk rfl 26 (.tmp 11) rfl q rfl 26 x.cs _ HQ.out Try.underlying26 rfl ss_size ?_))
          clear k0 k1 k2 k3 k4 k5
          refine (HAW.out _).mono ?_
          rintro e w8 ⟨rfl, hb8⟩
          have HB8 := hide (HB7.out.trans (hb8.mono (by have := HB7.out.size; have := HG.out; omega)))
          clear hb8
          go_wp2_with fail
          go_ret
          exact ⟨rfl, HG.out ▸ HB8.out⟩
  · have hn' : (40 : Int) < (n : Int) := by omega
    clear hnn hl ha
    go_enter Try.func6, Try.ntmps6
    go_wp2_with fail
    refine (HAW.out _).mono ?_
    rintro e w2 ⟨rfl, hb2⟩
    have HB2 := hide (HB0.out.trans (hb2.mono (by have := HZ0.out; omega)))
    clear hb2 HB0
    go_wp2
    go_ret
    exact ⟨rfl, HG.out ▸ HB2.out⟩
end Go.Proofs.Ytlcnenkfineddaa.setsUnknown
