/-
  Layer 13: Ack: the program's and the document's.
-/
import Derived.Test.YtjfdlgmdlfbeoaaUkCopied
namespace Go.Proofs.Ytjfdlgmdlfbeoaa
set_option linter.unusedSimpArgs false
set_option linter.unusedVariables false
open Go.RowKit

theorem uk_size : (Try.prog.info? (Try.prog.elem 27)).map (·.size) = some 2 := by kernel_rfl
theorem rk_size : (Try.prog.info? (Try.prog.elem 22)).map (·.size) = some 2 := by kernel_rfl
theorem uk_under : Try.prog.underlying 27 = some (.slice (Try.prog.elem 27)) := by kernel_rfl
theorem rk_under : Try.prog.underlying 22 = some (.slice (Try.prog.elem 22)) := by kernel_rfl
theorem XL.nothing {w : World} {A : Option Addr} {c : Nat} (h : A = none → c = 0) (hm : c ≤ maxLen) : XL w A 0 c [] := ⟨rfl, Nat.zero_le _, hm, h, fun k x hx => by simp at hx⟩
/-- q[1:]. -/
theorem slice_rest {P : Program} {t : TypeId} (ht : P.underlying t = some (.slice (P.elem t))) (hs : (P.info? (P.elem t)).map (·.size) = some 2) {w : World} {A : Option Addr} {n c : Nat} {x : Ix} {X : List Ix} (h : XL w A n c (x :: X)) :
    ∃ Q k, (∀ w', (Instr.slice t (.slice A n c) (some (.int .i64 1)) none none).run P w' = .ok (.slice Q X.length k) w') ∧ XL w Q X.length k X := by
  have hl := h.len
  simp only [List.length_cons] at hl
  have hr : ∀ w', (Instr.slice t (.slice A n c) (some (.int .i64 ((1 : Nat) : Int))) none none).run P w' = .ok (sliced A 1 n c 2) w' := by
    intro w'
    rw [run_slice_l w' t A n c ht .i64 ((1 : Nat) : Int) (by omega) (by omega), run_size_is hs]
    rfl
  obtain ⟨b, off, rfl, _, _⟩ := h.at_ 0 x rfl
  have hle := h.le
  have hmx := h.max
  have hn1 : n - 1 = X.length := by omega
  by_cases hc : c = 1
  · subst hc
    have hX : X = [] := List.eq_nil_of_length_eq_zero (by omega)
    subst hX
    refine ⟨some ⟨b, off, none⟩, 0, fun w' => ?_, XL.nothing (fun e => by cases e) (Nat.zero_le _)⟩
    have := hr w'
    simp [sliced] at this
    rw [this, hn1]
  · refine ⟨some ⟨b, off + 2, none⟩, c - 1, fun w' => ?_, rfl, by omega, by omega, (fun e => by cases e), fun j y hy => ?_⟩
    · have := hr w'
      simp [sliced, hc, Addr.add] at this
      rw [this, hn1]
    · obtain ⟨b', off', e, hlt, c0, c1⟩ := h.at_ (j + 1) y (by simpa using hy)
      injection e with e
      injection e with e1 e2
      subst e1 e2
      rw [show off + (j + 1) * 2 = off + 2 + j * 2 by omega] at c0 c1
      exact ⟨b, off + 2, rfl, hlt, c0, c1⟩
/-- What Ack answers. -/
def GivesAck (l : List It) (w : World) (e : Ending) (w' : World) : Prop := ∃ A1 c1 A2 c2, e = .returned (.tuple #[.slice A1 (ackL l).length c1, .slice A2 (ackP l).length c2, .bool (ackB l)]) ∧ IL w' A1 (ackL l).length c1 (ackL l) ∧ PL w' A2 (ackP l).length c2 (ackP l) ∧ Below w.heap.size w w'

set_option maxRecDepth 100000 in
set_option maxHeartbeats 3200000 in
theorem uk_Ack (A : Option Addr) (n c : Nat) (l : List It) (w : World) (hl : IL w A n c l) (hn : (n : Int) ≤ 1000000) (hf : FewP l) :
    Calls Try.prog 12 #[.slice A n c] w (GivesAck l w) := by
  have hle := hl.len
  cases l with
  | nil =>
    obtain rfl : n = 0 := hle.symm
    have HIL := hide hl
    clear hl hle hf
    go_enter Try.func12, Try.ntmps12
    go_wp2
    refine bodyPost_ret (results_tmp3 rfl _ _ _) rfl ?_
    exact ⟨A, c, none, 0, rfl, HIL.out, PL.none_ w, Below.refl _ _⟩
  | cons x l =>
    have hpos : 0 < n := by simp at hle; omega
    have hnn : ((n : Int) == 0) = false := by simp; omega
    obtain ⟨X, hx, ha, he⟩ := hl
    obtain ⟨z, Y, rfl⟩ : ∃ z Y, X = z :: Y := by cases X with | nil => simp at he | cons z Y => exact ⟨z, Y, rfl⟩
    simp only [List.map_cons, List.cons.injEq] at he
    obtain ⟨rfl, rfl⟩ := he
    obtain ⟨Q, k, hsl, hxl⟩ := slice_rest uk_under uk_size hx
    obtain ⟨b, off, rfl, hbl, c0, _⟩ := hx.at_ 0 z rfl
    rw [show off + 0 * 2 = off by omega] at c0
    obtain ⟨L, hL⟩ : ∃ L, L = Y.map (·.it) := ⟨_, rfl⟩
    have hLf : ∀ y ∈ L, (y.ps.length : Int) ≤ 1000000 := fun y hy => by rw [hL] at hy; exact hf y (List.mem_cons_of_mem _ hy)
    have hLn : Y.length = L.length := by rw [hL]; simp
    rw [hLn] at hsl hxl
    obtain ⟨m, hm⟩ : ∃ m, m = L.length := ⟨_, rfl⟩
    have hmn : m < n := by rw [hm, ← hLn]; simp only [List.length_cons, List.length_map] at hle; omega
    rw [← hm] at hsl hxl
    have HSL := hide hsl
    have HI2 := hide (show IL w Q m k L from ⟨Y, hxl, fun y hy => ha y (List.mem_cons_of_mem _ hy), hL.symm⟩)
    have HP := hide (ha z List.mem_cons_self)
    have HCL := hide (fun (w' : World) (h : PL w' z.A z.it.ps.length z.c z.it.ps) => uk_Clone z.A z.it.ps.length z.c z.it.ps w' h (hf z.it List.mem_cons_self))
    have HCO := hide (fun (w' : World) (h : IL w' Q m k L) => uk_copied Q m k L w' h (by omega) hLf)
    obtain ⟨A', hA'⟩ : ∃ A', A' = z.A := ⟨_, rfl⟩
    obtain ⟨c', hc'⟩ : ∃ c', c' = z.c := ⟨_, rfl⟩
    obtain ⟨ps, hps⟩ : ∃ ps, ps = z.it.ps := ⟨_, rfl⟩
    obtain ⟨p, hpl⟩ : ∃ p, p = ps.length := ⟨_, rfl⟩
    rw [← hA', ← hc', ← hps, ← hpl] at HP c0 HCL
    have HE := hide (show Y.map (·.it) = L from hL.symm)
    have HE2 := hide (show z.it.ps = ps from hps.symm)
    have HML := hide (show L.length = m from hm.symm)
    have HPLN := hide (show ps.length = p from hpl.symm)
    unfold GivesAck
    simp only [ackL, ackP, ackB, List.drop_succ_cons, List.drop_zero, HE.out, HE2.out, HML.out, HPLN.out]
    clear hx ha hsl hxl hf hle hA' hc' hps hpl hL hm hLn hLf HE HE2
    go_enter Try.func12, Try.ntmps12
    go_upto_region 3 with (fail)
    refine wp_region_noPanic ?_
    refine wp_region_held_drew (S := fun w' => Below w.heap.size w w') (by kernel_rfl) (Below.refl _ _).drew (fun hS => ?_)
    have hi := HI2.out.drew
    have hp := HP.out.drew
    generalize w.drew = wd at hS hi hp ⊢
    refine wpAnyH_take (i := 0) (v := ?_) (by simp only [List.getElem?_toArray, List.getElem?_cons_succ, List.getElem?_cons_zero] <;> exact rfl) (by kernel_rfl) (by kernel_rfl) (by kernel_rfl) (fun _ _ _ h => h) (Or.inl ⟨by rfl, ?_⟩) hS ?_
    rotate_left
    focus (intro w' hw'; go_simp; all_goals with_reducible rfl)
    try simp only [Act.put, List.setIfInBounds_toArray, List.set_cons_zero, List.set_cons_succ]
    refine wpAnyH_take (i := 1) (v := ?_) (by simp only [List.getElem?_toArray, List.getElem?_cons_succ, List.getElem?_cons_zero] <;> exact rfl) (by kernel_rfl) (by kernel_rfl) (by kernel_rfl) (fun _ _ _ h => h) (Or.inl ⟨by rfl, ?_⟩) hS ?_
    rotate_left
    focus (intro w' hw'; have kk := HSL.out w'; go_simp; all_goals with_reducible rfl)
    try simp only [Act.put, List.setIfInBounds_toArray, List.set_cons_zero, List.set_cons_succ]
    refine wpAnyH_take (i := 3) (v := ?_) (by simp only [List.getElem?_toArray, List.getElem?_cons_succ, List.getElem?_cons_zero] <;> exact rfl) (by kernel_rfl) (by kernel_rfl) (by kernel_rfl) (fun _ _ _ h => h) (Or.inl ⟨by rfl, ?_⟩) hS ?_
    rotate_left
    focus (intro w' hw'; go_simp; all_goals with_reducible rfl)
    try simp only [Act.put, List.setIfInBounds_toArray, List.set_cons_zero, List.set_cons_succ]
    refine wpAnyH_take (i := 4) (v := ?_) (by simp only [List.getElem?_toArray, List.getElem?_cons_succ, List.getElem?_cons_zero] <;> exact rfl) (by kernel_rfl) (by kernel_rfl) (by kernel_rfl) (fun _ _ _ h => h) (Or.inl ⟨by rfl, ?_⟩) hS ?_
    rotate_left
    focus (intro w' hw'; have kk : 0 < n := hpos; go_simp; all_goals with_reducible rfl)
    try simp only [Act.put, List.setIfInBounds_toArray, List.set_cons_zero, List.set_cons_succ]
    refine wpAnyH_take (i := 5) (v := ?_) (by simp only [List.getElem?_toArray, List.getElem?_cons_succ, List.getElem?_cons_zero] <;> exact rfl) (by kernel_rfl) (by kernel_rfl) (by kernel_rfl) (fun _ _ _ h => h) (Or.inl ⟨by rfl, ?_⟩) hS ?_
    rotate_left
    focus (intro w' hw'; go_simp; all_goals with_reducible rfl)
    try simp only [Act.put, List.setIfInBounds_toArray, List.set_cons_zero, List.set_cons_succ]
    refine wpAnyH_take (i := 6) (v := ?_) (by simp only [List.getElem?_toArray, List.getElem?_cons_succ, List.getElem?_cons_zero] <;> exact rfl) (by kernel_rfl) (by kernel_rfl) (by kernel_rfl) (fun _ _ _ h => h) (Or.inl ⟨by rfl, ?_⟩) hS ?_
    rotate_left
    focus (intro w' hw'; have k0 := (hw'.cell (p := ⟨b, _, none⟩) hbl).trans c0; go_simp; all_goals with_reducible rfl)
    try simp only [Act.put, List.setIfInBounds_toArray, List.set_cons_zero, List.set_cons_succ]
    refine wpAnyH_ready (rs := [2]) (by kernel_rfl) (by simp) ?_
    refine AllReadyH.cons (o := _) (by simp only [List.getElem?_toArray, List.getElem?_cons_succ, List.getElem?_cons_zero] <;> exact rfl) (fun K hK => ?_) ?_
    focus (
      go_simp
      go_at_call 28
      refine (HCO.out _ hi).mono ?_
      rintro e wc ⟨v1, rfl, ho, hb⟩
      have hS := hS.trans (hb.mono hS.size)
      have hp := hp.keep hb
      clear hb hi
      go_wp2_with fail
      refine hK.out _ _ hS (fun _ => ?_)
      clear hK K
      try simp only [Act.put, List.setIfInBounds_toArray, List.set_cons_zero, List.set_cons_succ]
      refine wpAnyH_ready (rs := [7]) (by kernel_rfl) (by simp) ?_
      refine AllReadyH.cons (o := _) (by simp only [List.getElem?_toArray, List.getElem?_cons_succ, List.getElem?_cons_zero] <;> exact rfl) (fun K hK => ?_) ?_
      focus (
        go_simp
        go_at_call 29
        refine (HCL.out _ hp).mono ?_
        rintro e wc2 ⟨A2, c2, rfl, hp2, hf2, hb⟩
        have hS := hS.trans (hb.mono hS.size)
        have ho := ho.keep hb
        clear hb hp hf2
        go_wp2_with fail
        refine hK.out _ _ hS (fun _ => ?_)
        clear hK K
        try simp only [Act.put, List.setIfInBounds_toArray, List.set_cons_zero, List.set_cons_succ]
        refine wpAnyH_take (i := 8) (v := ?_) (by simp only [List.getElem?_toArray, List.getElem?_cons_succ, List.getElem?_cons_zero] <;> exact rfl) (by kernel_rfl) (by kernel_rfl) (by kernel_rfl) (fun _ _ _ h => h) (Or.inl ⟨by rfl, ?_⟩) hS ?_
        rotate_left
        focus (intro w' hw'; go_simp; all_goals with_reducible rfl)
        try simp only [Act.put, List.setIfInBounds_toArray, List.set_cons_zero, List.set_cons_succ]
        refine wpAnyH_take (i := 9) (v := ?_) (by simp only [List.getElem?_toArray, List.getElem?_cons_succ, List.getElem?_cons_zero] <;> exact rfl) (by kernel_rfl) (by kernel_rfl) (by kernel_rfl) (fun _ _ _ h => h) (Or.inl ⟨by rfl, ?_⟩) hS ?_
        rotate_left
        focus (intro w' hw'; go_simp; all_goals with_reducible rfl)
        try simp only [Act.put, List.setIfInBounds_toArray, List.set_cons_zero, List.set_cons_succ]
        refine wpAnyH_take (i := 10) (v := ?_) (by simp only [List.getElem?_toArray, List.getElem?_cons_succ, List.getElem?_cons_zero] <;> exact rfl) (by kernel_rfl) (by kernel_rfl) (by kernel_rfl) (fun _ _ _ h => h) (Or.inl ⟨by rfl, ?_⟩) hS ?_
        rotate_left
        focus (intro w' hw'; go_simp; all_goals with_reducible rfl)
        try simp only [Act.put, List.setIfInBounds_toArray, List.set_cons_zero, List.set_cons_succ]
        refine wpAnyH_done (by kernel_rfl) ?_ _
        refine NoPanic.normal ?_
        go_wp2
        refine bodyPost_ret (results_tmp3 rfl _ _ _) rfl ?_
        rw [HML.out] at ho
        rw [HPLN.out] at hp2
        obtain ⟨A1, c1, rfl, hi⟩ := ho.il
        exact ⟨A1, c1, A2, c2, by rw [← HPLN.out]; rfl, hi, hp2, hS⟩)
      exact AllReadyH.nil)
    exact AllReadyH.nil

set_option maxRecDepth 100000 in
set_option maxHeartbeats 3200000 in
theorem rk_Ack (A : Option Addr) (n c : Nat) (l : List It) (w : World) (hl : IL w A n c l) (hn : (n : Int) ≤ 1000000) :
    Calls Try.prog 13 #[.slice A n c] w (GivesAck l w) := by
  obtain ⟨i0, hi0, hz0, hz1, hz2⟩ := info_parts rk_info
  have hle := hl.len
  cases l with
  | nil =>
    obtain rfl : n = 0 := hle.symm
    clear hl hle
    go_enter Try.func13, Try.ntmps13
    go_wp2
    refine bodyPost_ret (results_tmp3 rfl _ _ _) rfl ?_
    exact ⟨none, 0, none, 0, rfl, IL.none_ w, PL.none_ w, Below.refl _ _⟩
  | cons x l =>
    have hpos : 0 < n := by simp at hle; omega
    have hnn : ((n : Int) == 0) = false := by simp; omega
    obtain ⟨X, hx, ha, he⟩ := hl
    obtain ⟨z, Y, rfl⟩ : ∃ z Y, X = z :: Y := by cases X with | nil => simp at he | cons z Y => exact ⟨z, Y, rfl⟩
    simp only [List.map_cons, List.cons.injEq] at he
    obtain ⟨rfl, rfl⟩ := he
    obtain ⟨Q, k, hsl, hxl⟩ := slice_rest rk_under rk_size hx
    obtain ⟨b, off, rfl, hbl, c0, _⟩ := hx.at_ 0 z rfl
    rw [show off + 0 * 2 = off by omega] at c0
    obtain ⟨m, hm⟩ : ∃ m, m = Y.length := ⟨_, rfl⟩
    have hmn : m < n := by rw [hm]; simp only [List.length_cons, List.length_map] at hle; omega
    rw [← hm] at hsl hxl
    have HSL := hide hsl
    have HXL := hide hxl
    have HAX := hide (show AllX w Y from fun y hy => ha y (List.mem_cons_of_mem _ hy))
    have HP := hide (ha z List.mem_cons_self)
    have HM := hide (show 0 + m ≤ maxLen by unfold maxLen; omega)
    have HN := hide (show (0 + m) * 32 ≤ 140737488355328 by omega)
    obtain ⟨L, hL⟩ : ∃ L, L = Y.map (·.it) := ⟨_, rfl⟩
    obtain ⟨ps, hps⟩ : ∃ ps, ps = z.it.ps := ⟨_, rfl⟩
    obtain ⟨p, hpl⟩ : ∃ p, p = ps.length := ⟨_, rfl⟩
    have HLQ := hide hL
    have HML := hide (show L.length = m by rw [hL, hm]; simp)
    have HPLN := hide (show ps.length = p from hpl.symm)
    unfold GivesAck
    simp only [ackL, ackP, ackB, List.drop_succ_cons, List.drop_zero, ← hL, ← hps, HML.out, HPLN.out]
    obtain ⟨A', hA'⟩ : ∃ A', A' = z.A := ⟨_, rfl⟩
    obtain ⟨c', hc'⟩ : ∃ c', c' = z.c := ⟨_, rfl⟩
    rw [← hA', ← hc', ← hps, ← hpl] at HP c0
    clear hx ha hsl hxl hle hA' hc' hps hpl hL hm
    go_enter Try.func13, Try.ntmps13
    go_upto_region 4 with (fail)
    refine wp_region_noPanic ?_
    refine wp_region_held_drew (S := fun w' => Below w.heap.size w w') (by kernel_rfl) (Below.refl _ _).drew (fun hS => ?_)
    have hxl := HXL.out.keep (Below.refl w.heap.size w).drew
    have hax := HAX.out.keep (Below.refl w.heap.size w).drew
    generalize w.drew = wd at hS hxl hax ⊢
    refine wpAnyH_take (i := 0) (v := ?_) (by simp only [List.getElem?_toArray, List.getElem?_cons_succ, List.getElem?_cons_zero] <;> exact rfl) (by kernel_rfl) (by kernel_rfl) (by kernel_rfl) (fun _ _ _ h => h) (Or.inl ⟨by rfl, ?_⟩) hS ?_
    rotate_left
    focus (intro w' hw'; go_simp; all_goals with_reducible rfl)
    try simp only [Act.put, List.setIfInBounds_toArray, List.set_cons_zero, List.set_cons_succ]
    refine wpAnyH_take (i := 1) (v := ?_) (by simp only [List.getElem?_toArray, List.getElem?_cons_succ, List.getElem?_cons_zero] <;> exact rfl) (by kernel_rfl) (by kernel_rfl) (by kernel_rfl) (fun _ _ _ h => h) (Or.inl ⟨by rfl, ?_⟩) hS ?_
    rotate_left
    focus (intro w' hw'; go_simp; all_goals with_reducible rfl)
    try simp only [Act.put, List.setIfInBounds_toArray, List.set_cons_zero, List.set_cons_succ]
    refine wpAnyH_take (i := 2) (v := ?_) (by simp only [List.getElem?_toArray, List.getElem?_cons_succ, List.getElem?_cons_zero] <;> exact rfl) (by kernel_rfl) (by kernel_rfl) (by kernel_rfl) (fun _ _ _ h => h) (Or.inl ⟨by rfl, ?_⟩) hS ?_
    rotate_left
    focus (intro w' hw'; have kk := HSL.out w'; go_simp; all_goals with_reducible rfl)
    try simp only [Act.put, List.setIfInBounds_toArray, List.set_cons_zero, List.set_cons_succ]
    refine wpAnyH_take (i := 4) (v := ?_) (by simp only [List.getElem?_toArray, List.getElem?_cons_succ, List.getElem?_cons_zero] <;> exact rfl) (by kernel_rfl) (by kernel_rfl) (by kernel_rfl) (fun _ _ _ h => h) (Or.inl ⟨by rfl, ?_⟩) hS ?_
    rotate_left
    focus (intro w' hw'; go_simp; all_goals with_reducible rfl)
    try simp only [Act.put, List.setIfInBounds_toArray, List.set_cons_zero, List.set_cons_succ]
    refine wpAnyH_take (i := 5) (v := ?_) (by simp only [List.getElem?_toArray, List.getElem?_cons_succ, List.getElem?_cons_zero] <;> exact rfl) (by kernel_rfl) (by kernel_rfl) (by kernel_rfl) (fun _ _ _ h => h) (Or.inl ⟨by rfl, ?_⟩) hS ?_
    rotate_left
    focus (intro w' hw'; have kk : 0 < n := hpos; go_simp; all_goals with_reducible rfl)
    try simp only [Act.put, List.setIfInBounds_toArray, List.set_cons_zero, List.set_cons_succ]
    refine wpAnyH_take (i := 6) (v := ?_) (by simp only [List.getElem?_toArray, List.getElem?_cons_succ, List.getElem?_cons_zero] <;> exact rfl) (by kernel_rfl) (by kernel_rfl) (by kernel_rfl) (fun _ _ _ h => h) (Or.inl ⟨by rfl, ?_⟩) hS ?_
    rotate_left
    focus (intro w' hw'; go_simp; all_goals with_reducible rfl)
    try simp only [Act.put, List.setIfInBounds_toArray, List.set_cons_zero, List.set_cons_succ]
    refine wpAnyH_take (i := 7) (v := ?_) (by simp only [List.getElem?_toArray, List.getElem?_cons_succ, List.getElem?_cons_zero] <;> exact rfl) (by kernel_rfl) (by kernel_rfl) (by kernel_rfl) (fun _ _ _ h => h) (Or.inl ⟨by rfl, ?_⟩) hS ?_
    rotate_left
    focus (intro w' hw'; have k0 := (hw'.cell (p := ⟨b, _, none⟩) hbl).trans c0; go_simp; all_goals with_reducible rfl)
    try simp only [Act.put, List.setIfInBounds_toArray, List.set_cons_zero, List.set_cons_succ]
    refine wpAnyH_ready (rs := [3]) (by kernel_rfl) (by simp) ?_
    refine AllReadyH.cons (o := _) (by simp only [List.getElem?_toArray, List.getElem?_cons_succ, List.getElem?_cons_zero] <;> exact rfl) (fun K hK => ?_) ?_
    focus (
      refine step_append_q wd (by rfl) (.tmp 9) (.tmp 11) _ (by rfl) w.heap.size 58 i0 _ 32 Try.underlying22 hi0 hz0 hz1 hz2 rfl (.slice none 0 0) 0 [] (by rfl) (OwnQ.nil_ _ _ _) Q m k Y (by rfl) hxl hax (fun y hy b' off' e hn hh => by cases hh) (by have := HM.out; omega) (by have := HN.out; omega) hS.size ?_
      intro v9 w9 ho9 hg9
      have hS := (OwnQ.nil_ wd w.heap.size 58).below hS (Nat.le_refl _) (Nat.le_refl _) hg9
      clear hg9 hxl hax
      refine hK.out _ _ hS (fun _ => ?_)
      clear hK K
      try simp only [Act.put, List.setIfInBounds_toArray, List.set_cons_zero, List.set_cons_succ]
      refine wpAnyH_take (i := 8) (v := ?_) (by simp only [List.getElem?_toArray, List.getElem?_cons_succ, List.getElem?_cons_zero] <;> exact rfl) (by kernel_rfl) (by kernel_rfl) (by kernel_rfl) (fun _ _ _ h => h) (Or.inl ⟨by rfl, ?_⟩) hS ?_
      rotate_left
      focus (intro w' hw'; go_simp; all_goals with_reducible rfl)
      try simp only [Act.put, List.setIfInBounds_toArray, List.set_cons_zero, List.set_cons_succ]
      refine wpAnyH_take (i := 9) (v := ?_) (by simp only [List.getElem?_toArray, List.getElem?_cons_succ, List.getElem?_cons_zero] <;> exact rfl) (by kernel_rfl) (by kernel_rfl) (by kernel_rfl) (fun _ _ _ h => h) (Or.inl ⟨by rfl, ?_⟩) hS ?_
      rotate_left
      focus (intro w' hw'; go_simp; all_goals with_reducible rfl)
      try simp only [Act.put, List.setIfInBounds_toArray, List.set_cons_zero, List.set_cons_succ]
      refine wpAnyH_take (i := 10) (v := ?_) (by simp only [List.getElem?_toArray, List.getElem?_cons_succ, List.getElem?_cons_zero] <;> exact rfl) (by kernel_rfl) (by kernel_rfl) (by kernel_rfl) (fun _ _ _ h => h) (Or.inl ⟨by rfl, ?_⟩) hS ?_
      rotate_left
      focus (intro w' hw'; go_simp; all_goals with_reducible rfl)
      try simp only [Act.put, List.setIfInBounds_toArray, List.set_cons_zero, List.set_cons_succ]
      refine wpAnyH_done (by kernel_rfl) ?_ _
      refine NoPanic.normal ?_
      go_wp2
      refine bodyPost_ret (results_tmp3 rfl _ _ _) rfl ?_
      obtain ⟨A1, c1, rfl, hi⟩ := ho9.il
      rw [Nat.zero_add, List.nil_append, ← HLQ.out] at hi
      exact ⟨A1, c1, A', c', by rw [Nat.zero_add]; rfl, hi, HP.out.keep hS, hS⟩)
    exact AllReadyH.nil
end Go.Proofs.Ytjfdlgmdlfbeoaa
