/-
  PrefintBack: its walk: for every two bytes, every number and every list of bytes behind the Go text returns true, and leaves what was there as it was.
-/
import Derived.Test.YtfnkjcdkogipbaaPiBack
import Derived.Test.YtfnkjcdkogipbaaPrefintGetsWalk
import Derived.Laws.AppendOwnNone
import Derived.StillTailTactics
namespace Go.Proofs.Ytfnkjcdkogipbaa
open Go.RowKit Go.ChangeShapes

/-- append of what reads as a list of bytes onto a slice of the call's own. -/
theorem wpList_append_rb {P : Program} (w : World) {ops : Array Oper} {rest : List Oper} {o : Oper} {a : Act} {Q : Exit → Act → World → Prop} (hgd : o.guard = none) (s x : Operand) (t : TypeId)
    (ho : o.op = .call { callee := .builtin .append, args := #[s, x], argTypes := #[t, t] })
    (base : Nat) (e : TypeId) (i : TypeInfo) (ht : P.underlying t = some (.slice e)) (hi : P.info? e = some i) (hz : i.zero = some (.int .u8 0)) (hsize : i.size = 1) (hby : i.bytes = 1)
    (v : Value) (xs : List Int) (hs : a.eval s = v) (hown : w.ownsRow base e 1 v xs.length (u8s xs))
    (A : Option Addr) (m c : Nat) (ys : List Int) (hx : a.eval x = .slice A m c) (hr : RB w A m ys)
    (hnil : A = none → m = 0 ∧ c = 0) (h63 : xs.length + m ≤ 1000000) (hbase : base ≤ w.heap.size)
    (h : ∀ v' w', w'.ownsRow base e 1 v' (xs ++ ys).length (u8s (xs ++ ys)) → w.grownBy w' v.ownBlock → wpList P ops Q rest (a.put o.dst v') w') : wpList P ops Q (o :: rest) a w := by
  have hl := hr.1
  cases A with
  | none =>
    obtain ⟨rfl, rfl⟩ := hnil rfl
    have : ys = [] := List.eq_nil_of_length_eq_zero hl
    subst this
    refine wpList_append_own_none hgd s x t ho base e i 1 ht hi v _ _ hs hown hx (h v w (by simpa using hown) ⟨rfl, rfl, rfl, Nat.le_refl _, fun _ _ _ => rfl⟩)
  | some ad =>
    refine wpList_append_own _ hgd s x t ho base e i (.int .u8 0) 1 1 ht hi hz hsize hby rfl (by decide) v _ _ hs hown ad m c (u8s ys) hx (by simp [u8s, hl]) (fun j u hj => ?_) (ints_oneCell _ _) (by unfold maxLen; omega) (by omega) hbase (fun v' w' h1 h2 _ => h v' w' ?_ h2)
    · have hj' : j < m := by
        have := (List.getElem?_eq_some_iff.1 hj).1
        simpa [u8s, hl] using this
      obtain ⟨b, off, he, _, hc⟩ := hr.2.1 (by omega)
      obtain rfl := Option.some.inj he
      rw [Addr.add_lit, hc j hj']
      rw [← hj]
      simp [u8s, List.getD, show j < ys.length by omega]
    · rw [List.length_append, hl, show u8s (xs ++ ys) = u8s xs ++ u8s ys by simp [u8s]]
      exact h1

/-- What is owned reads as a list. -/
theorem rb_of_own {w : World} {B : Nat} {A : Option Addr} {c : Nat} {l : List Int} {n : Nat} (h : w.ownsRow B 5 1 (.slice A n c) n (u8s l)) (hb : ∀ x ∈ l, 0 ≤ x ∧ x ≤ 255) :
    RB w A n l ∧ n ≤ c ∧ c ≤ 9223372036854775807 := by
  have hn : l.length = n := by have := h.1; simpa [u8s] using this
  have hd : ∀ i, 0 ≤ l.getD i 0 ∧ l.getD i 0 ≤ 255 := fun i => by
    by_cases hi : i < l.length
    · simp only [List.getD, List.getElem?_eq_getElem hi, Option.getD_some]
      exact hb _ (List.getElem_mem hi)
    · simp [List.getD, List.getElem?_eq_none (show l.length ≤ i by omega)]
  rcases h.2 with ⟨he, hz⟩ | ⟨g, cap, cur, he, _, hg, hnc, hm, _, _⟩
  · injection he with e1 e2 e3
    subst e1 e3
    exact ⟨⟨hn, fun hp => absurd hp (by omega), hd⟩, by omega, by omega⟩
  · injection he with e1 e2 e3
    subst e1 e3
    refine ⟨⟨hn, fun hp => ⟨g, 0, rfl, (Array.getElem?_eq_some_iff.1 hg).1, fun i hi => ?_⟩, hd⟩, hnc, by unfold maxLen at hm; omega⟩
    have := h.cells (g := g) rfl i (.int .u8 (l.getD i 0)) (by simp [u8s, List.getD, hn, hi])
    rwa [Addr.add_lit] at this

theorem own_at {w : World} {B : Nat} {e : TypeId} {n : Nat} {v : Value} {xs : List Value} (h : w.ownsRow B e 1 v n xs) (hn : 0 < n) : ∃ g c, v = .slice (some ⟨g, 0, none⟩) n c ∧ B ≤ g ∧ g < w.heap.size := by
  rcases h.2 with ⟨rfl, rfl⟩ | ⟨g, cap, cur, rfl, hb, hg, _⟩
  · omega
  · exact ⟨g, cap, rfl, hb, (Array.getElem?_eq_some_iff.1 hg).1⟩

theorem RB.below {w w' : World} {A : Option Addr} {n : Nat} {xs : List Int} (h : RB w A n xs) (hb : Below w.heap.size w w') : RB w' A n xs :=
  ⟨h.1, fun hp => by
    obtain ⟨b, off, e, hlt, hc⟩ := h.2.1 hp
    exact ⟨b, off, e, by have := hb.size; omega, fun i hi => (hb.cell hlt).trans (hc i hi)⟩, h.2.2⟩

theorem RB.short {w : World} {A : Option Addr} {n m : Nat} {xs : List Int} (h : RB w A n xs) (hm : m ≤ n) : RB w A m (xs.take m) :=
  ⟨by rw [List.length_take, h.1]; omega, fun hp => by
    obtain ⟨b, off, e, hlt, hc⟩ := h.2.1 (by omega)
    exact ⟨b, off, e, hlt, fun i hi => by rw [hc i (by omega)]; simp [List.getD, hi]⟩, fun i => by
    by_cases hi : i < m
    · have := h.2.2 i
      simpa [List.getD, hi] using this
    · simp [List.getD, List.getElem?_take, hi]⟩

end Go.Proofs.Ytfnkjcdkogipbaa
namespace Go.Proofs.Ytfnkjcdkogipbaa.prefintBack
open Go.RowKit Go.ChangeShapes

theorem walk_long (x0 x1 : Int) (a1 : Int) (a2 : Option Addr) (len2 cap2 : Nat) (w : World) (hl : (100 : Int) < (len2 : Int)) :
    Calls Try.prog 5 #[.agg #[.int .u8 x0, .int .u8 x1], .int .u32 a1, .slice a2 len2 cap2] w fun e w' => e = .returned (.bool true) ∧ Below w.heap.size w w' := by
  go_enter Try.func5, Try.ntmps5
  go_wp2_with fail
  refine (aw_awake _).mono ?_
  rintro e w4 ⟨rfl, hb4⟩
  have HB4 := hide hb4
  clear hb4
  go_wp2_with fail
  go_ret
  exact ⟨rfl, ((Below.refl _ _).alloc (Nat.le_refl _) _).trans (HB4.out.mono (by simp))⟩

set_option maxHeartbeats 1000000 in
theorem walk_right (x0 x1 : Int) (h0 : 0 ≤ x0) (h1 : x0 ≤ 255) (g0 : 0 ≤ x1) (g1 : x1 ≤ 255) (a1 : Int) (k n : Nat) (hk : x1 % 8 + 1 = k) (hn : a1 % 268435456 = n) (i0 : 0 ≤ a1) (i1 : a1 ≤ 4294967295) (a2 : Option Addr) (len2 cap2 : Nat) (ts : List Int) (w : World) (hr : RB w a2 len2 ts) (hl : (len2 : Int) ≤ 100) (hc : len2 ≤ cap2) (hnil : a2 = none → len2 = 0 ∧ cap2 = 0) :
    Calls Try.prog 5 #[.agg #[.int .u8 x0, .int .u8 x1], .int .u32 a1, .slice a2 len2 cap2] w fun e w' => e = .returned (.bool true) ∧ Below w.heap.size w w' := by
  have hk1 : 1 ≤ k := by omega
  have hk8 : k ≤ 8 := by omega
  have hn' : n < 268435456 := by omega
  have hk' : 1 + x1 % 8 = (k : Int) := by omega
  obtain ⟨i0, hi0, hz0, hz1, hz2⟩ := info_parts u8_info
  have G1 := getI_putI x0 h0 h1 k n hk8 hn' ts
  have G2 := getI_cut x0 h0 h1 k n hk8 hn'
  have G3 := putI_first x0 h0 h1 k n hk8
  have G4 := putI_bytes x0 h0 h1 k n hk8
  have G5 := putI_len x0 k n
  have N1 := sizeN_pos k n
  have N5 := sizeN_le (k := k) hn'
  have P := pi_Put x0 h0 h1 k n hk1 hk8 hn' (w.alloc (.cells #[.int .u8 x0, .int .u8 x1] 37))
  have S := fun w => pi_Size k n hk1 hk8 hn' w
  obtain ⟨N, hN⟩ : ∃ N, N = sizeN k n := ⟨_, rfl⟩
  obtain ⟨L, hL⟩ : ∃ L, L = putI x0 k n := ⟨_, rfl⟩
  rw [← hL] at G1 G2 G3 G4 G5 P
  rw [← hN] at G1 G2 G5 N1 N5
  simp only [← hN] at S
  obtain ⟨y, hy⟩ : ∃ y, y = L.getD 0 0 := ⟨_, rfl⟩
  rw [← hy] at G3
  have HY := hide hy
  have HS := hide S
  have HP := hide P
  have HR := hide hr
  have H1 := hide G1
  have H2 := hide G2
  have H3 := hide G3
  have H4 := hide G4
  have H5 := hide G5
  have N1' : (1 : Int) ≤ (N : Int) := by omega
  have N5' : (N : Int) ≤ 5 := by omega
  clear hr hk S P G1 G2 G3 G4 G5 hN hL hy N1 N5
  go_enter Try.func5, Try.ntmps5
  go_wp2_with fail
  refine HP.out.mono ?_
  rintro e w1 ⟨v1, rfl, hown1, hb1⟩
  rw [H5.out] at hown1
  obtain ⟨g, c1, rfl, hgB, hglt⟩ := own_at hown1 (by omega)
  have R1 := rb_of_own hown1 H4.out
  have hbw1 : Below w.heap.size w w1 := ((Below.refl _ _).alloc (Nat.le_refl _) _).trans (hb1.mono (by simp))
  have C0 : w1.cell? ⟨w.heap.size, 0, none⟩ = some (.int .u8 x0) := by
    rw [hb1.cell (by simp)]; simp [World.cell?_alloc_at]
  have HC0 := hide C0
  have HO1 := hide hown1
  have HB1 := hide hb1
  have HR1 := hide R1
  have HW1 := hide hbw1
  have M0 : (w1.alloc (.cells #[] 5)).ownsRow w1.heap.size 5 1 (.slice (some ⟨w1.heap.size, 0, none⟩) 0 0) ([] : List Int).length (u8s []) := World.ownsRow_made w1 #[] 0 (Nat.le_refl _) (Nat.zero_le _) rfl
  have HM0 := hide M0
  clear hown1 R1 hb1 C0 M0
  go_wp2_with (first
    | (at_builtin; refine (wpList_append_rb _ rfl (.tmp 45) (.tmp 46) 22 rfl w1.heap.size 5 i0 Try.underlying22 hi0 hz0 hz1 hz2 _ [] rfl HM0.out (some ⟨g, 0, none⟩) N c1 L rfl (HR1.out.1.below ((Below.refl _ _).alloc (Nat.le_refl _) _)) (fun h => by cases h) (by simp; omega) (by simp) ?_); intro v2 w2 hown2 hg2; (have HB2 := hide (own_below (B := w1.heap.size) (w := w1) HM0.out ((Below.refl _ _).alloc (Nat.le_refl _) _) (Nat.le_refl _) hg2)); have HO2 := hide hown2; clear hown2 hg2)
    | (at_builtin; go_must (refine wpList_append_rb _ rfl (.tmp 47) (.tmp 48) 22 rfl w1.heap.size 5 i0 Try.underlying22 hi0 hz0 hz1 hz2 _ _ rfl HO2.out a2 len2 cap2 ts rfl (RB.below (RB.below HR.out HW1.out) HB2.out) hnil (by simp [H5.out]; omega) HB2.out.size ?_); intro v3 w3 hown3 hg3; go_must (have HB3 := hide (own_below (w := w1) HO2.out HB2.out (Nat.le_refl _) hg3)); go_must (rw [show (([] : List Int) ++ L ++ ts).length = N + len2 by simp [H5.out, HR.out.1]] at hown3); have HO3 := hide hown3; clear hown3 hg3; obtain ⟨A3, c3, rfl⟩ := own_form HO3.out))
  have R3 := rb_of_own HO3.out (by
    intro x hx
    rcases List.mem_append.1 hx with hx | hx
    · exact H4.out x (by simpa using hx)
    · obtain ⟨i, hi, rfl⟩ := List.getElem_of_mem hx
      have := HR.out.2.2 i
      simpa [List.getD, hi] using this)
  have T1 := pi_Get A3 (N + len2) c3 _ k hk1 hk8 w3 R3.1 R3.2.1 R3.2.2
  rw [List.nil_append, H1.out] at T1
  have T2 := pi_Get (some ⟨g, 0, none⟩) (N - 1) c1 _ k hk1 hk8 w3 ((HR1.out.1.below HB3.out).short (m := N - 1) (by omega)) (by have := HR1.out.2.1; omega) HR1.out.2.2
  rw [H2.out] at T2
  clear R3
  refine T1.mono ?_
  rintro e w' ⟨rfl, rfl⟩
  have HT2 := hide T2
  clear T1 T2
  have HN := hide HR1.out.2.1
  have hNc : N ≤ c1 := HR1.out.2.1
  go_wp2_with fail
  refine HT2.out.mono ?_
  rintro e w' ⟨rfl, rfl⟩
  have C1 : w3.cell? ⟨w.heap.size, 0, none⟩ = some (.int .u8 x0) := by
    rw [HB3.out.cell (World.block_lt_of_cell? _ _ HC0.out)]; exact HC0.out
  have C2 : w3.cell? ⟨g, 0, none⟩ = some (.int .u8 y) := by
    have := ((HR1.out.1.below HB3.out).2.1 (by omega))
    obtain ⟨b', off', he, _, hc'⟩ := this
    obtain ⟨rfl, rfl⟩ : g = b' ∧ 0 = off' := by injection he with he; injection he with e1 e2; exact ⟨e1, e2⟩
    have := hc' 0 (by omega)
    rw [HY.out]
    simpa using this
  have hNp : (0 : Int) < (N : Int) := by omega
  have hNe : ((N : Int) == N) = true := by simp
  go_wp2_with fail
  refine wp_region_still_tail 38 (by kernel_rfl) (by kernel_rfl) ?_
  simp only [List.take_succ_cons, List.take_zero, List.drop_succ_cons, List.drop_zero]
  have hNn : 0 < N := by omega
  have ⟨y0, y1⟩ := H3.out.2
  have E1 : Hid (restN y k = restN x0 k) := H3.out.1
  have Q1 := (pi_Rest y y0 y1 k k (by omega) w3.drew).mono (fun _ _ (h : _ ∧ _) => (⟨h.1, h.2.symm⟩ : _ ∧ _))
  have Q2 := (pi_Rest x0 h0 h1 k k (by omega) w3.drew).mono (fun _ _ (h : _ ∧ _) => (⟨h.1, h.2.symm⟩ : _ ∧ _))
  have Q3 := (HS.out w3.drew).mono (fun _ _ (h : _ ∧ _) => (⟨h.1, h.2.symm⟩ : _ ∧ _))
  rw [E1.out] at Q1
  have HQ1 := hide Q1
  have HQ2 := hide Q2
  have HQ3 := hide Q3
  clear Q1 Q2 Q3
  repeat still_step
  still_call (HQ1.out)
  repeat still_step
  still_call (HQ2.out)
  repeat still_step
  still_call (HQ3.out)
  repeat still_step
  refine wpStill_nil ?_
  change wpList _ _ _ _ _ w3.drew
  have HF := hide (HW1.out.trans (HB3.out.mono HW1.out.size)).drew
  go_wp2_with fail
  refine (aw_awake _).mono ?_
  rintro e w4 ⟨rfl, hb4⟩
  have HB4 := hide hb4
  clear hb4
  go_wp2_with fail
  go_ret
  exact ⟨rfl, HF.out.trans (HB4.out.mono HF.out.size)⟩

theorem walk (l : List Int) (hl : l.length = 2) (hw : ∀ a ∈ l, (Lit.int .u8 a).wf = true) (a1 : Int) (a2 : Option Addr) (len2 cap2 : Nat) (z2 : List Int) (w : World) (w1 : (Lit.int .u32 a1).wf = true) (w2 : IsRow .u8 w a2 len2 cap2 z2) :
    Calls Try.prog 5 #[.agg (l.map (Value.int .u8)).toArray, .int .u32 a1, .slice a2 len2 cap2] w fun e w' => e = .returned (.bool true) ∧ Below w.heap.size w w' := by
  match l, hl with
  | [x0, x1], _ =>
    have ⟨h0, h1⟩ := bounds_u8 (hw x0 (by simp))
    have ⟨g0, g1⟩ := bounds_u8 (hw x1 (by simp))
    have ⟨i0, i1⟩ := bounds_u32 w1
    obtain ⟨hr, hl, hc⟩ := rb_of_row w2
    by_cases h : (100 : Int) < (len2 : Int)
    · exact walk_long x0 x1 a1 a2 len2 cap2 w h
    · refine walk_right x0 x1 h0 h1 g0 g1 a1 (x1 % 8 + 1).toNat (a1 % 268435456).toNat (by omega) (by omega) i0 i1 a2 len2 cap2 _ w hr (by omega) hl ?_
      intro hn
      rcases w2 with ⟨_, a, b, _⟩ | ⟨x, e, _⟩
      · exact ⟨a, b⟩
      · rw [hn] at e; cases e
end Go.Proofs.Ytfnkjcdkogipbaa.prefintBack
