/-
  BlockParts: its walk: for all bytes the Go text returns true, and leaves what was there as it was.
-/
import Derived.Test.YtighhdgaaelcdaaBkAwake
import Derived.Test.YtighhdgaaelcdaaRkParts
import Derived.Test.YtighhdgaaelcdaaFrSameR
import Derived.BigGuardPart
namespace Go.Proofs.Ytighhdgaaelcdaa
set_option linter.unusedSimpArgs false
set_option linter.unusedVariables false
open Go.RowKit
theorem rk_Parts (s m : Int) (A : Option Addr) (n cap : Nat) (e : Bool) (xs : List Int) (w : World) (hr : RB w A n xs) :
    Calls Try.prog 14 #[.int .i64 s, .slice A n cap, .bool e, .int .i64 m] w (GivesParts 27 (partsR s m e xs).1 (partsR s m e xs).1.length (partsR s m e xs).2 w) := by
  have hl := hr.1
  unfold partsR
  split
  · rename_i h
    exact rk_Parts_range s m A n cap e h w
  · rename_i h
    have hs' : strB s = true := strB_yes'.2 (by omega)
    split
    · rename_i h2
      exact rk_Parts_long s m A n cap e hs' (by omega) (by omega) (by omega) w
    · rename_i h2
      obtain ⟨k, rfl⟩ : ∃ k : Nat, m = (k : Int) := ⟨m.toNat, by omega⟩
      have := rk_Parts_good s k A n cap e xs hs' (by omega) (by omega) (by omega) w hr
      rw [show ((k : Int)).toNat = k by omega, hl]
      simp only [genC_len]
      exact this
theorem partsR_len (s m : Int) (e : Bool) (xs : List Int) : (partsR s m e xs).1.length ≤ xs.length + 1 := by
  unfold partsR
  split
  · simp
  · split
    · simp
    · rename_i h _
      simp only [genC_len]
      exact chunks_len (by omega) _ (Nat.le_refl _)
theorem same_self (F : Fr) (w : World) : Calls Try.prog 15 #[.agg F.cl.toArray, .agg F.cl.toArray] w fun e w' => e = .returned (.bool true) ∧ Below w.heap.size w w' := by
  have h := rf_Same F F none none 0 0 0 0 [] [] w (PL.none_ w) (PL.none_ w) (by decide) (by decide)
  rw [sameF_refl] at h
  exact h
theorem QL.at_both {w w' : World} {A B : Option Addr} {n c d : Nat} {l : List Fr} (h : QL w A n c l) (h' : QL w' B n d l) {k : Nat} (hk : k < n) : ∃ F a b, A = some ⟨a, 0, none⟩ ∧ B = some ⟨b, 0, none⟩ ∧ RowF w a (k * 12) F ∧ RowF w' b (k * 12) F := by
  obtain ⟨F, a, hF, e1, l1, r1⟩ := h.round hk
  obtain ⟨G, b, hG, e2, l2, r2⟩ := h'.round hk
  rw [hF] at hG
  obtain rfl := Option.some.inj hG
  exact ⟨F, a, b, e1, e2, ⟨l1, r1⟩, ⟨l2, r2⟩⟩
end Go.Proofs.Ytighhdgaaelcdaa
namespace Go.Proofs.Ytighhdgaaelcdaa.blockParts
set_option linter.unusedSimpArgs false
set_option linter.unusedVariables false
open Go.RowKit Go.Proofs.Ytighhdgaaelcdaa

set_option maxRecDepth 100000 in
set_option maxHeartbeats 3200000 in
theorem walk (L : List Int) (hL : L.length = 2) (_wl : ∀ a ∈ L, (Lit.int .i64 a).wf = true) (a : Option Addr) (n cap : Nat) (z : List Int) (en : Bool) (w : World) (h : IsRow .u8 w a n cap z) :
    Calls Try.prog 4 #[.agg (L.map (Value.int .i64)).toArray, .slice a n cap, .bool en] w fun e w' => e = .returned (.bool true) ∧ Below w.heap.size w w' := by
  obtain ⟨hr, hnc, hc63⟩ := rb_of_row h
  have hnil : a = none → cap = 0 := fun e => by
    rcases h with ⟨_, _, h2, _⟩ | ⟨x, h1, _⟩
    · exact h2
    · rw [e] at h1; cases h1
  obtain ⟨xs, hxs⟩ : ∃ xs, xs = z.take n := ⟨_, rfl⟩
  rw [← hxs] at hr
  obtain ⟨s, m, rfl⟩ : ∃ s m, L = [s, m] := by
    match L, hL with
    | [s, m], _ => exact ⟨s, m, rfl⟩
  rw [show ([s, m].map (Value.int .i64)).toArray = #[.int .i64 s, .int .i64 m] from rfl]
  have HAW := hide (fun w => aw_block w)
  have K0 := hide (BlkIs.new w 43 #[.int .i64 s, .int .i64 m])
  have B0 := hide ((Below.refl w.heap.size w).alloc (Nat.le_refl _) (.cells #[.int .i64 s, .int .i64 m] 43))
  have hmw := bounds_i64 (_wl m (by simp))
  clear h hxs _wl hL
  by_cases hB : 5000 < n
  · have hB1 : (5000 : Int) < (n : Int) := by omega
    clear hB hr hnc hc63 hnil K0 hmw
    go_enter Try.func4, Try.ntmps4
    go_wp2_with fail
    refine (HAW.out _).mono ?_
    rintro e w1 ⟨rfl, hb1⟩
    have B1 := hide (B0.out.trans (hb1.mono (by simp)))
    clear hb1
    go_wp2_with fail
    go_ret
    exact ⟨rfl, B1.out⟩
  have hB1 : ¬ (5000 : Int) < (n : Int) := by omega
  by_cases hD : 1 ≤ m ∧ 10 < (n : Int) / m
  · obtain ⟨hm1, hq⟩ := hD
    have ht : Int.tdiv (n : Int) m = (n : Int) / m := Int.tdiv_eq_ediv_of_nonneg (by omega)
    have hqb : (n : Int) / m ≤ n := Int.ediv_le_self _ (by omega)
    have hm0 : ¬ m = 0 := by omega
    generalize (n : Int) / m = D at *
    clear hB hr hnc hc63 hnil K0 hmw
    go_enter Try.func4, Try.ntmps4
    go_wp2_with fail
    refine (HAW.out _).mono ?_
    rintro e w1 ⟨rfl, hb1⟩
    have B1 := hide (B0.out.trans (hb1.mono (by simp)))
    clear hb1
    go_wp2_with fail
    go_ret
    exact ⟨rfl, B1.out⟩
  have HP1 := hide (fun w hr => bk_Parts s m a n cap en xs hnc hnil w hr)
  have HP2 := hide (fun w hr => rk_Parts s m a n cap en xs w hr)
  have hln := partsR_len s m en xs
  rw [hr.1] at hln
  generalize partsR s m en xs = P at *
  obtain ⟨l, c⟩ := P
  simp only at HP1 HP2 hln
  obtain ⟨N, hN⟩ : ∃ N, N = l.length := ⟨_, rfl⟩
  rw [← hN] at HP1 HP2 hln
  have hN5 : (N : Int) ≤ 5001 := by omega
  have HR0 := hide (hr.below ((Below.refl w.heap.size w).alloc (Nat.le_refl _) (.cells #[.int .i64 s, .int .i64 m] 43)))
  have HN5 := hide hN5
  clear hN hln hr hnc hc63 hnil hB hN5
  have key : ∀ Q : Prop, (¬ 1 ≤ m → Q) → (1 ≤ m → ¬ 10 < (n : Int) / m → Q) → Q := by
    intro Q h1 h2
    by_cases hm : 1 ≤ m
    · exact h2 hm (fun h => hD ⟨hm, h⟩)
    · exact h1 hm
  clear hD
  refine key _ ?_ ?_
  · intro hm1
    clear key
    go_enter Try.func4, Try.ntmps4
    go_upto_region 3 with (fail)
    obtain ⟨p, hp⟩ : ∃ g, g = w.heap.size := ⟨_, rfl⟩
    rw [← hp] at K0 ⊢
    generalize w.alloc (.cells #[.int .i64 s, .int .i64 m] 43) = w0 at K0 B0 HR0 ⊢
    clear hp
    have k0 := K0.out.cell 0
    have k1 := K0.out.cell 1
    simp only [List.getElem?_toArray, List.getElem?_cons_zero, List.getElem?_cons_succ] at k0 k1
    go_wp2_with fail
    clear k0 k1
    refine (HP1.out _ HR0.out).mono ?_
    rintro e w1 ⟨v1, rfl, hown1, hb1⟩
    have Kn1 := hide (K0.out.keep hb1)
    have Er1 := hide (HR0.out.below hb1)
    have B1 := hide (B0.out.trans (hb1.mono B0.out.size))
    clear hb1 K0 HR0 B0
    obtain ⟨A1, c1, rfl, hq1⟩ := own_ql hown1
    have Q1 := hide hq1
    clear hown1 hq1 HP1
    go_upto_region 4 with (fail)
    have k0 := Kn1.out.cell 0
    have k1 := Kn1.out.cell 1
    simp only [List.getElem?_toArray, List.getElem?_cons_zero, List.getElem?_cons_succ] at k0 k1
    go_wp2_with fail
    clear k0 k1
    refine (HP2.out _ Er1.out).mono ?_
    rintro e w2 ⟨v2, rfl, hown2, hb2⟩
    have Kn2 := hide (Kn1.out.keep hb2)
    have Er2 := hide (Er1.out.below hb2)
    have Eq12 := hide (Q1.out.keep hb2)
    have B2 := hide (B1.out.trans (hb2.mono B1.out.size))
    clear hb2 Kn1 Er1 Q1 B1
    obtain ⟨A2, c2, rfl, hq2⟩ := own_ql hown2
    have Q2 := hide hq2
    clear hown2 hq2 HP2 Er2
    go_upto_region 7 with (fail)
    go_wp2_with fail
    go_loopw [11] (fun k wr => ∃ i : Nat, i ≤ N ∧ k = .int .i64 (i : Int) ∧ Below w2.heap.size w2 wr) (fun k _ => N - (intOf k).toNat)
    case atStart => exact ⟨0, by omega, rfl, Below.refl _ _⟩
    case round =>
      obtain ⟨i, hi, rfl, hb⟩ := hrel
      have HB := hide hb
      clear hb
      by_cases hlt : i < N
      · have hlt1 : (i : Int) < (N : Int) := by omega
        obtain ⟨F, ga, gb, rfl, rfl, hra, hrb⟩ := (Eq12.out.keep HB.out).at_both (Q2.out.keep HB.out) hlt
        have HA := hide hra
        have HBB := hide hrb
        have HI5 := HN5.out
        clear hra hrb
        have HSS := hide (fun w => same_self F w)
        go_upto_region 10 with (fail)
        refine wp_region_noPanic ?_
        refine wp_region_held_drew (S := fun w' => Below wr.heap.size wr w') (by kernel_rfl) (Below.refl _ _).drew (fun hS => ?_)
        refine wpAnyH_take (i := 0) (v := ?_) (by simp only [List.getElem?_toArray, List.getElem?_cons_zero] <;> exact rfl) (by kernel_rfl) (by kernel_rfl) (by kernel_rfl) (fun _ _ _ h => h) (Or.inl ⟨by rfl, ?_⟩) hS ?_
        rotate_left
        focus (intro w' hw'; go_simp; all_goals with_reducible rfl)
        try simp only [Act.put, List.setIfInBounds_toArray, List.set_cons_zero, List.set_cons_succ]
        refine wpAnyH_take (i := 1) (v := ?_) (by simp only [List.getElem?_toArray, List.getElem?_cons_succ, List.getElem?_cons_zero] <;> exact rfl) (by kernel_rfl) (by kernel_rfl) (by kernel_rfl) (fun _ _ _ h => h) (Or.inl ⟨by rfl, ?_⟩) hS ?_
        rotate_left
        focus (intro w' hw'; go_simp; all_goals with_reducible rfl)
        try simp only [Act.put, List.setIfInBounds_toArray, List.set_cons_zero, List.set_cons_succ]
        refine wpAnyH_take (i := 2) (v := ?_) (by simp only [List.getElem?_toArray, List.getElem?_cons_succ, List.getElem?_cons_zero] <;> exact rfl) (by kernel_rfl) (by kernel_rfl) (by kernel_rfl) (fun _ _ _ h => h) (Or.inl ⟨by rfl, ?_⟩) hS ?_
        rotate_left
        focus (intro w' hw'; go_simp; all_goals with_reducible rfl)
        try simp only [Act.put, List.setIfInBounds_toArray, List.set_cons_zero, List.set_cons_succ]
        refine wpAnyH_take (i := 3) (by simp only [List.getElem?_toArray, List.getElem?_cons_succ, List.getElem?_cons_zero] <;> exact rfl) (by kernel_rfl) (by kernel_rfl) (by kernel_rfl) (fun _ _ _ h => h) (yieldsIf_load_mid (by rfl) 34 (.tmp 67) (by rfl) ga (i * 12) (by rfl) F.cl _ (fun w' hw' => range_keep HA.out.2 HA.out.1 hw') Try.underlying34 rfl bf_size) hS ?_
        try simp only [Act.put, List.setIfInBounds_toArray, List.set_cons_zero, List.set_cons_succ]
        refine wpAnyH_take (i := 4) (v := ?_) (by simp only [List.getElem?_toArray, List.getElem?_cons_succ, List.getElem?_cons_zero] <;> exact rfl) (by kernel_rfl) (by kernel_rfl) (by kernel_rfl) (fun _ _ _ h => h) (Or.inl ⟨by rfl, ?_⟩) hS ?_
        rotate_left
        focus (intro w' hw'; go_simp; all_goals with_reducible rfl)
        try simp only [Act.put, List.setIfInBounds_toArray, List.set_cons_zero, List.set_cons_succ]
        refine wpAnyH_take (i := 5) (v := ?_) (by simp only [List.getElem?_toArray, List.getElem?_cons_succ, List.getElem?_cons_zero] <;> exact rfl) (by kernel_rfl) (by kernel_rfl) (by kernel_rfl) (fun _ _ _ h => h) (Or.inl ⟨by rfl, ?_⟩) hS ?_
        rotate_left
        focus (intro w' hw'; go_simp; all_goals with_reducible rfl)
        try simp only [Act.put, List.setIfInBounds_toArray, List.set_cons_zero, List.set_cons_succ]
        refine wpAnyH_take (i := 6) (v := ?_) (by simp only [List.getElem?_toArray, List.getElem?_cons_succ, List.getElem?_cons_zero] <;> exact rfl) (by kernel_rfl) (by kernel_rfl) (by kernel_rfl) (fun _ _ _ h => h) (Or.inl ⟨by rfl, ?_⟩) hS ?_
        rotate_left
        focus (intro w' hw'; go_simp; all_goals with_reducible rfl)
        try simp only [Act.put, List.setIfInBounds_toArray, List.set_cons_zero, List.set_cons_succ]
        refine wpAnyH_take (i := 7) (by simp only [List.getElem?_toArray, List.getElem?_cons_succ, List.getElem?_cons_zero] <;> exact rfl) (by kernel_rfl) (by kernel_rfl) (by kernel_rfl) (fun _ _ _ h => h) (yieldsIf_load_mid (by rfl) 27 (.tmp 71) (by rfl) gb (i * 12) (by rfl) F.cl _ (fun w' hw' => range_keep HBB.out.2 HBB.out.1 hw') Try.underlying27 rfl rff_size) hS ?_
        try simp only [Act.put, List.setIfInBounds_toArray, List.set_cons_zero, List.set_cons_succ]
        refine wpAnyH_ready (rs := [8]) (by kernel_rfl) (by simp) ?_
        refine AllReadyH.cons (o := _) (by simp only [List.getElem?_toArray, List.getElem?_cons_succ, List.getElem?_cons_zero] <;> exact rfl) (fun K hK => ?_) ?_
        focus (
          go_simp
          go_at_call 15
          refine (HSS.out _).mono ?_
          rintro e wc1 ⟨rfl, hb⟩
          have hS := hS.trans (hb.mono hS.size)
          clear hb
          go_wp2_with fail
          refine hK.out _ _ hS (fun _ => ?_)
          clear hK K
          try simp only [Act.put, List.setIfInBounds_toArray, List.set_cons_zero, List.set_cons_succ])
        rotate_left
        focus (exact AllReadyH.nil)
        refine wpAnyH_take (i := 9) (v := ?_) (by simp only [List.getElem?_toArray, List.getElem?_cons_succ, List.getElem?_cons_zero] <;> exact rfl) (by kernel_rfl) (by kernel_rfl) (by kernel_rfl) (fun _ _ _ h => h) (Or.inl ⟨by rfl, ?_⟩) hS ?_
        rotate_left
        focus (intro w' hw'; go_simp; all_goals with_reducible rfl)
        try simp only [Act.put, List.setIfInBounds_toArray, List.set_cons_zero, List.set_cons_succ]
        refine wpAnyH_done (by kernel_rfl) ?_ _
        refine NoPanic.normal ?_
        have HB2 := hide (HB.out.trans (hS.mono HB.out.size))
        clear hS HA HBB HB HSS
        go_wp2_with fail
        go_roundw
        case rel => exact ⟨i + 1, by omega, by go_num, HB2.out⟩
        case measure => simp [intOf]; omega
      · have hge : ¬ (i : Int) < (N : Int) := by omega
        go_wp2_with fail
        refine (HAW.out _).mono ?_
        rintro e w9 ⟨rfl, hb9⟩
        have B9 := hide ((B2.out.trans (HB.out.mono B2.out.size)).trans (hb9.mono (B2.out.trans (HB.out.mono B2.out.size)).size))
        clear hb9
        go_wp2_with fail
        go_ret
        exact ⟨rfl, B9.out⟩
  · intro hm1 hq
    clear key
    have ht : Int.tdiv (n : Int) m = (n : Int) / m := Int.tdiv_eq_ediv_of_nonneg (by omega)
    have hqb : (n : Int) / m ≤ n := Int.ediv_le_self _ (by omega)
    have hq0 : 0 ≤ (n : Int) / m := Int.ediv_nonneg (by omega) (by omega)
    have hm0 : ¬ m = 0 := by omega
    generalize (n : Int) / m = D at *
    go_enter Try.func4, Try.ntmps4
    go_upto_region 3 with (fail)
    obtain ⟨p, hp⟩ : ∃ g, g = w.heap.size := ⟨_, rfl⟩
    rw [← hp] at K0 ⊢
    generalize w.alloc (.cells #[.int .i64 s, .int .i64 m] 43) = w0 at K0 B0 HR0 ⊢
    clear hp
    have k0 := K0.out.cell 0
    have k1 := K0.out.cell 1
    simp only [List.getElem?_toArray, List.getElem?_cons_zero, List.getElem?_cons_succ] at k0 k1
    go_wp2_with fail
    clear k0 k1
    refine (HP1.out _ HR0.out).mono ?_
    rintro e w1 ⟨v1, rfl, hown1, hb1⟩
    have Kn1 := hide (K0.out.keep hb1)
    have Er1 := hide (HR0.out.below hb1)
    have B1 := hide (B0.out.trans (hb1.mono B0.out.size))
    clear hb1 K0 HR0 B0
    obtain ⟨A1, c1, rfl, hq1⟩ := own_ql hown1
    have Q1 := hide hq1
    clear hown1 hq1 HP1
    go_upto_region 4 with (fail)
    have k0 := Kn1.out.cell 0
    have k1 := Kn1.out.cell 1
    simp only [List.getElem?_toArray, List.getElem?_cons_zero, List.getElem?_cons_succ] at k0 k1
    go_wp2_with fail
    clear k0 k1
    refine (HP2.out _ Er1.out).mono ?_
    rintro e w2 ⟨v2, rfl, hown2, hb2⟩
    have Kn2 := hide (Kn1.out.keep hb2)
    have Er2 := hide (Er1.out.below hb2)
    have Eq12 := hide (Q1.out.keep hb2)
    have B2 := hide (B1.out.trans (hb2.mono B1.out.size))
    clear hb2 Kn1 Er1 Q1 B1
    obtain ⟨A2, c2, rfl, hq2⟩ := own_ql hown2
    have Q2 := hide hq2
    clear hown2 hq2 HP2 Er2
    go_upto_region 7 with (fail)
    go_wp2_with fail
    go_loopw [11] (fun k wr => ∃ i : Nat, i ≤ N ∧ k = .int .i64 (i : Int) ∧ Below w2.heap.size w2 wr) (fun k _ => N - (intOf k).toNat)
    case atStart => exact ⟨0, by omega, rfl, Below.refl _ _⟩
    case round =>
      obtain ⟨i, hi, rfl, hb⟩ := hrel
      have HB := hide hb
      clear hb
      by_cases hlt : i < N
      · have hlt1 : (i : Int) < (N : Int) := by omega
        obtain ⟨F, ga, gb, rfl, rfl, hra, hrb⟩ := (Eq12.out.keep HB.out).at_both (Q2.out.keep HB.out) hlt
        have HA := hide hra
        have HBB := hide hrb
        have HI5 := HN5.out
        clear hra hrb
        have HSS := hide (fun w => same_self F w)
        go_upto_region 10 with (fail)
        refine wp_region_noPanic ?_
        refine wp_region_held_drew (S := fun w' => Below wr.heap.size wr w') (by kernel_rfl) (Below.refl _ _).drew (fun hS => ?_)
        refine wpAnyH_take (i := 0) (v := ?_) (by simp only [List.getElem?_toArray, List.getElem?_cons_zero] <;> exact rfl) (by kernel_rfl) (by kernel_rfl) (by kernel_rfl) (fun _ _ _ h => h) (Or.inl ⟨by rfl, ?_⟩) hS ?_
        rotate_left
        focus (intro w' hw'; go_simp; all_goals with_reducible rfl)
        try simp only [Act.put, List.setIfInBounds_toArray, List.set_cons_zero, List.set_cons_succ]
        refine wpAnyH_take (i := 1) (v := ?_) (by simp only [List.getElem?_toArray, List.getElem?_cons_succ, List.getElem?_cons_zero] <;> exact rfl) (by kernel_rfl) (by kernel_rfl) (by kernel_rfl) (fun _ _ _ h => h) (Or.inl ⟨by rfl, ?_⟩) hS ?_
        rotate_left
        focus (intro w' hw'; go_simp; all_goals with_reducible rfl)
        try simp only [Act.put, List.setIfInBounds_toArray, List.set_cons_zero, List.set_cons_succ]
        refine wpAnyH_take (i := 2) (v := ?_) (by simp only [List.getElem?_toArray, List.getElem?_cons_succ, List.getElem?_cons_zero] <;> exact rfl) (by kernel_rfl) (by kernel_rfl) (by kernel_rfl) (fun _ _ _ h => h) (Or.inl ⟨by rfl, ?_⟩) hS ?_
        rotate_left
        focus (intro w' hw'; go_simp; all_goals with_reducible rfl)
        try simp only [Act.put, List.setIfInBounds_toArray, List.set_cons_zero, List.set_cons_succ]
        refine wpAnyH_take (i := 3) (by simp only [List.getElem?_toArray, List.getElem?_cons_succ, List.getElem?_cons_zero] <;> exact rfl) (by kernel_rfl) (by kernel_rfl) (by kernel_rfl) (fun _ _ _ h => h) (yieldsIf_load_mid (by rfl) 34 (.tmp 67) (by rfl) ga (i * 12) (by rfl) F.cl _ (fun w' hw' => range_keep HA.out.2 HA.out.1 hw') Try.underlying34 rfl bf_size) hS ?_
        try simp only [Act.put, List.setIfInBounds_toArray, List.set_cons_zero, List.set_cons_succ]
        refine wpAnyH_take (i := 4) (v := ?_) (by simp only [List.getElem?_toArray, List.getElem?_cons_succ, List.getElem?_cons_zero] <;> exact rfl) (by kernel_rfl) (by kernel_rfl) (by kernel_rfl) (fun _ _ _ h => h) (Or.inl ⟨by rfl, ?_⟩) hS ?_
        rotate_left
        focus (intro w' hw'; go_simp; all_goals with_reducible rfl)
        try simp only [Act.put, List.setIfInBounds_toArray, List.set_cons_zero, List.set_cons_succ]
        refine wpAnyH_take (i := 5) (v := ?_) (by simp only [List.getElem?_toArray, List.getElem?_cons_succ, List.getElem?_cons_zero] <;> exact rfl) (by kernel_rfl) (by kernel_rfl) (by kernel_rfl) (fun _ _ _ h => h) (Or.inl ⟨by rfl, ?_⟩) hS ?_
        rotate_left
        focus (intro w' hw'; go_simp; all_goals with_reducible rfl)
        try simp only [Act.put, List.setIfInBounds_toArray, List.set_cons_zero, List.set_cons_succ]
        refine wpAnyH_take (i := 6) (v := ?_) (by simp only [List.getElem?_toArray, List.getElem?_cons_succ, List.getElem?_cons_zero] <;> exact rfl) (by kernel_rfl) (by kernel_rfl) (by kernel_rfl) (fun _ _ _ h => h) (Or.inl ⟨by rfl, ?_⟩) hS ?_
        rotate_left
        focus (intro w' hw'; go_simp; all_goals with_reducible rfl)
        try simp only [Act.put, List.setIfInBounds_toArray, List.set_cons_zero, List.set_cons_succ]
        refine wpAnyH_take (i := 7) (by simp only [List.getElem?_toArray, List.getElem?_cons_succ, List.getElem?_cons_zero] <;> exact rfl) (by kernel_rfl) (by kernel_rfl) (by kernel_rfl) (fun _ _ _ h => h) (yieldsIf_load_mid (by rfl) 27 (.tmp 71) (by rfl) gb (i * 12) (by rfl) F.cl _ (fun w' hw' => range_keep HBB.out.2 HBB.out.1 hw') Try.underlying27 rfl rff_size) hS ?_
        try simp only [Act.put, List.setIfInBounds_toArray, List.set_cons_zero, List.set_cons_succ]
        refine wpAnyH_ready (rs := [8]) (by kernel_rfl) (by simp) ?_
        refine AllReadyH.cons (o := _) (by simp only [List.getElem?_toArray, List.getElem?_cons_succ, List.getElem?_cons_zero] <;> exact rfl) (fun K hK => ?_) ?_
        focus (
          go_simp
          go_at_call 15
          refine (HSS.out _).mono ?_
          rintro e wc1 ⟨rfl, hb⟩
          have hS := hS.trans (hb.mono hS.size)
          clear hb
          go_wp2_with fail
          refine hK.out _ _ hS (fun _ => ?_)
          clear hK K
          try simp only [Act.put, List.setIfInBounds_toArray, List.set_cons_zero, List.set_cons_succ])
        rotate_left
        focus (exact AllReadyH.nil)
        refine wpAnyH_take (i := 9) (v := ?_) (by simp only [List.getElem?_toArray, List.getElem?_cons_succ, List.getElem?_cons_zero] <;> exact rfl) (by kernel_rfl) (by kernel_rfl) (by kernel_rfl) (fun _ _ _ h => h) (Or.inl ⟨by rfl, ?_⟩) hS ?_
        rotate_left
        focus (intro w' hw'; go_simp; all_goals with_reducible rfl)
        try simp only [Act.put, List.setIfInBounds_toArray, List.set_cons_zero, List.set_cons_succ]
        refine wpAnyH_done (by kernel_rfl) ?_ _
        refine NoPanic.normal ?_
        have HB2 := hide (HB.out.trans (hS.mono HB.out.size))
        clear hS HA HBB HB HSS
        go_wp2_with fail
        go_roundw
        case rel => exact ⟨i + 1, by omega, by go_num, HB2.out⟩
        case measure => simp [intOf]; omega
      · have hge : ¬ (i : Int) < (N : Int) := by omega
        go_wp2_with fail
        refine (HAW.out _).mono ?_
        rintro e w9 ⟨rfl, hb9⟩
        have B9 := hide ((B2.out.trans (HB.out.mono B2.out.size)).trans (hb9.mono (B2.out.trans (HB.out.mono B2.out.size)).size))
        clear hb9
        go_wp2_with fail
        go_ret
        exact ⟨rfl, B9.out⟩
end Go.Proofs.Ytighhdgaaelcdaa.blockParts
