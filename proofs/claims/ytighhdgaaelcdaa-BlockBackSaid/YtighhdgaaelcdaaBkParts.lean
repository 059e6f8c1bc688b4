/-
  Layer 11: Parts (the program's).
-/
import Derived.Test.YtighhdgaaelcdaaBkCut
import Derived.Test.YtighhdgaaelcdaaBkSmall
import Derived.BigGuardPart
namespace Go.Proofs.Ytighhdgaaelcdaa
set_option linter.unusedSimpArgs false
set_option linter.unusedVariables false
open Go.RowKit

/-- What Parts leaves. -/
def GivesParts (t : TypeId) (L : List Fr) (N : Nat) (c : Int) (w : World) (e : Ending) (w' : World) : Prop :=
  ∃ v, e = .returned (.tuple #[v, .int .i64 c]) ∧ w'.ownsRow w.heap.size t 12 v N (fcsL L) ∧ Below w.heap.size w w'
theorem gives_none (t : TypeId) (c : Int) (w w' : World) (hb : Below w.heap.size w w') : GivesParts t [] 0 c w (.returned (.tuple #[.slice none 0 0, .int .i64 c])) w' :=
  ⟨_, rfl, World.ownsRow_nil _ _ _ _, hb⟩
theorem new_cells (w : World) (t : TypeId) (l : List Value) : ∀ j u, l[j]? = some u → (w.alloc (.cells l.toArray t)).cell? ((⟨w.heap.size, 0, none⟩ : Addr).add j) = some u := by
  intro j u h
  rw [Addr.add_mid, Nat.zero_add, (BlkIs.new w t l.toArray).cell j]
  simpa using h
/-- The last frame of what is built, and what it becomes. -/
theorem built_last (s f : Int) (p : List Int) (ps : List (List Int)) (M : Nat) (hM : ps.length = M) (hf : f = 0 ∨ f = 1) :
    ∃ (F : Fr) (fl : Int), (mkF s 1 f p :: ps.map (mkF s 9 0))[M]? = some F ∧ F.fl = fl ∧ (fl = 0 ∨ fl = 1) ∧ (mkF s 1 f p :: ps.map (mkF s 9 0)).set M { F with fl := fl + 4 } = genC s 1 f (p :: ps) := by
  cases ps with
  | nil =>
    subst hM
    exact ⟨mkF s 1 f p, f, rfl, rfl, hf, rfl⟩
  | cons q l =>
    subst hM
    have hx : ((q :: l).map (mkF s 9 0))[l.length]? = some (mkF s 9 0 ((q :: l)[l.length]'(by simp))) := by
      rw [List.getElem?_map, List.getElem?_eq_getElem (by simp)]; rfl
    refine ⟨mkF s 9 0 ((q :: l)[l.length]'(by simp)), 0, by rw [List.length_cons, List.getElem?_cons_succ]; exact hx, rfl, .inl rfl, ?_⟩
    rw [← built_more s p (q :: l) (by simp) f]
    unfold endF
    have hy : (mkF s 1 f p :: (q :: l).map (mkF s 9 0)).length - 1 = (q :: l).length := by simp
    rw [hy, List.getD, List.length_cons, List.getElem?_cons_succ, hx]
    rfl
theorem take_map_succ {s : Int} {R : List (List Int)} {i : Nat} {p : List Int} (h : R[i]? = some p) : (R.take (i + 1)).map (mkF s 9 0) = (R.take i).map (mkF s 9 0) ++ [mkF s 9 0 p] := by
  rw [List.take_add_one, h]; simp

set_option maxHeartbeats 800000 in
theorem bk_Parts_stream (s m : Int) (A : Option Addr) (n cap : Nat) (e : Bool) (hs : strB s = false) (w : World) :
    Calls Try.prog 13 #[.int .i64 s, .slice A n cap, .bool e, .int .i64 m] w (GivesParts 34 [] 0 8 w) := by
  have HI := hide (fun w => bk_isStream s w)
  rw [hs] at HI
  clear hs
  go_enter Try.func13, Try.ntmps13
  go_wp2_with fail
  refine (HI.out _).mono ?_
  rintro r w1 ⟨rfl, rfl⟩
  go_wp2_with fail
  go_ret2
  exact gives_none _ _ _ _ (Below.refl _ _)
set_option maxHeartbeats 800000 in
theorem bk_Parts_most (s m : Int) (A : Option Addr) (n cap : Nat) (e : Bool) (hs : strB s = true) (hm : m < 1 ∨ 16384 < m) (w : World) :
    Calls Try.prog 13 #[.int .i64 s, .slice A n cap, .bool e, .int .i64 m] w (GivesParts 34 [] 0 8 w) := by
  have HI := hide (fun w => bk_isStream s w)
  rw [hs] at HI
  clear hs
  have key : ∀ P : Prop, (m < 1 → P) → (¬ m < 1 → 16384 < m → P) → P := by
    intro P h1 h2
    by_cases h : m < 1
    · exact h1 h
    · exact h2 h (by omega)
  clear hm
  refine key _ ?_ ?_
  · intro h1
    clear key
    go_enter Try.func13, Try.ntmps13
    go_wp2_with fail
    refine (HI.out _).mono ?_
    rintro r w1 ⟨rfl, rfl⟩
    go_wp2_with fail
    go_ret2
    exact gives_none _ _ _ _ (Below.refl _ _)
  · intro h1 h2
    clear key
    go_enter Try.func13, Try.ntmps13
    go_wp2_with fail
    refine (HI.out _).mono ?_
    rintro r w1 ⟨rfl, rfl⟩
    go_wp2_with fail
    go_ret2
    exact gives_none _ _ _ _ (Below.refl _ _)
set_option maxHeartbeats 800000 in
theorem bk_Parts_long (s m : Int) (A : Option Addr) (n cap : Nat) (e : Bool) (hs : strB s = true) (h1 : 1 ≤ m) (h2 : m ≤ 16384) (hl : 4096 < n) (w : World) :
    Calls Try.prog 13 #[.int .i64 s, .slice A n cap, .bool e, .int .i64 m] w (GivesParts 34 [] 0 5 w) := by
  have HI := hide (fun w => bk_isStream s w)
  rw [hs] at HI
  have h1' : ¬ m < 1 := by omega
  have h2' : ¬ 16384 < m := by omega
  have hl' : (4096 : Int) < (n : Int) := by omega
  clear hs h1 h2 hl
  go_enter Try.func13, Try.ntmps13
  go_wp2_with fail
  refine (HI.out _).mono ?_
  rintro r w1 ⟨rfl, rfl⟩
  go_wp2_with fail
  go_ret2
  exact gives_none _ _ _ _ (Below.refl _ _)

set_option maxRecDepth 100000 in
set_option maxHeartbeats 3200000 in
theorem bk_Parts_good (s : Int) (m : Nat) (A : Option Addr) (n cap : Nat) (e : Bool) (xs : List Int) (hs : strB s = true) (h1 : 1 ≤ m) (h2 : m ≤ 16384) (hl : n ≤ 4096) (hnc : n ≤ cap) (hnil : A = none → cap = 0) (w : World) (hr : RB w A n xs) :
    Calls Try.prog 13 #[.int .i64 s, .slice A n cap, .bool e, .int .i64 (m : Int)] w (GivesParts 34 (genC s 1 (if e then 1 else 0) (chunks m n xs)) (chunks m n xs).length 0 w) := by
  obtain ⟨i0, hi0, hz0, hz1, hz2⟩ := info_parts fw_info
  obtain ⟨f, hf⟩ : ∃ f : Int, f = if e then 1 else 0 := ⟨_, rfl⟩
  rw [← hf]
  have HFE := hide (show (e = true → f = 1) ∧ (e = false → f = 0) from ⟨fun h => by rw [hf, h]; rfl, fun h => by rw [hf, h]; rfl⟩)
  clear hf
  have HI := hide (fun w => bk_isStream s w)
  rw [hs] at HI
  have HC := hide (bk_cut A n cap m xs hnc hnil (by omega) h1 (by omega) w hr)
  have hlen := chunks_len h1 n (xs := xs) (by rw [hr.1]; exact Nat.le_refl _)
  rw [hr.1] at hlen
  have hne := chunks_ne m n xs
  obtain ⟨R, hR⟩ : ∃ R, R = chunks m n xs := ⟨_, rfl⟩
  rw [← hR] at HC hlen hne ⊢
  obtain ⟨p, ps, rfl⟩ : ∃ p ps, R = p :: ps := by cases R with | nil => exact absurd rfl hne | cons p ps => exact ⟨p, ps, rfl⟩
  obtain ⟨M, hM⟩ : ∃ M, ps.length = M := ⟨_, rfl⟩
  have hM5 : (M : Int) ≤ 5000 := by rw [List.length_cons] at hlen; omega
  have HM := hide hM
  have HLP := hide (show (p :: ps).length = M + 1 by rw [List.length_cons, hM])
  rw [HLP.out]
  have h1' : ¬ (m : Int) < 1 := by omega
  have h2' : ¬ 16384 < (m : Int) := by omega
  have hl' : ¬ (4096 : Int) < (n : Int) := by omega
  clear hs h1 h2 hl hnc hnil hr hlen hne hR hM
  go_enter Try.func13, Try.ntmps13
  go_wp2_with fail
  refine (HI.out _).mono ?_
  rintro r w1 ⟨rfl, rfl⟩
  go_wp2_with fail
  refine HC.out.mono ?_
  rintro r w2 ⟨v, vs, rfl, hown, hpc, hb⟩
  rw [HLP.out] at hown
  obtain ⟨gv, cv, rfl, hgB, hgv⟩ := own_some hown (by omega)
  have HV := hide hown
  have HPC := hide hpc
  have HB2 := hide hb
  have HGV := hide (And.intro hgB hgv)
  clear hown hpc hb hgB hgv HI HC h1' h2' hl'
  go_wp2_with fail
  go_loopw [10, 31] (fun l k wr => ∃ i : Nat, i ≤ M + 1 ∧ k = .int .i64 (i : Int) ∧ wr.ownsRow w2.heap.size 34 12 l i (fcsL (((p :: ps).take i).map (mkF s 9 0))) ∧ Below w2.heap.size w2 wr) (fun _ k _ => M + 1 - (intOf k).toNat)
  case atStart => exact ⟨0, by omega, rfl, World.ownsRow_nil _ _ _ _, Below.refl _ _⟩
  case round =>
    obtain ⟨i, hi, rfl, hown, hb⟩ := hrel
    have HOWN := hide hown
    have HB := hide hb
    clear hown hb
    by_cases hlt : i < M + 1
    · have hlt' : (i : Int) < (M : Int) + 1 := by omega
      obtain ⟨q, hq⟩ : ∃ q, (p :: ps)[i]? = some q := ⟨(p :: ps)[i]'(by rw [HLP.out]; exact hlt), List.getElem?_eq_getElem _⟩
      obtain ⟨Q, cq, hvs, hqr⟩ := HPC.out.2 i q hq
      have hcell : wr.cell? ⟨gv, i, none⟩ = some (.slice Q q.length cq) := by
        have hc := (own_keep HV.out HB.out).cells (g := gv) rfl
        simp only [Addr.add_lit, Nat.zero_add] at hc
        exact hc i _ hvs
      have hqr2 := (hqr.below (HB2.out.mono (Nat.le_refl _))).below HB.out
      have hstr := rb_string cq hqr2
      have HQ := hide (take_map_succ (s := s) hq)
      have HI5 := hide hM5
      clear hvs hqr hqr2 hq
      go_wp2_with (at_builtin; refine wpList_append_own _ rfl (.tmp 35) (.tmp 40) 45 rfl w2.heap.size 34 i0 (.agg (Fr.zero.cs none 0 0)) 12 96 Try.underlying45 hi0 hz0 hz1 hz2 rfl (by decide) u10 i (fcsL (((p :: ps).take i).map (mkF s 9 0))) rfl (HOWN.out.alloc _) ⟨wr.heap.size, 0, none⟩ 1 1 (mkF s 9 0 q).cl rfl rfl (new_cells _ _ _) (Fr.cl_one _) (by have := HI5.out; unfold maxLen; omega) (by have := HI5.out; omega) (by rw [World.size_alloc]; have := HB.out.size; omega) ?_; intro v3 w3 hown3 hg3 _; have HO3 := hide hown3; have HB3 := hide (own_below (HOWN.out.alloc _) (HB.out.alloc HB.out.size _) (Nat.le_refl _) hg3); clear hown3 hg3)
      go_roundw
      case rel => exact ⟨i + 1, by omega, by go_num, by rw [HQ.out, fcsL_append]; simpa [fcsL] using HO3.out, HB3.out⟩
      case measure => simp [intOf]; omega
    · have hge : ¬ (i : Int) < (M : Int) + 1 := by omega
      obtain rfl : i = M + 1 := by omega
      have hfull : (p :: ps).take (M + 1) = p :: ps := List.take_of_length_le (by rw [HLP.out]; exact Nat.le_refl _)
      have hown := HOWN.out
      rw [hfull, List.map_cons] at hown
      obtain ⟨g, c, rfl, hgB, hglt⟩ := own_some hown (by omega)
      have H0 := hide hown
      have HG := hide (And.intro hgB hglt)
      have cz := own_cell12 hown 0 (mkF s 9 0 p) rfl 0 (.int .u8 9) rfl
      have cf := own_frozen12 hown 0
      have hB0 := HB2.out.trans (HB.out.mono HB2.out.size)
      have HB0 := hide hB0
      have HGB := hide (Nat.le_trans HB2.out.size hgB)
      clear hown hfull hgB hglt hB0 HOWN HB hi hge HGV
      simp only [Nat.zero_mul, Nat.zero_add] at cz
      go_upto_region 12 with (fail)
      have O1 := hide (own_set12 H0.out 0 (mkF s 9 0 p) (mkF s 1 0 p) rfl 0 (by decide) (.int .u8 1) rfl)
      have B1 := hide (HB0.out.setCell (p := ⟨g, 0, none⟩) HGB.out (.int .u8 1))
      clear cz cf H0 HB0
      simp only [Nat.zero_mul, Nat.zero_add, List.set_cons_zero] at O1
      generalize wr.setCell ⟨g, 0, none⟩ (.int .u8 1) = wx at O1 B1 ⊢
      cases e with
      | true =>
        have hf1 := HFE.out.1 rfl
        subst hf1
        clear HFE
        have cz := own_cell12 O1.out 0 (mkF s 1 0 p) rfl 1 (.int .u8 0) rfl
        have cf := own_frozen12 O1.out 1
        simp only [Nat.zero_mul, Nat.zero_add] at cz
        go_upto_region 14 with (fail)
        rw [show bits BinOp.or IntKind.u8 0 1 = 1 by decide +kernel]
        have O2 := hide (own_set12 O1.out 0 (mkF s 1 0 p) (mkF s 1 1 p) rfl 1 (by decide) (.int .u8 1) rfl)
        have B2 := hide (B1.out.setCell (p := ⟨g, 1, none⟩) HGB.out (.int .u8 1))
        clear cz cf O1 B1
        simp only [Nat.zero_mul, Nat.zero_add, List.set_cons_zero] at O2
        generalize wx.setCell ⟨g, 1, none⟩ (.int .u8 1) = wy at O2 B2 ⊢
        obtain ⟨F, fl, hF, hfl, h01, hset⟩ := built_last s 1 p ps M HM.out (by decide)
        have H2 := hide O2.out
        have HF := hide (And.intro hF hset)
        have HFL := hide hfl
        have cz := own_cell12 H2.out M F hF 1 (.int .u8 fl) (by rw [← hfl]; rfl)
        have cf := own_frozen12 H2.out (M * 12 + 1)
        have HB2x := hide B2.out
        clear hF hfl hset O2 B2
        rcases h01 with rfl | rfl
        · go_wp2_with fail
          go_ret2
          rw [show bits BinOp.or IntKind.u8 0 4 = 0 + 4 by decide +kernel]
          refine ⟨.slice (some ⟨g, 0, none⟩) (M + 1) c, rfl, ?_, HB2x.out.setCell (p := ⟨g, M * 12 + 1, none⟩) HGB.out _⟩
          rw [← HF.out.2]
          exact own_base (own_set12 H2.out M F { F with fl := 0 + 4 } HF.out.1 1 (by decide) (.int .u8 (0 + 4)) rfl) HB2.out.size
        · go_wp2_with fail
          go_ret2
          rw [show bits BinOp.or IntKind.u8 1 4 = 1 + 4 by decide +kernel]
          refine ⟨.slice (some ⟨g, 0, none⟩) (M + 1) c, rfl, ?_, HB2x.out.setCell (p := ⟨g, M * 12 + 1, none⟩) HGB.out _⟩
          rw [← HF.out.2]
          exact own_base (own_set12 H2.out M F { F with fl := 1 + 4 } HF.out.1 1 (by decide) (.int .u8 (1 + 4)) rfl) HB2.out.size
      | false =>
        have hf1 := HFE.out.2 rfl
        subst hf1
        clear HFE
        go_upto_region 14 with (fail)
        obtain ⟨F, fl, hF, hfl, h01, hset⟩ := built_last s 0 p ps M HM.out (by decide)
        have H2 := hide O1.out
        have HF := hide (And.intro hF hset)
        have HFL := hide hfl
        have cz := own_cell12 H2.out M F hF 1 (.int .u8 fl) (by rw [← hfl]; rfl)
        have cf := own_frozen12 H2.out (M * 12 + 1)
        have HB2x := hide B1.out
        clear hF hfl hset O1 B1
        rcases h01 with rfl | rfl
        · go_wp2_with fail
          go_ret2
          rw [show bits BinOp.or IntKind.u8 0 4 = 0 + 4 by decide +kernel]
          refine ⟨.slice (some ⟨g, 0, none⟩) (M + 1) c, rfl, ?_, HB2x.out.setCell (p := ⟨g, M * 12 + 1, none⟩) HGB.out _⟩
          rw [← HF.out.2]
          exact own_base (own_set12 H2.out M F { F with fl := 0 + 4 } HF.out.1 1 (by decide) (.int .u8 (0 + 4)) rfl) HB2.out.size
        · go_wp2_with fail
          go_ret2
          rw [show bits BinOp.or IntKind.u8 1 4 = 1 + 4 by decide +kernel]
          refine ⟨.slice (some ⟨g, 0, none⟩) (M + 1) c, rfl, ?_, HB2x.out.setCell (p := ⟨g, M * 12 + 1, none⟩) HGB.out _⟩
          rw [← HF.out.2]
          exact own_base (own_set12 H2.out M F { F with fl := 1 + 4 } HF.out.1 1 (by decide) (.int .u8 (1 + 4)) rfl) HB2.out.size
end Go.Proofs.Ytighhdgaaelcdaa
