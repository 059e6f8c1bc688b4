/-
  Layer 17: the document's Read (written by gen17rread.py).
-/
import Derived.Test.YtlbhnbloanamfaaDoorRgMath
import Derived.Test.YtlbhnbloanamfaaDoorRgSmall
import Derived.Test.YtlbhnbloanamfaaDoorRqMethod
import Derived.Test.YtlbhnbloanamfaaDoorRqRank2
import Derived.Test.YtlbhnbloanamfaaDoorFdSlice
import Derived.Deep.CutRange
import Derived.Deep.QuietTactic
import Derived.BigQuiet
import Derived.BigGuardPart
namespace Go.Proofs.YtlbhnbloanamfaaDoor
set_option linter.unusedSimpArgs false
set_option linter.unusedVariables false
open Go.RowKit

/-- What stands all through Read. -/
structure DdS (w0 : World) (l : List Fd) (R : Nat) (A : Option Addr) (n c : Nat) (B : Option Addr) (m d : Nat) (w : World) : Prop where
  f : FL w A n c (hdL l)
  g : FL w B m d (tlL l)
  r : BlkIs w R 29 #[.string ⟨#[]⟩, .string ⟨#[]⟩, .string ⟨#[]⟩, .string ⟨#[]⟩, .int .i64 0, .int .i64 0]
  b : Below w0.heap.size w0 w
  lo : w0.heap.size ≤ R
theorem DdS.keep {w0 w w' : World} {l : List Fd} {R : Nat} {A : Option Addr} {n c : Nat} {B : Option Addr} {m d : Nat} (h : DdS w0 l R A n c B m d w) (hb : Below w.heap.size w w') : DdS w0 l R A n c B m d w' :=
  ⟨h.f.keep hb, h.g.keep hb, h.r.keep hb, h.b.trans (hb.mono h.b.size), h.lo⟩
theorem rgq_size : (Tryd.prog.info? 29).map (·.size) = some 6 := by kernel_rfl
def rgq0 : Array Value := #[.string ⟨#[]⟩, .string ⟨#[]⟩, .string ⟨#[]⟩, .string ⟨#[]⟩, .int .i64 0, .int .i64 0]
theorem rgq0_one : rgq0.all (·.oneCell') = true := by simp [rgq0, Value.oneCell']

set_option maxRecDepth 100000 in
set_option maxHeartbeats 6400000 in
theorem rg_Read (A : Option Addr) (n c : Nat) (l : List Fd) (en : Bool) (w : World) (hfl : FL w A n c l) (hm : Mod l) :
    Calls Tryd.prog 11 #[.slice A n c, .bool en] w fun e w' => e = .returned (ansV (readR l en)) ∧ Below w.heap.size w w' := by
  have HFL := hide (hfl.alloc (.cells noRq.cs 29))
  have HM := hide hm
  have HR := hide (BlkIs.new w 29 noRq.cs)
  have HB := hide (bel1 w (.cells noRq.cs 29))
  have hK : (hdL l).length ≤ n := by rw [← hfl.len]; exact (List.takeWhile_sublist psF).length_le
  have hn : (n : Int) ≤ 1000 := by have := hm.1; have := hfl.len; omega
  obtain ⟨V, hV⟩ : ∃ V, V = ansV (readR l en) := ⟨_, rfl⟩
  rw [← hV]
  have HV := hide hV
  clear hfl hm hV
  simp only [Rq.cs, noRq, bNil] at HFL HR HB
  go_enter Tryd.func11, Tryd.ntmps11
  go_wp2_with fail
  obtain ⟨R, hR⟩ : ∃ R, R = w.heap.size := ⟨_, rfl⟩
  rw [← hR] at HR ⊢
  have HRR := hide (show w.heap.size ≤ R by omega)
  clear hR
  refine (rg_front A n c l _ HFL.out HM.out).mono ?_
  rintro e w1 ⟨rfl, hb1⟩
  have HFL1 := hide (HFL.out.keep hb1)
  have HB1 := hide (HB.out.trans (hb1.mono HB.out.size))
  have HR1 := hide (HR.out.keep hb1)
  clear hb1 HB HR HFL
  obtain ⟨K, hKK⟩ : ∃ K, K = (hdL l).length := ⟨_, rfl⟩
  rw [← hKK] at hK ⊢
  have HH := hide (show l.take K = hdL l by rw [hKK]; exact tw_take.symm)
  have HTL := hide (show l.drop K = tlL l by rw [hKK]; exact dw_drop.symm)
  have HKL := hide hKK
  clear hKK
  have hs1 := (fl_head HFL1.out K hK).1
  obtain ⟨B, d, hs2, hg⟩ := fl_tail HFL1.out K hK
  have hf := (fl_head HFL1.out K hK).2
  rw [HH.out] at hf
  rw [HTL.out] at hg
  have HS1 := hide (show DdS w l R A K c B (n - K) d w1 from ⟨hf, hg, HR1.out, HB1.out, HRR.out⟩)
  clear hf hg HR1 HB1 HFL1
  go_upto_region 2 with (fail)
  go_quiet (fail)
  clear hs1 hs2
  generalize n - K = m at HS1 ⊢
  have HS2 := hide (HS1.out.keep (below_drewN (Below.refl w1.heap.size w1) nq))
  generalize w1.drewN nq = w2 at HS2 ⊢
  clear HS1
  go_wp2_with fail
  refine (rg_one A K c _ nM _ HS2.out.f HM.out.hd).mono ?_
  rintro e w3 ⟨rfl, hb3⟩
  have HS3 := hide (HS2.out.keep hb3)
  clear hb3 HS2
  go_wp2_with fail
  refine (rg_one A K c _ nS _ HS3.out.f HM.out.hd).mono ?_
  rintro e w4 ⟨rfl, hb4⟩
  have HS4 := hide (HS3.out.keep hb4)
  clear hb4 HS3
  go_wp2_with fail
  refine (rg_one A K c _ nP _ HS4.out.f HM.out.hd).mono ?_
  rintro e w5 ⟨rfl, hb5⟩
  have HS5 := hide (HS4.out.keep hb5)
  clear hb5 HS4
  go_wp2_with fail
  refine (rg_Values A K c _ nA _ HS5.out.f (by omega)).mono ?_
  rintro e w6 ⟨r6, rfl, hown6, hb6⟩
  have HB6 := hide hb6
  clear hb6
  obtain ⟨hs, hhs⟩ : ∃ hs, hs = vals nA (hdL l) := ⟨_, rfl⟩
  rw [← hhs] at hown6
  have HHS := hide hhs
  have hhl : (hs.length : Int) ≤ 1000 := by
    have h1 := vals_le nA (hdL l)
    rw [← hhs, ← HKL.out] at h1
    omega
  have HHM := hide (fun v (hv : v ∈ hs) => HM.out.hd.val (by rw [← hhs]; exact hv))
  clear hhs
  obtain ⟨h, hh⟩ : ∃ h, h = hs.length := ⟨_, rfl⟩
  rw [← hh] at hown6 hhl
  have HHL := hide hh
  clear hh
  obtain ⟨HA, hc, rfl, htx6⟩ := own_texts hown6
  have HO6 := hide hown6
  clear hown6 htx6
  go_wp2_with fail
  obtain ⟨sz, is, hE, hlen, hz0, hz1⟩ := len_d (tlL l)
  have HC7 := hide (rg_length B m d _ _ (HS5.out.keep HB6.out).g HM.out.tl)
  rw [hE] at HC7
  have HAN := hide (HV.out.trans (ans_doc (e := en) hlen))
  clear hE hlen HV
  refine HC7.out.mono ?_
  rintro e w7 ⟨rfl, hb7⟩
  have HB7 := hide (HB6.out.trans (hb7.mono HB6.out.size))
  have HO7 := hide (own_lowF HO6.out hb7)
  clear hb7 HC7 HB6 HO6
  unfold okD1 okD2 pathD at HAN
  rw [← HHS.out, ← HKL.out, ← HHL.out] at HAN
  -- the parts by names
  have hqM : ((oneT nM (hdL l)).size : Int) ≤ 100000 := by
    unfold oneT
    split
    · exact HM.out.hd.fst nM
    · decide
  have HMET := hide (fun w => rg_method (oneT nM (hdL l)) (by omega) w)
  have HMQ := hide (fun (q : okD1 (hdL l) (tlL l) is = true) => okD1_one q)
  unfold okD1 at HMQ
  rw [← HHS.out, ← HKL.out, ← HHL.out] at HMQ
  generalize metB (oneT nM (hdL l)) = mt at HMET HAN HMQ
  generalize oneT nM (hdL l) = M at *
  generalize oneT nS (hdL l) = S at *
  generalize oneT nP (hdL l) = P at *
  generalize oneB nM (hdL l) = a at *
  generalize oneB nS (hdL l) = b at *
  generalize oneB nP (hdL l) = c3 at *
  obtain ⟨tr, htr⟩ : ∃ tr, tr = trailB (restL (tlL l)) := ⟨_, rfl⟩
  rw [← htr] at HAN HMQ
  obtain ⟨sc, hsc⟩ : ∃ sc, sc = schB S := ⟨_, rfl⟩
  rw [← hsc] at HAN HMQ
  have HTR := hide htr
  have HSC := hide hsc
  obtain ⟨ok1, hok1⟩ : ∃ x, x = (a && (b && (c3 && (is && (mt && (sc && (decide (h ≤ 1) && (decide (K = 3 + h) && tr)))))))) := ⟨_, rfl⟩
  rw [← hok1] at HAN HMQ
  have HOK1 := hide hok1
  clear htr hsc hok1 hqM
  go_upto_region 8 with (fail)
  go_cut [18] from 52 to 90 (fun s18 wx => s18 = .bool ok1 ∧ Hid (Below w5.heap.size w5 wx ∧ wx.ownsRow w5.heap.size 9 1 (.slice HA h hc) h (tcs hs)))
  case first =>
    cases a
    · have HX := hide (show ok1 = false by rw [HOK1.out]; simp)
      clear HOK1
      go_wp2_with fail
      go_meet
      exact ⟨by rw [HX.out], HB7.out, HO7.out⟩
    · skip
      cases b
      · have HX := hide (show ok1 = false by rw [HOK1.out]; simp)
        clear HOK1
        go_wp2_with fail
        go_meet
        exact ⟨by rw [HX.out], HB7.out, HO7.out⟩
      · skip
        cases c3
        · have HX := hide (show ok1 = false by rw [HOK1.out]; simp)
          clear HOK1
          go_wp2_with fail
          go_meet
          exact ⟨by rw [HX.out], HB7.out, HO7.out⟩
        · skip
          cases is
          · have HX := hide (show ok1 = false by rw [HOK1.out]; simp)
            clear HOK1
            go_wp2_with fail
            go_meet
            exact ⟨by rw [HX.out], HB7.out, HO7.out⟩
          · skip
            cases mt
            · have HX := hide (show ok1 = false by rw [HOK1.out]; simp)
              clear HOK1
              go_wp2_with (go_at_call 35; refine (HMET.out _).mono ?_; rintro e w8 ⟨rfl, hb8⟩; have HB8 := hide (HB7.out.trans (hb8.mono HB7.out.size)); have HO8 := hide (own_lowF HO7.out hb8); clear hb8)
              go_meet
              exact ⟨by rw [HX.out], HB8.out, HO8.out⟩
            · skip
              have hcase : (S = bHttp ∧ sc = true) ∨ (S ≠ bHttp ∧ S = bHttps ∧ sc = true) ∨ (S ≠ bHttp ∧ S ≠ bHttps ∧ sc = false) := by
                rw [HSC.out]
                unfold schB
                by_cases q1 : S = bHttp
                · exact .inl ⟨q1, by rw [decide_eq_true q1]; rfl⟩
                · by_cases q2 : S = bHttps
                  · exact .inr (.inl ⟨q1, q2, by rw [decide_eq_true q2, Bool.or_true]⟩)
                  · exact .inr (.inr ⟨q1, q2, by rw [decide_eq_false q1, decide_eq_false q2]; rfl⟩)
              have hesc : (((S.toList == [104, 116, 116, 112]) = true) ∨ ((S.toList == [104, 116, 116, 112]) = false ∧ (S.toList == [104, 116, 116, 112, 115]) = true)) ∧ sc = true ∨ ((S.toList == [104, 116, 116, 112]) = false ∧ (S.toList == [104, 116, 116, 112, 115]) = false) ∧ sc = false := by
                rcases hcase with ⟨q1, q⟩ | ⟨q1, q2, q⟩ | ⟨q1, q2, q⟩
                · exact .inl ⟨.inl (lit_same q1), q⟩
                · exact .inl ⟨.inr ⟨lit_not q1, lit_same q2⟩, q⟩
                · exact .inr ⟨⟨lit_not q1, lit_not q2⟩, q⟩
              clear hcase HSC
              rcases hesc with ⟨hesc, rfl⟩ | ⟨⟨e1, e2⟩, rfl⟩
              · have hcase : ¬ (h : Int) ≤ 1 ∨ ((h : Int) ≤ 1 ∧ ((K : Int) == 3 + (h : Int)) = false ∧ K ≠ 3 + h) ∨ ((h : Int) ≤ 1 ∧ ((K : Int) == 3 + (h : Int)) = true ∧ K = 3 + h) := by
                  by_cases q1 : (h : Int) ≤ 1
                  · by_cases q2 : K = 3 + h
                    · exact .inr (.inr ⟨q1, by simp; omega, q2⟩)
                    · exact .inr (.inl ⟨q1, by simp; omega, q2⟩)
                  · exact .inl q1
                rcases hcase with q1 | ⟨q1, qk, q2⟩ | ⟨q1, qk, q2⟩
                · have HX := hide (show ok1 = false by rw [HOK1.out, decide_eq_false (show ¬ h ≤ 1 by omega)]; rfl)
                  clear HOK1
                  rcases hesc with e1 | ⟨e1, e2⟩
                  · go_wp2_with (go_at_call 35; refine (HMET.out _).mono ?_; rintro e w8 ⟨rfl, hb8⟩; have HB8 := hide (HB7.out.trans (hb8.mono HB7.out.size)); have HO8 := hide (own_lowF HO7.out hb8); clear hb8)
                    go_meet
                    exact ⟨by rw [HX.out], HB8.out, HO8.out⟩
                  · go_wp2_with (go_at_call 35; refine (HMET.out _).mono ?_; rintro e w8 ⟨rfl, hb8⟩; have HB8 := hide (HB7.out.trans (hb8.mono HB7.out.size)); have HO8 := hide (own_lowF HO7.out hb8); clear hb8)
                    go_meet
                    exact ⟨by rw [HX.out], HB8.out, HO8.out⟩
                · have HX := hide (show ok1 = false by rw [HOK1.out, decide_eq_false q2, Bool.false_and, Bool.and_false]; rfl)
                  clear HOK1 q2
                  rcases hesc with e1 | ⟨e1, e2⟩
                  · go_wp2_with (go_at_call 35; refine (HMET.out _).mono ?_; rintro e w8 ⟨rfl, hb8⟩; have HB8 := hide (HB7.out.trans (hb8.mono HB7.out.size)); have HO8 := hide (own_lowF HO7.out hb8); clear hb8)
                    go_meet
                    exact ⟨by rw [HX.out], HB8.out, HO8.out⟩
                  · go_wp2_with (go_at_call 35; refine (HMET.out _).mono ?_; rintro e w8 ⟨rfl, hb8⟩; have HB8 := hide (HB7.out.trans (hb8.mono HB7.out.size)); have HO8 := hide (own_lowF HO7.out hb8); clear hb8)
                    go_meet
                    exact ⟨by rw [HX.out], HB8.out, HO8.out⟩
                · have HX := hide (show ok1 = tr by rw [HOK1.out, decide_eq_true (show h ≤ 1 by omega), decide_eq_true q2]; rfl)
                  clear HOK1 q2
                  rcases hesc with e1 | ⟨e1, e2⟩
                  · go_wp2_with (first
                      | (go_at_call 35; refine (HMET.out _).mono ?_; rintro e w8 ⟨rfl, hb8⟩; have HB8 := hide (HB7.out.trans (hb8.mono HB7.out.size)); have HO8 := hide (own_lowF HO7.out hb8); clear hb8)
                      | (go_at_call 36; refine (rg_rest B m d _ _ (HS5.out.keep HB8.out).g (by have q := HS5.out.g.len; have q2 := HM.out.tl.1; omega)).mono ?_; rintro e w9 ⟨r9, rfl, hown9, hb9⟩; obtain ⟨A9, c9, rfl, hfl9⟩ := own_fields hown9; have HF9 := hide hfl9; have HB9 := hide (HB8.out.trans (hb9.mono HB8.out.size)); have HO9 := hide (own_lowF HO8.out hb9); clear hb9 hown9 hfl9)
                      | (go_at_call 13; refine (rg_Trailers _ _ _ _ _ HF9.out (HM.out.tl.sub (List.filter_sublist ..))).mono ?_; rintro e w10 ⟨rfl, rfl⟩; rw [← HTR.out]))
                    go_meet
                    exact ⟨by rw [HX.out], HB9.out, HO9.out⟩
                  · go_wp2_with (first
                      | (go_at_call 35; refine (HMET.out _).mono ?_; rintro e w8 ⟨rfl, hb8⟩; have HB8 := hide (HB7.out.trans (hb8.mono HB7.out.size)); have HO8 := hide (own_lowF HO7.out hb8); clear hb8)
                      | (go_at_call 36; refine (rg_rest B m d _ _ (HS5.out.keep HB8.out).g (by have q := HS5.out.g.len; have q2 := HM.out.tl.1; omega)).mono ?_; rintro e w9 ⟨r9, rfl, hown9, hb9⟩; obtain ⟨A9, c9, rfl, hfl9⟩ := own_fields hown9; have HF9 := hide hfl9; have HB9 := hide (HB8.out.trans (hb9.mono HB8.out.size)); have HO9 := hide (own_lowF HO8.out hb9); clear hb9 hown9 hfl9)
                      | (go_at_call 13; refine (rg_Trailers _ _ _ _ _ HF9.out (HM.out.tl.sub (List.filter_sublist ..))).mono ?_; rintro e w10 ⟨rfl, rfl⟩; rw [← HTR.out]))
                    go_meet
                    exact ⟨by rw [HX.out], HB9.out, HO9.out⟩
              · have HX := hide (show ok1 = false by rw [HOK1.out]; rfl)
                clear HOK1
                go_wp2_with (go_at_call 35; refine (HMET.out _).mono ?_; rintro e w8 ⟨rfl, hb8⟩; have HB8 := hide (HB7.out.trans (hb8.mono HB7.out.size)); have HO8 := hide (own_lowF HO7.out hb8); clear hb8)
                go_meet
                exact ⟨by rw [HX.out], HB8.out, HO8.out⟩
  case rest =>
    obtain ⟨rfl, hst⟩ := hcut
    have HB8 := hide hst.1
    have HO8 := hide hst.2
    obtain ⟨w8, hw8⟩ : ∃ w8, w8 = wc := ⟨_, rfl⟩
    subst hw8
    clear hst HB7 HO7 HTR HSC HMET HOK1
    obtain ⟨pth, hpth⟩ : ∃ x, x = (prefB bSlash P || (decide (P = bStar) && decide (M = bOpt))) := ⟨_, rfl⟩
    rw [← hpth] at HAN
    obtain ⟨ok2, hok2⟩ : ∃ x, x = (ok1 && (pth && (!en || decide (sz ≤ 0)))) := ⟨_, rfl⟩
    rw [← Bool.and_assoc, ← hok2] at HAN
    have HOK2 := hide hok2
    have hcase : (P = ⟨#[]⟩ ∧ pth = false) ∨ (∃ hp : 0 < P.size, ((P[0].toNat : Nat) : Int) = 47 ∧ (P.toList == []) = false ∧ (P.toList != []) = true ∧ pth = true) ∨ (∃ (hp : 0 < P.size) (y : Int), ((P[0].toNat : Nat) : Int) = y ∧ (y == 47) = false ∧ (P.toList == []) = false ∧ (P.toList != []) = true ∧ (((P.toList == [42]) = false ∧ pth = false) ∨ ((P.toList == [42]) = true ∧ (M.toList == [79, 80, 84, 73, 79, 78, 83]) = false ∧ pth = false) ∨ ((P.toList == [42]) = true ∧ (M.toList == [79, 80, 84, 73, 79, 78, 83]) = true ∧ pth = true))) := by
      by_cases h0 : P.size = 0
      · have := ba_empty h0
        subst this
        exact .inl ⟨rfl, by rw [hpth]; rfl⟩
      · have hp : 0 < P.size := by omega
        have he := empty_no (s := P) (by omega)
        have heq : (P.toList == []) = false := by cases h : P.toList with | nil => (rw [h] at he; cases he) | cons a r => rfl
        have hen : (P.toList != []) = true := by rw [bne, heq]; rfl
        have hpr : prefB bSlash P = decide (((P[0].toNat : Nat) : Int) = 47) := by
          show prefB ⟨#[47]⟩ P = _
          rw [pref_one 47 hp, bts_get P 0 hp]
          rfl
        by_cases hy : ((P[0].toNat : Nat) : Int) = 47
        · exact .inr (.inl ⟨hp, hy, heq, hen, by rw [hpth, hpr, decide_eq_true hy]; rfl⟩)
        · refine .inr (.inr ⟨hp, _, rfl, by simpa using hy, heq, hen, ?_⟩)
          by_cases hs1 : P = bStar
          · by_cases hs2 : M = bOpt
            · exact .inr (.inr ⟨lit_same hs1, lit_same hs2, by rw [hpth, decide_eq_true hs1, decide_eq_true hs2, Bool.and_true, Bool.or_true]⟩)
            · exact .inr (.inl ⟨lit_same hs1, lit_not hs2, by rw [hpth, hpr, decide_eq_false hy, decide_eq_false hs2, Bool.and_false]; rfl⟩)
          · exact .inl ⟨lit_not hs1, by rw [hpth, hpr, decide_eq_false hy, decide_eq_false hs1]; rfl⟩
    have HCASE := hide hcase
    clear hpth hok2 hcase
    go_upto_region 9 with (fail)
    go_cut [18] from 91 to 116 (fun s18 wx => s18 = .bool ok2 ∧ wx = w8)
    case first =>
      cases ok1
      · have HX := hide (show ok2 = false by rw [HOK2.out]; rfl)
        clear HOK2
        go_wp2_with fail
        go_meet
        exact ⟨by rw [HX.out], rfl⟩
      · rcases HCASE.out with ⟨rfl, rfl⟩ | ⟨hp, hy, heq, hen, rfl⟩ | ⟨hp, y, hy, hy47, heq, hen, ⟨hst, rfl⟩ | ⟨hst, hop, rfl⟩ | ⟨hst, hop, rfl⟩⟩
        · have HX := hide (show ok2 = false by rw [HOK2.out]; rfl)
          clear HOK2 HCASE
          go_wp2_with fail
          go_meet
          exact ⟨by rw [HX.out], rfl⟩
        · cases en
          · have HX := hide (show ok2 = true by rw [HOK2.out]; rfl)
            clear HOK2 HCASE
            go_wp2_with fail
            go_meet
            exact ⟨by rw [HX.out], rfl⟩
          · by_cases hz : sz ≤ 0
            · have HX := hide (show ok2 = true by rw [HOK2.out, decide_eq_true hz]; rfl)
              clear HOK2 HCASE
              go_wp2_with fail
              go_meet
              exact ⟨by rw [HX.out], rfl⟩
            · have HX := hide (show ok2 = false by rw [HOK2.out, decide_eq_false hz]; rfl)
              clear HOK2 HCASE
              go_wp2_with fail
              go_meet
              exact ⟨by rw [HX.out], rfl⟩
        · have HX := hide (show ok2 = false by rw [HOK2.out]; rfl)
          clear HOK2 HCASE
          go_wp2_with fail
          go_meet
          exact ⟨by rw [HX.out], rfl⟩
        · have HX := hide (show ok2 = false by rw [HOK2.out]; rfl)
          clear HOK2 HCASE
          go_wp2_with fail
          go_meet
          exact ⟨by rw [HX.out], rfl⟩
        · cases en
          · have HX := hide (show ok2 = true by rw [HOK2.out]; rfl)
            clear HOK2 HCASE
            go_wp2_with fail
            go_meet
            exact ⟨by rw [HX.out], rfl⟩
          · by_cases hz : sz ≤ 0
            · have HX := hide (show ok2 = true by rw [HOK2.out, decide_eq_true hz]; rfl)
              clear HOK2 HCASE
              go_wp2_with fail
              go_meet
              exact ⟨by rw [HX.out], rfl⟩
            · have HX := hide (show ok2 = false by rw [HOK2.out, decide_eq_false hz]; rfl)
              clear HOK2 HCASE
              go_wp2_with fail
              go_meet
              exact ⟨by rw [HX.out], rfl⟩
    case rest =>
      obtain ⟨rfl, hw9⟩ := hcut
      subst hw9
      have HMQ2 := hide (fun (q : ok2 = true) => HMQ.out (by rw [HOK2.out] at q; exact ((Bool.and_eq_true _ _).mp q).1))
      have HT8 := hide (TX.of_own HO8.out)
      clear HOK2 HCASE HMQ
      go_wp2_with fail
      go_loopw [18, 19] (fun s18 s19 wr => ∃ (i : Nat) (q : Bool), i ≤ h ∧ s19 = .int .i64 (i : Int) ∧ s18 = .bool q ∧ Hid (q = (ok2 && (hs.take i).all valB)) ∧ wr = wc) (fun _ s19 _ => h - (intOf s19).toNat)
      case atStart => exact ⟨0, ok2, by omega, rfl, rfl, hide (by simp), by first | rfl | trivial⟩
      case round =>
        obtain ⟨i, q, hi, rfl, rfl, HQ, rfl⟩ := hrel
        by_cases hlt : i < h
        · have hlt' : (i : Int) < (h : Int) := by omega
          obtain ⟨v, bb, off, hv, rfl, hbl, c0⟩ := HT8.out.round hlt
          have HVA := hide (all_take_succ hv)
          have HVAL := hide (fun w => rg_value v (by have := HHM.out v (List.mem_of_getElem? hv); omega) w)
          clear hv
          cases q
          · go_wp2_with fail
            go_roundw
            case rel => exact ⟨i + 1, false, by omega, by go_num, rfl, hide (by rw [HVA.out, ← Bool.and_assoc, ← HQ.out]; rfl), by first | rfl | trivial⟩
            case measure => simp [intOf]; omega
          · go_wp2_with (go_at_call 37; refine (HVAL.out _).mono ?_; rintro e w9 ⟨rfl, rfl⟩)
            go_roundw
            case rel => exact ⟨i + 1, valB v, by omega, by go_num, rfl, hide (by rw [HVA.out, ← Bool.and_assoc, ← HQ.out, Bool.true_and]), by first | rfl | trivial⟩
            case measure => simp [intOf]; omega
        · have hge : ¬ (i : Int) < (h : Int) := by omega
          obtain rfl : i = h := by omega
          have HE0 := hide (show hs.take i = hs by rw [HHL.out, List.take_length])
          rw [HE0.out] at HQ
          rw [← HQ.out] at HAN
          have HMQ3 := hide (fun (z : q = true) => HMQ2.out (by rw [HQ.out] at z; exact ((Bool.and_eq_true _ _).mp z).1))
          have HS8 := hide (HS5.out.keep HB8.out)
          clear HE0 HQ HMQ2 HHM
          cases q
          · have HE := hide (HAN.out.trans (if_neg (by decide)))
            clear HAN
            go_wp2_with (refine wpList_store_blk rfl 29 (.tmp 4) (.tmp 133) rfl R rgq0 rgq0 29 rfl rfl HS8.out.r rgq_size rfl rgq0_one ?_)
            exact bodyPost_ret (results_cell_tmp_blk rfl _ _ R 29 rgq0 _ rfl (HS8.out.r.row _) Tryd.underlying29 rfl rgq_size _ rfl) rfl ⟨by rw [HE.out]; rfl, below_setRow HS8.out.b HS8.out.lo _⟩
          · obtain ⟨eM, eS, eP⟩ := HMQ3.out rfl
            have HE := hide (show ∀ HV RK, HV = (hs ++ vals nHost (tlL l)).headD bNil → RK = rankI (fst' nPrio (tlL l)) → V = .tuple #[.agg #[.string M, .string S, .string P, .string HV, .int .i64 sz, .int .i64 RK], .bool true] by
              intro HV RK e1 e2
              rw [HAN.out, if_pos rfl, e1, e2, HHS.out, host_head, eM, eS, eP]
              rfl)
            clear HAN HMQ3 eM eS eP
            have HG0 := hide (BlkIs.new wr 29 #[.string ⟨#[]⟩, .string ⟨#[]⟩, .string ⟨#[]⟩, .string ⟨#[]⟩, .int .i64 0, .int .i64 0])
            have HGE := hide (show w5.heap.size ≤ wr.heap.size from HB8.out.size)
            have hml : (m : Int) ≤ 1000 := by have q := HS5.out.g.len; have q2 := HM.out.tl.1; omega
            go_wp2_with (refine wpList_store_blk rfl 29 (.tmp 20) (.tmp 138) rfl wr.heap.size #[.string M, .string S, .string P, .string ⟨#[]⟩, .int .i64 sz, .int .i64 3] rgq0 29 rfl rfl HG0.out rgq_size rfl (by simp [Value.oneCell']) ?_)
            have HB9 := hide (below_setRow (HB8.out.alloc HB8.out.size (.cells #[.string ⟨#[]⟩, .string ⟨#[]⟩, .string ⟨#[]⟩, .string ⟨#[]⟩, .int .i64 0, .int .i64 0] 29)) HGE.out #[.string M, .string S, .string P, .string ⟨#[]⟩, .int .i64 sz, .int .i64 3])
            have HO9 := hide (own_lowF HO8.out (below_setRow (bel1 wr (.cells #[.string ⟨#[]⟩, .string ⟨#[]⟩, .string ⟨#[]⟩, .string ⟨#[]⟩, .int .i64 0, .int .i64 0] 29)) (Nat.le_refl _) #[.string M, .string S, .string P, .string ⟨#[]⟩, .int .i64 sz, .int .i64 3]))
            have HG9 := hide (HG0.out.row #[.string M, .string S, .string P, .string ⟨#[]⟩, .int .i64 sz, .int .i64 3])
            obtain ⟨G, hG⟩ : ∃ G, G = wr.heap.size := ⟨_, rfl⟩
            rw [← hG] at HB9 HO9 HG9 HGE ⊢
            generalize ((wr.alloc (.cells #[.string ⟨#[]⟩, .string ⟨#[]⟩, .string ⟨#[]⟩, .string ⟨#[]⟩, .int .i64 0, .int .i64 0] 29)).setRow G #[.string M, .string S, .string P, .string ⟨#[]⟩, .int .i64 sz, .int .i64 3]) = W9 at HB9 HO9 HG9 ⊢
            clear HG0 HT8 HO8 HB8 HS8 hG
            have HVL := hide (vals_le nHost (tlL l))
            refine (rg_Values B m d _ nHost _ (HS5.out.keep HB9.out).g (by omega)).mono ?_
            rintro e w10 ⟨r10, rfl, hown10, hb10⟩
            obtain ⟨A10, c10, rfl, htx10⟩ := own_texts hown10
            have HX10 := hide htx10
            have HB10 := hide (HB9.out.trans (hb10.mono HB9.out.size))
            have HO10 := hide (own_lowF HO9.out hb10)
            have HG10 := hide (HG9.out.keep hb10)
            have HYL := hide (show (vals nHost (tlL l)).length ≤ 1000 by have q := HS5.out.g.len; have q2 := HVL.out; omega)
            generalize vals nHost (tlL l) = ys at HX10 HE HYL
            clear hown10 htx10 hb10 HB9 HO9 HG9 HVL
            obtain ⟨k, hk⟩ : ∃ k, k = ys.length := ⟨_, rfl⟩
            rw [← hk] at HX10 HYL ⊢
            have HKY := hide hk
            clear hk
            go_upto_if 145 with (at_builtin; refine wpList_append_tx _ rfl (.tmp 139) (.tmp 141) rfl w5.heap.size _ i hs rfl HO10.out A10 k c10 ys rfl HX10.out (by have := HYL.out; omega) HB10.out.size ?_; intro v1 w11 hown11 hg11; have HB11 := hide (own_below_f HO10.out HB10.out (Nat.le_refl _) (Nat.le_refl _) hg11); have HG11 := hide (tx_grown_ne HG10.out hg11 HO10.out (by decide)); obtain ⟨A11, c11, rfl, htx11⟩ := own_texts hown11; have HX11 := hide htx11; clear hown11 hg11 htx11)
            obtain ⟨HV, hHV⟩ : ∃ x, x = (hs ++ ys).headD bNil := ⟨_, rfl⟩
            have HHV := hide hHV
            obtain ⟨nx, hnx⟩ : ∃ nx, nx = i + k := ⟨_, rfl⟩
            have HNX := hide (show nx = (hs ++ ys).length by rw [hnx, List.length_append, ← HHL.out, ← HKY.out])
            rw [← hnx] at HX11 ⊢
            generalize hs ++ ys = xs at HX11 HHV HNX HE
            have HNE := hide hnx
            clear hHV hnx HKY HX10 HB10 HO10 HG10
            go_cut [20] from 145 to 149 (fun s20 wx => s20 = .pointer (some ⟨G, 0, none⟩) ∧ Hid (Below w5.heap.size w5 wx ∧ BlkIs wx G 29 #[.string M, .string S, .string P, .string HV, .int .i64 sz, .int .i64 3]))
            case first =>
              by_cases h0 : nx = 0
              · have HV0 := hide (show HV = ⟨#[]⟩ by (have e : xs = [] := List.eq_nil_of_length_eq_zero (by rw [← HNX.out]; exact h0)); rw [HHV.out, e]; rfl)
                simp only [decide_eq_false (show ¬ (0 : Int) < (i : Int) + (k : Int) by have := HNE.out; omega)]
                go_wp2_with fail
                go_meet
                exact ⟨rfl, HB11.out, by rw [HV0.out]; exact HG11.out⟩
              · have hpos : (0 : Int) < (nx : Int) := by omega
                obtain ⟨v, bb, off, hv, rfl, hbl, c0⟩ := HX11.out.round (k := 0) (by omega)
                rw [Nat.add_zero] at c0
                have HV0 := hide (show HV = v by rw [HHV.out]; cases xs with | nil => simp at hv | cons x r => (simp at hv; exact hv))
                have k3 := HG11.out.cell 3
                have f3 := HG11.out.frozen 3
                simp only [List.getElem?_toArray, List.getElem?_cons_zero, List.getElem?_cons_succ] at k3
                clear h0 hv
                simp only [decide_eq_true (show (0 : Int) < (i : Int) + (k : Int) by have := HNE.out; omega)]
                go_wp2_with fail
                go_meet
                exact ⟨rfl, HB11.out.setCell HGE.out _, by rw [HV0.out]; exact HG11.out.put 3 _⟩
            case rest =>
              obtain ⟨rfl, hst⟩ := hcut
              have HB12 := hide hst.1
              have HG12 := hide hst.2
              clear hst HX11 HB11 HG11 HNX
              have HVL := hide (vals_le nPrio (tlL l))
              have HVM := hide (fun v (hv : v ∈ vals nPrio (tlL l)) => HM.out.tl.val hv)
              obtain ⟨RK, hRK⟩ : ∃ x, x = rankI (fst' nPrio (tlL l)) := ⟨_, rfl⟩
              have HE2 := hide (HE.out HV RK HHV.out hRK)
              have HRK := hide hRK
              clear hRK HE HHV
              go_wp2_with fail
              refine (rg_Values B m d _ nPrio _ (HS5.out.keep HB12.out).g (by omega)).mono ?_
              rintro e w13 ⟨r13, rfl, hown13, hb13⟩
              obtain ⟨A13, c13, rfl, htx13⟩ := own_texts hown13
              have HX13 := hide htx13
              have HB13 := hide (HB12.out.trans (hb13.mono HB12.out.size))
              have HG13 := hide (HG12.out.keep hb13)
              unfold fst' at HRK
              generalize vals nPrio (tlL l) = zs at HX13 HVL HVM HRK
              clear hown13 htx13 hb13 HB12 HG12 HVL
              obtain ⟨nz, hnz⟩ : ∃ nz, nz = zs.length := ⟨_, rfl⟩
              rw [← hnz] at HX13 ⊢
              have HNZ := hide hnz
              clear hnz
              go_upto_if 154 with (fail)
              go_cut [20] from 154 to 159 (fun s20 wx => s20 = .pointer (some ⟨G, 0, none⟩) ∧ Hid (Below w5.heap.size w5 wx ∧ BlkIs wx G 29 #[.string M, .string S, .string P, .string HV, .int .i64 sz, .int .i64 RK]))
              case first =>
                by_cases h0 : nz = 0
                · have HV0 := hide (show RK = 3 by (have e : zs = [] := List.eq_nil_of_length_eq_zero (by rw [← HNZ.out]; exact h0)); rw [HRK.out, e]; exact rank_nil)
                  simp only [decide_eq_false (show ¬ 0 < nz by omega)]
                  go_wp2_with fail
                  go_meet
                  exact ⟨rfl, HB13.out, by rw [HV0.out]; exact HG13.out⟩
                · have hpos : (0 : Int) < (nz : Int) := by omega
                  obtain ⟨v, bb, off, hv, rfl, hbl, c0⟩ := HX13.out.round (k := 0) (by omega)
                  rw [Nat.add_zero] at c0
                  have HV0 := hide (show RK = rankI v by rw [HRK.out]; cases zs with | nil => simp at hv | cons x r => (simp at hv; rw [hv]; rfl))
                  have HRC := hide (fun w => rg_Rank v (by have := HVM.out v (List.mem_of_getElem? hv); omega) w)
                  generalize rankI v = rk at HV0 HRC
                  have k5 := HG13.out.cell 5
                  have f5 := HG13.out.frozen 5
                  simp only [List.getElem?_toArray, List.getElem?_cons_zero, List.getElem?_cons_succ] at k5
                  clear h0 hv
                  simp only [decide_eq_true (show 0 < nz by omega)]
                  go_wp2_with (go_at_call 19; refine (HRC.out _).mono ?_; rintro e w14 ⟨rfl, rfl⟩)
                  go_meet
                  exact ⟨rfl, HB13.out.setCell HGE.out _, by rw [HV0.out]; exact HG13.out.put 5 _⟩
              case rest =>
                obtain ⟨rfl, hst⟩ := hcut
                have HB15 := hide hst.1
                have HG15 := hide hst.2
                have HS15 := hide (HS5.out.keep hst.1)
                have k0 := hst.2.cell 0
                have k1 := hst.2.cell 1
                have k2 := hst.2.cell 2
                have k3 := hst.2.cell 3
                have k4 := hst.2.cell 4
                have k5 := hst.2.cell 5
                simp only [List.getElem?_toArray, List.getElem?_cons_zero, List.getElem?_cons_succ] at k0 k1 k2 k3 k4 k5
                clear hst HX13 HB13 HG13 HNZ HVM HRK
                go_wp2_with (refine wpList_store_blk rfl 29 (.tmp 4) (.tmp 160) rfl R #[.string M, .string S, .string P, .string HV, .int .i64 sz, .int .i64 RK] rgq0 29 rfl rfl HS15.out.r rgq_size rfl (by simp [Value.oneCell']) ?_)
                exact bodyPost_ret (results_cell_tmp_blk rfl _ _ R 29 #[.string M, .string S, .string P, .string HV, .int .i64 sz, .int .i64 RK] _ rfl (HS15.out.r.row _) Tryd.underlying29 rfl rgq_size _ rfl) rfl ⟨by rw [HE2.out]; rfl, below_setRow HS15.out.b HS15.out.lo _⟩
end Go.Proofs.YtlbhnbloanamfaaDoor
