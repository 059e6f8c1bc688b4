/-
  SplitPieces: its walk: for all bytes and both numbers the Go text returns true, and leaves what was there as it was.
-/
import Derived.Test.YtojcjmjohibpaaaSpAwake
import Derived.Test.YtojcjmjohibpaaaSrRaws
import Derived.Deep.Cut
import Derived.Deep.DeepCutAuto
import Derived.BigGuardPart
namespace Go.Proofs.Ytojcjmjohibpaaa
set_option linter.unusedSimpArgs false
set_option linter.unusedVariables false
open Go.RowKit
theorem feed_blen (s : Sp) (xs : List Int) : (feedS s xs).s.b.length ≤ s.b.length + xs.length := by
  unfold feedS
  split
  · simp
  · split
    · simp [Sp.gone]
    · unfold fedOf
      split
      · simp [Sp.gone]
      · rename_i t ht
        have h := cutS_le _ t ht
        rw [List.length_append, List.length_drop] at h
        simp only
        omega
theorem feed_ball (s : Sp) (xs : List Int) (hs : AllB s.b) (hx : AllB xs) : AllB (feedS s xs).s.b := by
  have h0 : AllB Sp.gone.b := fun x h => by cases h
  unfold feedS
  split
  · exact hs
  · split
    · exact h0
    · unfold fedOf
      split
      · exact h0
      · rename_i t ht
        exact cutS_all _ (fun x hx' => by
          rcases List.mem_append.1 hx' with h | h
          · exact hs x h
          · exact hx.drop _ x h) t ht
theorem feedS_cc (s : Sp) (xs : List Int) : 0 ≤ (feedS s xs).c ∧ (feedS s xs).c ≤ 6 := by
  unfold feedS
  split
  · exact ⟨by simp, by simp⟩
  · split
    · exact ⟨by simp, by simp⟩
    · unfold fedOf
      split <;> exact ⟨by simp, by simp⟩
theorem feedS_ll (s : Sp) (xs : List Int) : 9 * (feedS s xs).l.length ≤ s.b.length + xs.length := by
  unfold feedS
  split
  · simp
  · split
    · simp
    · have h := cutS_len (s.b ++ xs.drop (min xs.length (24 - s.g.toNat)))
      rw [List.length_append, List.length_drop] at h
      unfold fedOf
      split <;> (simp only; omega)
theorem zero_b : AllB Sp.zero.b := fun x h => by cases h
theorem zero_chk : Sp.zero.chk = 0 := by decide
/-- A stream in three pieces. -/
theorem pieces (xs : List Int) (i k : Nat) (hik : i ≤ k) (hk : k ≤ xs.length) (hall : AllB xs) : ∃ Y Z V : Fd10, feedS Sp.zero (xs.take i) = Y ∧ feedS Y.s ((xs.drop i).take (k - i)) = Z ∧ feedS Z.s (xs.drop k) = V ∧
    feedS Sp.zero xs = ⟨V.s, Y.l ++ (Z.l ++ V.l), Y.c + (Z.c + V.c)⟩ ∧ V.s.chk = 0 ∧ AllB Y.s.b ∧ AllB Z.s.b ∧ Y.s.b.length ≤ xs.length ∧ Z.s.b.length ≤ xs.length ∧ V.s.b.length ≤ xs.length ∧ AllB V.s.b ∧
    9 * Y.l.length ≤ xs.length ∧ 9 * Z.l.length ≤ 2 * xs.length ∧ 9 * V.l.length ≤ 2 * xs.length ∧ (0 ≤ Y.c ∧ Y.c ≤ 6) ∧ (0 ≤ Z.c ∧ Z.c ≤ 6) ∧ (0 ≤ V.c ∧ V.c ≤ 6) := by
  refine ⟨_, _, _, rfl, rfl, rfl, ?_⟩
  have e : xs = xs.take i ++ ((xs.drop i).take (k - i) ++ xs.drop k) := by
    have : (xs.drop i).take (k - i) ++ xs.drop k = xs.drop i := by
      rw [show xs.drop k = (xs.drop i).drop (k - i) by rw [List.drop_drop]; congr 1; omega]
      exact List.take_append_drop _ _
    rw [this, List.take_append_drop]
  have hy := feed_ball Sp.zero (xs.take i) zero_b (hall.take i)
  have hz := feed_ball _ ((xs.drop i).take (k - i)) hy ((hall.drop i).take (k - i))
  have hv := feed_ball _ (xs.drop k) hz (hall.drop k)
  have l1 := feed_blen Sp.zero (xs.take i)
  have l2 := feed_blen (feedS Sp.zero (xs.take i)).s ((xs.drop i).take (k - i))
  have l3 := feed_blen (feedS (feedS Sp.zero (xs.take i)).s ((xs.drop i).take (k - i))).s (xs.drop k)
  have m1 := feedS_ll Sp.zero (xs.take i)
  have m2 := feedS_ll (feedS Sp.zero (xs.take i)).s ((xs.drop i).take (k - i))
  have m3 := feedS_ll (feedS (feedS Sp.zero (xs.take i)).s ((xs.drop i).take (k - i))).s (xs.drop k)
  have z0 : Sp.zero.b.length = 0 := rfl
  rw [List.length_take] at l1 l2 m1 m2
  rw [List.length_drop] at l2 l3 m2 m3
  refine ⟨?_, fed_ok _ _ (fed_ok _ _ (fed_ok _ _ zero_chk)), hy, hz, by omega, by omega, by omega, hv, by omega, by omega, by omega, feedS_cc _ _, feedS_cc _ _, feedS_cc _ _⟩
  conv => lhs; rw [e]
  rw [feed_app Sp.zero _ _ zero_b (hall.take i), feed_app _ _ _ hy ((hall.drop i).take (k - i))]
theorem u8_mid {w : World} {A : Option Addr} {n cap : Nat} {xs : List Int} (h : RB w A n xs) (hc : n ≤ cap) (hnil : A = none → cap = 0) (i k : Nat) (hik : i ≤ k) (hk : k ≤ n) :
    ∃ Q, (∀ w', (Instr.slice 24 (.slice A n cap) (some (.int .i64 (i : Int))) (some (.int .i64 (k : Int))) none).run Try.prog w' = .ok (.slice Q (k - i) (cap - i)) w') ∧ RB w Q (k - i) ((xs.drop i).take (k - i)) ∧ (Q = none → cap - i = 0) := by
  have hr : ∀ w', (Instr.slice 24 (.slice A n cap) (some (.int .i64 (i : Int))) (some (.int .i64 (k : Int))) none).run Try.prog w' = .ok (sliced A i k cap 1) w' := by
    intro w'
    rw [run_slice_lh w' 24 A n cap u8_under .i64 .i64 (i : Int) (k : Int) (by omega) (by omega) (by omega), run_size_is u8_size1]
    rfl
  by_cases he : k = i
  · subst he
    rw [Nat.sub_self, List.take_zero]
    cases A with
    | none =>
      have := hnil rfl
      subst this
      have : k = 0 := by omega
      subst this
      exact ⟨none, fun w' => by rw [hr w']; rfl, RB.nothing _ _, fun _ => rfl⟩
    | some a =>
      by_cases hcm : cap = k
      · exact ⟨some a, fun w' => by rw [hr w']; simp [sliced, hcm], RB.nothing _ _, fun h => by cases h⟩
      · exact ⟨some (a.add k), fun w' => by rw [hr w']; simp [sliced, hcm], RB.nothing _ _, fun h => by cases h⟩
  · obtain ⟨b, off, rfl, _, _⟩ := h.2.1 (by omega)
    have hcm : ¬ cap = i := by omega
    exact ⟨some ⟨b, off + i, none⟩, fun w' => by rw [hr w']; simp [sliced, hcm, Addr.add], (h.cut (by omega)).short (by omega), fun h => by cases h⟩
theorem u8_high {w : World} {A : Option Addr} {n cap : Nat} {xs : List Int} (h : RB w A n xs) (hc : n ≤ cap) (hnil : A = none → cap = 0) (k : Nat) (hk : k ≤ n) :
    ∃ Q, (∀ w', (Instr.slice 24 (.slice A n cap) none (some (.int .i64 (k : Int))) none).run Try.prog w' = .ok (.slice Q k cap) w') ∧ RB w Q k (xs.take k) ∧ (Q = none → cap = 0) := by
  have hr : ∀ w', (Instr.slice 24 (.slice A n cap) none (some (.int .i64 (k : Int))) none).run Try.prog w' = .ok (sliced A 0 k cap 1) w' := by
    intro w'
    rw [run_slice_h w' 24 A n cap u8_under .i64 (k : Int) (by omega) (by omega), run_size_is u8_size1]
    rfl
  by_cases hc0 : cap = 0
  · have hk0 : k = 0 := by omega
    subst hc0 hk0
    exact ⟨A, fun w' => by rw [hr w']; simp [sliced], by rw [List.take_zero]; exact RB.nothing _ _, fun _ => rfl⟩
  · cases A with
    | none => exact absurd (hnil rfl) hc0
    | some a =>
      refine ⟨some (a.add 0), fun w' => by rw [hr w']; simp [sliced, hc0], ?_, fun h => by cases h⟩
      by_cases hk0 : k = 0
      · subst hk0; rw [List.take_zero]; exact RB.nothing _ _
      · obtain ⟨b, off, e, _, _⟩ := h.2.1 (by omega)
        injection e with e
        subst e
        have := h.short hk
        simpa [Addr.add] using this
/-- What a piece's reading leaves: the state in a block of its own, the frames, the code. -/
def PieceR (w w' : World) (g : Int) (B : ByteArray) (d : Bool) (n : Nat) (l : List Rw) (c : Int) (s1 s2 s3 : Value) : Prop :=
  ∃ y A cp, s1 = .pointer (some ⟨y, 0, none⟩) ∧ s2 = .slice A n cp ∧ s3 = .int .u32 c ∧ BlkIs w' y 26 #[.int .i64 g, .string B, .bool d] ∧ ZL w' A n cp l ∧ Below w.heap.size w w'
theorem zl_ne {w : World} {A : Option Addr} {n c u : Nat} {l : List Rw} {x : Int} {y : ByteArray} {z : Bool} (h : ZL w A n c l) (hu : BlkIs w u 26 #[.int .i64 x, .string y, .bool z]) : ∀ b off, A = some ⟨b, off, none⟩ → 0 < n → ¬ b = u := by
  intro b off hA hn e
  subst e
  obtain ⟨r, b', off', hl, e1, _, c0, c1, c2, _, _⟩ := h.round hn
  rw [hA] at e1
  injection e1 with e1
  injection e1 with e1 e2
  subst e1 e2
  rw [hu.cell] at c0 c1 c2
  simp only [Nat.zero_mul, Nat.add_zero] at c0 c1 c2
  match off, c0, c1, c2 with
  | 0, c0, c1, c2 => simp at c1
  | 1, c0, c1, c2 => simp at c0
  | 2, c0, c1, c2 => simp at c0
  | k + 3, c0, c1, c2 => simp at c0
theorem rem_nat (m n : Int) (h0 : 0 ≤ m) (N : Nat) (hn : n = (N : Int)) (hp : 0 < N) : ∃ i : Nat, m % n = (i : Int) ∧ i < N := by
  subst hn
  refine ⟨(m % (N : Int)).toNat, ?_, ?_⟩
  · have := Int.emod_nonneg m (show (N : Int) ≠ 0 by omega); omega
  · have := Int.emod_nonneg m (show (N : Int) ≠ 0 by omega)
    have := Int.emod_lt_of_pos m (show (0 : Int) < (N : Int) by omega)
    omega
end Go.Proofs.Ytojcjmjohibpaaa
namespace Go.Proofs.Ytojcjmjohibpaaa.splitPieces
open Go.RowKit Go.Proofs.Ytojcjmjohibpaaa

set_option maxRecDepth 100000 in
set_option maxHeartbeats 6400000 in
theorem walk (a : Option Addr) (n cap : Nat) (z : List Int) (m q : Int) (w : World) (h : IsRow .u8 w a n cap z) (w1 : (Lit.int .u16 m).wf = true) (w2 : (Lit.int .u16 q).wf = true) :
    Calls Try.prog 4 #[.slice a n cap, .int .u16 m, .int .u16 q] w fun e w' => e = .returned (.bool true) ∧ Below w.heap.size w w' := by
  obtain ⟨hr, hnc, hc63⟩ := rb_of_row h
  have hnil : a = none → cap = 0 := fun e => by
    rcases h with ⟨_, _, h2, _⟩ | ⟨x, h1, _⟩
    · exact h2
    · rw [e] at h1; cases h1
  obtain ⟨xs, hxs⟩ : ∃ xs, xs = z.take n := ⟨_, rfl⟩
  rw [← hxs] at hr
  have HAW := hide (fun w => aw_split w)
  have hm := bounds_u16 w1
  have hq := bounds_u16 w2
  clear h hxs w1 w2
  by_cases hn : 400 < n
  · have hn' : (400 : Int) < (n : Int) := by omega
    clear hr hnil hnc hc63 hn hm hq
    go_enter Try.func4, Try.ntmps4
    go_wp2_with fail
    refine (HAW.out _).mono ?_
    rintro e w1 ⟨rfl, hb1⟩
    have B1 := hide hb1
    clear hb1
    go_wp2_with fail
    go_ret
    exact ⟨rfl, B1.out⟩
  have hn' : ¬ (400 : Int) < (n : Int) := by omega
  obtain ⟨i, hmi, hi⟩ := rem_nat m ((n : Int) + 1) hm.1 (n + 1) (by omega) (by omega)
  obtain ⟨r, hqr, hrr⟩ := rem_nat q ((n : Int) - (i : Int) + 1) hq.1 (n - i + 1) (by omega) (by omega)
  obtain ⟨k, hk⟩ : ∃ k, k = i + r := ⟨_, rfl⟩
  have hkk : (i : Int) + (r : Int) = (k : Int) := by omega
  have hik : i ≤ k := by omega
  have hkn : k ≤ n := by omega
  have hin : i ≤ n := by omega
  have m0 := hm.1
  have m1 := hm.2
  have q0 := hq.1
  have q1 := hq.2
  have i0 : (i : Int) ≤ (n : Int) := by omega
  have r0 : (r : Int) ≤ (n : Int) := by omega
  obtain ⟨Y, Z, V, hY, hZ, hV, hX, hck, hyb, hzb, hyl, hzl, hvl, hvb, hy9, hz9, hv9, hyc, hzc, hvc⟩ := pieces xs i k hik (by rw [hr.1]; exact hkn) (rb_all hr)
  obtain ⟨⟨yg, yb, yd⟩, yl, yc⟩ := Y
  obtain ⟨⟨zg, zb, zd⟩, zl, zc⟩ := Z
  obtain ⟨⟨vg, vb, vd⟩, vl, vc⟩ := V
  rw [← Int.add_assoc] at hX
  simp only at hZ hV hX hck hyb hzb hyl hzl hvl hvb hy9 hz9 hv9 hyc hzc hvc
  obtain ⟨YT, hYT⟩ : ∃ T, T = strOfNums yb := ⟨_, rfl⟩
  obtain ⟨ZT, hZT⟩ : ∃ T, T = strOfNums zb := ⟨_, rfl⟩
  obtain ⟨VT, hVT⟩ : ∃ T, T = strOfNums vb := ⟨_, rfl⟩
  obtain ⟨yn, hyn⟩ : ∃ N, N = yl.length := ⟨_, rfl⟩
  obtain ⟨zn, hzn⟩ : ∃ N, N = zl.length := ⟨_, rfl⟩
  obtain ⟨vn, hvn⟩ : ∃ N, N = vl.length := ⟨_, rfl⟩
  have eY : bts YT = yb := by rw [hYT, bts_str yb hyb]
  have eZ : bts ZT = zb := by rw [hZT, bts_str zb hzb]
  have eV : bts VT = vb := by rw [hVT, bts_str vb hvb]
  have sY : (YT.size : Int) ≤ 2000 := by rw [← bts_len, eY]; rw [hr.1] at hyl; omega
  have sZ : (ZT.size : Int) ≤ 2000 := by rw [← bts_len, eZ]; rw [hr.1] at hzl; omega
  have sV : (VT.size : Int) ≤ 2000 := by rw [← bts_len, eV]; rw [hr.1] at hvl; omega
  rw [hr.1] at hy9 hz9 hv9
  have hX' : feedS ⟨0, bts ⟨#[]⟩, false⟩ xs = ⟨⟨vg, vb, vd⟩, yl ++ (zl ++ vl), yc + zc + vc⟩ := hX
  have hY' : feedS ⟨0, bts ⟨#[]⟩, false⟩ (xs.take i) = ⟨⟨yg, yb, yd⟩, yl, yc⟩ := hY
  have hZ' : feedS ⟨yg, bts YT, yd⟩ ((xs.drop i).take (k - i)) = ⟨⟨zg, zb, zd⟩, zl, zc⟩ := by rw [eY]; exact hZ
  have hV' : feedS ⟨zg, bts ZT, zd⟩ (xs.drop k) = ⟨⟨vg, vb, vd⟩, vl, vc⟩ := by rw [eZ]; exact hV
  obtain ⟨q1a, hs1, hr1, hn1⟩ := u8_high hr hnc hnil i hin
  obtain ⟨q2a, hs2, hr2, hn2⟩ := u8_mid hr hnc hnil i k hik hkn
  obtain ⟨q3a, hs3, hr3, hn3⟩ := slice_low hr hnc hnil k hkn
  have HC0 := hide (fun w hr => feed_is hX' VT hVT.symm (yn + (zn + vn)) (by rw [List.length_append, List.length_append, hyn, hzn, hvn]) a n cap (by decide) (by omega) hnc (by omega) hnil w hr)
  have HC1 := hide (fun w hr => feed_is hY' YT hYT.symm yn hyn.symm q1a i cap (by decide) (by omega) (by omega) (by omega) hn1 w hr)
  have HC2 := hide (fun w hr => feed_is hZ' ZT hZT.symm zn hzn.symm q2a (k - i) (cap - i) sY (by omega) (by omega) (by omega) hn2 w hr)
  have HC3 := hide (fun w hr => feed_is hV' VT hVT.symm vn hvn.symm q3a (n - k) (cap - k) sZ (by omega) (by omega) (by omega) hn3 w hr)
  have HCK := hide (fun w => sp_Check vg VT vd sV w)
  rw [eV, hck] at HCK
  have HN := hide (show (yn : Int) ≤ 200 ∧ (zn : Int) ≤ 200 ∧ (vn : Int) ≤ 200 by omega)
  have HR := hide hr
  have HR1 := hide hr1
  have HR2 := hide hr2
  have HR3 := hide hr3
  obtain ⟨ki, hki⟩ : ∃ x, x = k - i := ⟨_, rfl⟩
  obtain ⟨ci, hci⟩ : ∃ x, x = cap - i := ⟨_, rfl⟩
  obtain ⟨nk, hnk⟩ : ∃ x, x = n - k := ⟨_, rfl⟩
  obtain ⟨ck, hck2⟩ : ∃ x, x = cap - k := ⟨_, rfl⟩
  rw [← hki, ← hci] at HC2
  rw [← hki] at HR2
  simp only [← hki, ← hci] at hs2
  rw [← hnk, ← hck2] at HC3
  rw [← hnk] at HR3
  simp only [← hnk, ← hck2] at hs3
  have HS1 := hide hs1
  have HS2 := hide hs2
  have HS3 := hide hs3
  have yc0 := hyc.1
  have yc6 := hyc.2
  have zc0 := hzc.1
  have zc6 := hzc.2
  have vc0 := hvc.1
  have vc6 := hvc.2
  clear hm hq hi hrr hk hik hkn hin hY hZ hV hX hck hyb hzb hyl hzl hvl hvb hy9 hz9 hv9 hyc hzc hvc hYT hZT hVT hyn hzn hvn eY eZ eV sY sZ sV hX' hY' hZ' hV' hs1 hs2 hs3 hr hr1 hr2 hr3 hn1 hn2 hn3 hki hci hnk hck2 hnil hnc hc63 hn
  go_enter Try.func4, Try.ntmps4
  go_upto_region 4 with (fail)
  rw [hmi]
  clear hmi
  have ni0 : (0 : Int) ≤ (n : Int) - (i : Int) := by omega
  go_upto_region 5 with (fail)
  clear i0 r0 m0 m1 q0 q1
  clear hqr hkk ni0
  have B0 := hide (Below.refl w.heap.size w)
  go_wp2_with (refine rgs_built_want (by rfl) 26 _ rfl _ st_built0 ?_)
  refine (HC0.out _ HR.out).mono ?_
  rintro e w1 ⟨v, rfl, hown1, hb1⟩
  have Er1 := hide (HR.out.below hb1)
  have Er11 := hide (HR1.out.below hb1)
  have Er21 := hide (HR2.out.below hb1)
  have Er31 := hide (HR3.out.below hb1)
  have B1 := hide (B0.out.trans (hb1.mono B0.out.size))
  clear hb1 HR HR1 HR2 HR3 B0
  obtain ⟨A1, c1, rfl, hz1⟩ := own_zl hown1
  have Z1 := hide hz1
  clear hz1 hown1
  clear Er1
  go_upto_region 6 with (fail)
  have KN2 := hide (BlkIs.new w1 26 #[.int .i64 vg, .string VT, .bool vd])
  obtain ⟨x, hx⟩ : ∃ g, g = w1.heap.size := ⟨_, rfl⟩
  have Lx := hide (show w.heap.size ≤ x by rw [hx]; exact B1.out.size)
  have Er12 := hide (Er11.out.below ((Below.refl _ _).alloc (Nat.le_refl _) (.cells #[.int .i64 vg, .string VT, .bool vd] 26)))
  have Er22 := hide (Er21.out.below ((Below.refl _ _).alloc (Nat.le_refl _) (.cells #[.int .i64 vg, .string VT, .bool vd] 26)))
  have Er32 := hide (Er31.out.below ((Below.refl _ _).alloc (Nat.le_refl _) (.cells #[.int .i64 vg, .string VT, .bool vd] 26)))
  have Ezx2 := hide (Z1.out.alloc (.cells #[.int .i64 vg, .string VT, .bool vd] 26))
  have B2 := hide (B1.out.alloc B1.out.size (.cells #[.int .i64 vg, .string VT, .bool vd] 26))
  rw [← hx] at KN2 ⊢
  generalize w1.alloc (.cells #[.int .i64 vg, .string VT, .bool vd] 26) = w2 at Er12 Er22 Er32 Ezx2 B2 KN2 ⊢
  clear hx Er11 Er21 Er31 Z1 B1
  have hs1 := HS1.out
  go_wp2_with (refine rgs_built_want (by rfl) 26 _ rfl _ st_built0 ?_)
  clear hs1
  refine (HC1.out _ Er12.out).mono ?_
  rintro e w3 ⟨v, rfl, hown3, hb3⟩
  have Kx3 := hide (KN2.out.keep hb3)
  have Er13 := hide (Er12.out.below hb3)
  have Er23 := hide (Er22.out.below hb3)
  have Er33 := hide (Er32.out.below hb3)
  have Ezx3 := hide (Ezx2.out.keep hb3)
  have B3 := hide (B2.out.trans (hb3.mono B2.out.size))
  clear hb3 KN2 Er12 Er22 Er32 Ezx2 B2
  obtain ⟨A3, c3, rfl, hz3⟩ := own_zl hown3
  have Z3 := hide hz3
  clear hz3 hown3
  clear Er13
  go_upto_region 7 with (fail)
  have KN4 := hide (BlkIs.new w3 26 #[.int .i64 yg, .string YT, .bool yd])
  obtain ⟨y, hy⟩ : ∃ g, g = w3.heap.size := ⟨_, rfl⟩
  have Ly := hide (show w.heap.size ≤ y by rw [hy]; exact B3.out.size)
  have Nxy := hide (show x ≠ y by have := Kx3.out.lt; omega)
  have Kx4 := hide (Kx3.out.alloc (.cells #[.int .i64 yg, .string YT, .bool yd] 26))
  have Er24 := hide (Er23.out.below ((Below.refl _ _).alloc (Nat.le_refl _) (.cells #[.int .i64 yg, .string YT, .bool yd] 26)))
  have Er34 := hide (Er33.out.below ((Below.refl _ _).alloc (Nat.le_refl _) (.cells #[.int .i64 yg, .string YT, .bool yd] 26)))
  have Ezx4 := hide (Ezx3.out.alloc (.cells #[.int .i64 yg, .string YT, .bool yd] 26))
  have Ezy4 := hide (Z3.out.alloc (.cells #[.int .i64 yg, .string YT, .bool yd] 26))
  have B4 := hide (B3.out.alloc B3.out.size (.cells #[.int .i64 yg, .string YT, .bool yd] 26))
  rw [← hy] at KN4 ⊢
  generalize w3.alloc (.cells #[.int .i64 yg, .string YT, .bool yd] 26) = w4 at Kx4 Er24 Er34 Ezx4 Ezy4 B4 KN4 ⊢
  clear hy Kx3 Er23 Er33 Ezx3 Z3 B3
  go_cut [15, 16, 17] (fun s1 s2 s3 wx => PieceR w4 wx zg ZT zd zn zl zc s1 s2 s3)
  case first =>
    refine wp_region_noPanic ?_
    refine wp_region_held_drew (S := fun w' => Below w4.heap.size w4 w') (by kernel_rfl) (Below.refl _ _).drew (fun hS => ?_)
    refine wpAnyH_take (i := 0) (by simp only [List.getElem?_toArray, List.getElem?_cons_zero] <;> exact rfl) (by kernel_rfl) (by kernel_rfl) (by kernel_rfl) (fun _ _ _ h => h) (rgs_yields_blk (by rfl) 26 (.tmp 12) (by rfl) y (by rfl) 26 #[.int .i64 yg, .string YT, .bool yd] _ (fun w' hw' => KN4.out.keep hw') Try.underlying26 rfl st_size) hS ?_
    try simp only [Act.put, List.setIfInBounds_toArray, List.set_cons_zero, List.set_cons_succ]
    refine wpAnyH_take (i := 1) (v := ?_) (by simp only [List.getElem?_toArray, List.getElem?_cons_succ, List.getElem?_cons_zero] <;> exact rfl) (by kernel_rfl) (by kernel_rfl) (by kernel_rfl) (fun _ _ _ h => h) (Or.inl ⟨by rfl, ?_⟩) hS ?_
    rotate_left
    focus (intro w' hw'; go_simp; all_goals with_reducible rfl)
    try simp only [Act.put, List.setIfInBounds_toArray, List.set_cons_zero, List.set_cons_succ]
    refine wpAnyH_take (i := 2) (v := ?_) (by simp only [List.getElem?_toArray, List.getElem?_cons_succ, List.getElem?_cons_zero] <;> exact rfl) (by kernel_rfl) (by kernel_rfl) (by kernel_rfl) (fun _ _ _ h => h) (Or.inl ⟨by rfl, ?_⟩) hS ?_
    rotate_left
    focus (intro w' hw'; go_simp; all_goals with_reducible rfl)
    try simp only [Act.put, List.setIfInBounds_toArray, List.set_cons_zero, List.set_cons_succ]
    refine wpAnyH_take (i := 3) (v := ?_) (by simp only [List.getElem?_toArray, List.getElem?_cons_succ, List.getElem?_cons_zero] <;> exact rfl) (by kernel_rfl) (by kernel_rfl) (by kernel_rfl) (fun _ _ _ h => h) (Or.inl ⟨by rfl, ?_⟩) hS ?_
    rotate_left
    focus (intro w' hw'; go_simp; all_goals with_reducible rfl)
    try simp only [Act.put, List.setIfInBounds_toArray, List.set_cons_zero, List.set_cons_succ]
    refine wpAnyH_take (i := 4) (v := ?_) (by simp only [List.getElem?_toArray, List.getElem?_cons_succ, List.getElem?_cons_zero] <;> exact rfl) (by kernel_rfl) (by kernel_rfl) (by kernel_rfl) (fun _ _ _ h => h) (Or.inl ⟨by rfl, ?_⟩) hS ?_
    rotate_left
    focus (intro w' hw'; have kk := HS2.out; go_simp; all_goals with_reducible rfl)
    try simp only [Act.put, List.setIfInBounds_toArray, List.set_cons_zero, List.set_cons_succ]
    generalize w4.drew = wd at hS ⊢
    refine wpAnyH_ready (rs := [5, 10]) (by kernel_rfl) (by simp) ?_
    refine AllReadyH.cons (o := _) (by simp only [List.getElem?_toArray, List.getElem?_cons_succ, List.getElem?_cons_zero] <;> exact rfl) (fun K hK => ?_) ?_
    focus (
      go_simp
      go_at_call 7
      refine (HC2.out _ (Er24.out.below hS)).mono ?_
      rintro e wc ⟨v, rfl, hown, hb⟩
      obtain ⟨A, cp, rfl, hz⟩ := own_zl hown
      have hS := hS.trans (hb.mono hS.size)
      clear hb hown
      go_wp2_with fail
      refine hK.out _ _ hS (fun _ => ?_)
      clear hK K
      try simp only [Act.put, List.setIfInBounds_toArray, List.set_cons_zero, List.set_cons_succ]
      refine wpAnyH_take (i := 6) (v := ?_) (by simp only [List.getElem?_toArray, List.getElem?_cons_succ, List.getElem?_cons_zero] <;> exact rfl) (by kernel_rfl) (by kernel_rfl) (by kernel_rfl) (fun _ _ _ h => h) (Or.inl ⟨by rfl, ?_⟩) hS ?_
      rotate_left
      focus (intro w' hw'; go_simp; all_goals with_reducible rfl)
      try simp only [Act.put, List.setIfInBounds_toArray, List.set_cons_zero, List.set_cons_succ]
      refine wpAnyH_take (i := 7) (v := ?_) (by simp only [List.getElem?_toArray, List.getElem?_cons_succ, List.getElem?_cons_zero] <;> exact rfl) (by kernel_rfl) (by kernel_rfl) (by kernel_rfl) (fun _ _ _ h => h) (Or.inl ⟨by rfl, ?_⟩) hS ?_
      rotate_left
      focus (intro w' hw'; go_simp; all_goals with_reducible rfl)
      try simp only [Act.put, List.setIfInBounds_toArray, List.set_cons_zero, List.set_cons_succ]
      refine wpAnyH_take (i := 8) (v := ?_) (by simp only [List.getElem?_toArray, List.getElem?_cons_succ, List.getElem?_cons_zero] <;> exact rfl) (by kernel_rfl) (by kernel_rfl) (by kernel_rfl) (fun _ _ _ h => h) (Or.inl ⟨by rfl, ?_⟩) hS ?_
      rotate_left
      focus (intro w' hw'; go_simp; all_goals with_reducible rfl)
      try simp only [Act.put, List.setIfInBounds_toArray, List.set_cons_zero, List.set_cons_succ]
      refine wpAnyH_take (i := 9) (v := ?_) (by simp only [List.getElem?_toArray, List.getElem?_cons_succ, List.getElem?_cons_zero] <;> exact rfl) (by kernel_rfl) (by kernel_rfl) (by kernel_rfl) (fun _ _ _ h => h) (Or.inl ⟨by rfl, ?_⟩) hS ?_
      rotate_left
      focus (intro w' hw'; go_simp; all_goals with_reducible rfl)
      try simp only [Act.put, List.setIfInBounds_toArray, List.set_cons_zero, List.set_cons_succ]
      refine wpAnyH_ready (rs := [10]) (by kernel_rfl) (by simp) ?_
      refine AllReadyH.cons (o := _) (by simp only [List.getElem?_toArray, List.getElem?_cons_succ, List.getElem?_cons_zero] <;> exact rfl) (fun K hK => ?_) ?_
      focus (
        go_simp
        refine hK.out _ _ (hS.alloc hS.size _) (fun _ => ?_)
        have hu := BlkIs.new wc 26 #[.int .i64 0, .string ⟨#[]⟩, .bool false]
        obtain ⟨u, hu0⟩ : ∃ u, u = wc.heap.size := ⟨_, rfl⟩
        have hul : w4.heap.size ≤ u := by rw [hu0]; exact hS.size
        have hS := hS.alloc hS.size (.cells #[.int .i64 0, .string ⟨#[]⟩, .bool false] 26)
        have hz := hz.alloc (.cells #[.int .i64 0, .string ⟨#[]⟩, .bool false] 26)
        rw [← hu0] at hu ⊢
        generalize wc.alloc (.cells #[.int .i64 0, .string ⟨#[]⟩, .bool false] 26) = wa at hS hu hz ⊢
        clear hu0 hK K
        try simp only [Act.put, List.setIfInBounds_toArray, List.set_cons_zero, List.set_cons_succ]
        refine wpAnyH_ready (rs := [11]) (by kernel_rfl) (by simp) ?_
        refine AllReadyH.cons (o := _) (by simp only [List.getElem?_toArray, List.getElem?_cons_succ, List.getElem?_cons_zero] <;> exact rfl) (fun K hK => ?_) ?_
        focus (
          refine rgs_store_blk (by rfl) 26 (.tmp 15) (.tmp 65) (by rfl) u #[.int .i64 zg, .string ZT, .bool zd] #[.int .i64 0, .string ⟨#[]⟩, .bool false] 26 (by rfl) (by rfl) hu st_size rfl (st_one _ _ _) ?_
          have hz := hz.kb ((KB.refl (· = u) wa).setRow (fun _ => rfl) #[.int .i64 zg, .string ZT, .bool zd]) (zl_ne hz hu)
          have hS := below_setRow hS hul #[.int .i64 zg, .string ZT, .bool zd]
          have hu := hu.row #[.int .i64 zg, .string ZT, .bool zd]
          refine hK.out _ _ hS (fun _ => ?_)
          clear hK K
          try simp only [Act.put, List.setIfInBounds_toArray, List.set_cons_zero, List.set_cons_succ]
          refine wpAnyH_take (i := 12) (v := ?_) (by simp only [List.getElem?_toArray, List.getElem?_cons_succ, List.getElem?_cons_zero] <;> exact rfl) (by kernel_rfl) (by kernel_rfl) (by kernel_rfl) (fun _ _ _ h => h) (Or.inl ⟨by rfl, ?_⟩) hS ?_
          rotate_left
          focus (intro w' hw'; go_simp; all_goals with_reducible rfl)
          try simp only [Act.put, List.setIfInBounds_toArray, List.set_cons_zero, List.set_cons_succ]
          refine wpAnyH_take (i := 13) (v := ?_) (by simp only [List.getElem?_toArray, List.getElem?_cons_succ, List.getElem?_cons_zero] <;> exact rfl) (by kernel_rfl) (by kernel_rfl) (by kernel_rfl) (fun _ _ _ h => h) (Or.inl ⟨by rfl, ?_⟩) hS ?_
          rotate_left
          focus (intro w' hw'; go_simp; all_goals with_reducible rfl)
          try simp only [Act.put, List.setIfInBounds_toArray, List.set_cons_zero, List.set_cons_succ]
          refine wpAnyH_done (by kernel_rfl) ?_ _
          refine NoPanic.normal ?_
          go_wp2
          go_meet
          exact ⟨u, A, cp, rfl, rfl, rfl, hu, hz, hS⟩)
        exact AllReadyH.nil)
      exact AllReadyH.nil)
    refine AllReadyH.cons (o := _) (by simp only [List.getElem?_toArray, List.getElem?_cons_succ, List.getElem?_cons_zero] <;> exact rfl) (fun K hK => ?_) ?_
    focus (
      go_simp
      refine hK.out _ _ (hS.alloc hS.size _) (fun _ => ?_)
      have hu := BlkIs.new wd 26 #[.int .i64 0, .string ⟨#[]⟩, .bool false]
      obtain ⟨u, hu0⟩ : ∃ u, u = wd.heap.size := ⟨_, rfl⟩
      have hul : w4.heap.size ≤ u := by rw [hu0]; exact hS.size
      have hS := hS.alloc hS.size (.cells #[.int .i64 0, .string ⟨#[]⟩, .bool false] 26)
      rw [← hu0] at hu ⊢
      generalize wd.alloc (.cells #[.int .i64 0, .string ⟨#[]⟩, .bool false] 26) = wa at hS hu ⊢
      clear hu0 hK K
      try simp only [Act.put, List.setIfInBounds_toArray, List.set_cons_zero, List.set_cons_succ]
      refine wpAnyH_ready (rs := [5]) (by kernel_rfl) (by simp) ?_
      refine AllReadyH.cons (o := _) (by simp only [List.getElem?_toArray, List.getElem?_cons_succ, List.getElem?_cons_zero] <;> exact rfl) (fun K hK => ?_) ?_
      focus (
        go_simp
        go_at_call 7
        refine (HC2.out _ (Er24.out.below hS)).mono ?_
        rintro e wc ⟨v, rfl, hown, hb⟩
        obtain ⟨A, cp, rfl, hz⟩ := own_zl hown
        have hu := hu.keep hb
        have hS := hS.trans (hb.mono hS.size)
        clear hb hown
        go_wp2_with fail
        refine hK.out _ _ hS (fun _ => ?_)
        clear hK K
        try simp only [Act.put, List.setIfInBounds_toArray, List.set_cons_zero, List.set_cons_succ]
        refine wpAnyH_take (i := 6) (v := ?_) (by simp only [List.getElem?_toArray, List.getElem?_cons_succ, List.getElem?_cons_zero] <;> exact rfl) (by kernel_rfl) (by kernel_rfl) (by kernel_rfl) (fun _ _ _ h => h) (Or.inl ⟨by rfl, ?_⟩) hS ?_
        rotate_left
        focus (intro w' hw'; go_simp; all_goals with_reducible rfl)
        try simp only [Act.put, List.setIfInBounds_toArray, List.set_cons_zero, List.set_cons_succ]
        refine wpAnyH_take (i := 7) (v := ?_) (by simp only [List.getElem?_toArray, List.getElem?_cons_succ, List.getElem?_cons_zero] <;> exact rfl) (by kernel_rfl) (by kernel_rfl) (by kernel_rfl) (fun _ _ _ h => h) (Or.inl ⟨by rfl, ?_⟩) hS ?_
        rotate_left
        focus (intro w' hw'; go_simp; all_goals with_reducible rfl)
        try simp only [Act.put, List.setIfInBounds_toArray, List.set_cons_zero, List.set_cons_succ]
        refine wpAnyH_take (i := 8) (v := ?_) (by simp only [List.getElem?_toArray, List.getElem?_cons_succ, List.getElem?_cons_zero] <;> exact rfl) (by kernel_rfl) (by kernel_rfl) (by kernel_rfl) (fun _ _ _ h => h) (Or.inl ⟨by rfl, ?_⟩) hS ?_
        rotate_left
        focus (intro w' hw'; go_simp; all_goals with_reducible rfl)
        try simp only [Act.put, List.setIfInBounds_toArray, List.set_cons_zero, List.set_cons_succ]
        refine wpAnyH_take (i := 9) (v := ?_) (by simp only [List.getElem?_toArray, List.getElem?_cons_succ, List.getElem?_cons_zero] <;> exact rfl) (by kernel_rfl) (by kernel_rfl) (by kernel_rfl) (fun _ _ _ h => h) (Or.inl ⟨by rfl, ?_⟩) hS ?_
        rotate_left
        focus (intro w' hw'; go_simp; all_goals with_reducible rfl)
        try simp only [Act.put, List.setIfInBounds_toArray, List.set_cons_zero, List.set_cons_succ]
        refine wpAnyH_ready (rs := [11]) (by kernel_rfl) (by simp) ?_
        refine AllReadyH.cons (o := _) (by simp only [List.getElem?_toArray, List.getElem?_cons_succ, List.getElem?_cons_zero] <;> exact rfl) (fun K hK => ?_) ?_
        focus (
          refine rgs_store_blk (by rfl) 26 (.tmp 15) (.tmp 65) (by rfl) u #[.int .i64 zg, .string ZT, .bool zd] #[.int .i64 0, .string ⟨#[]⟩, .bool false] 26 (by rfl) (by rfl) hu st_size rfl (st_one _ _ _) ?_
          have hz := hz.kb ((KB.refl (· = u) wc).setRow (fun _ => rfl) #[.int .i64 zg, .string ZT, .bool zd]) (zl_ne hz hu)
          have hS := below_setRow hS hul #[.int .i64 zg, .string ZT, .bool zd]
          have hu := hu.row #[.int .i64 zg, .string ZT, .bool zd]
          refine hK.out _ _ hS (fun _ => ?_)
          clear hK K
          try simp only [Act.put, List.setIfInBounds_toArray, List.set_cons_zero, List.set_cons_succ]
          refine wpAnyH_take (i := 12) (v := ?_) (by simp only [List.getElem?_toArray, List.getElem?_cons_succ, List.getElem?_cons_zero] <;> exact rfl) (by kernel_rfl) (by kernel_rfl) (by kernel_rfl) (fun _ _ _ h => h) (Or.inl ⟨by rfl, ?_⟩) hS ?_
          rotate_left
          focus (intro w' hw'; go_simp; all_goals with_reducible rfl)
          try simp only [Act.put, List.setIfInBounds_toArray, List.set_cons_zero, List.set_cons_succ]
          refine wpAnyH_take (i := 13) (v := ?_) (by simp only [List.getElem?_toArray, List.getElem?_cons_succ, List.getElem?_cons_zero] <;> exact rfl) (by kernel_rfl) (by kernel_rfl) (by kernel_rfl) (fun _ _ _ h => h) (Or.inl ⟨by rfl, ?_⟩) hS ?_
          rotate_left
          focus (intro w' hw'; go_simp; all_goals with_reducible rfl)
          try simp only [Act.put, List.setIfInBounds_toArray, List.set_cons_zero, List.set_cons_succ]
          refine wpAnyH_done (by kernel_rfl) ?_ _
          refine NoPanic.normal ?_
          go_wp2
          go_meet
          exact ⟨u, A, cp, rfl, rfl, rfl, hu, hz, hS⟩)
        exact AllReadyH.nil)
      exact AllReadyH.nil)
    exact AllReadyH.nil
  obtain ⟨w5, hw5⟩ : ∃ x, x = wc := ⟨_, rfl⟩
  subst hw5
  obtain ⟨z, A5, c5, rfl, rfl, rfl, hk5, hz5, hb5⟩ := hcut
  have Kx5 := hide (Kx4.out.keep hb5)
  have Ky5 := hide (KN4.out.keep hb5)
  have Er25 := hide (Er24.out.below hb5)
  have Er35 := hide (Er34.out.below hb5)
  have Ezx5 := hide (Ezx4.out.keep hb5)
  have Ezy5 := hide (Ezy4.out.keep hb5)
  have B5 := hide (B4.out.trans (hb5.mono B4.out.size))
  clear hb5 Kx4 KN4 Er24 Er34 Ezx4 Ezy4 B4
  have KN5 := hide hk5
  have Z5 := hide hz5
  clear hk5 hz5
  clear Er25
  go_upto_region 8 with (fail)
  go_cut [18, 19, 20] (fun s1 s2 s3 wx => PieceR w5 wx vg VT vd vn vl vc s1 s2 s3)
  case first =>
    refine wp_region_noPanic ?_
    refine wp_region_held_drew (S := fun w' => Below w5.heap.size w5 w') (by kernel_rfl) (Below.refl _ _).drew (fun hS => ?_)
    refine wpAnyH_take (i := 0) (by simp only [List.getElem?_toArray, List.getElem?_cons_zero] <;> exact rfl) (by kernel_rfl) (by kernel_rfl) (by kernel_rfl) (fun _ _ _ h => h) (rgs_yields_blk (by rfl) 26 (.tmp 15) (by rfl) z (by rfl) 26 #[.int .i64 zg, .string ZT, .bool zd] _ (fun w' hw' => KN5.out.keep hw') Try.underlying26 rfl st_size) hS ?_
    try simp only [Act.put, List.setIfInBounds_toArray, List.set_cons_zero, List.set_cons_succ]
    refine wpAnyH_take (i := 1) (v := ?_) (by simp only [List.getElem?_toArray, List.getElem?_cons_succ, List.getElem?_cons_zero] <;> exact rfl) (by kernel_rfl) (by kernel_rfl) (by kernel_rfl) (fun _ _ _ h => h) (Or.inl ⟨by rfl, ?_⟩) hS ?_
    rotate_left
    focus (intro w' hw'; go_simp; all_goals with_reducible rfl)
    try simp only [Act.put, List.setIfInBounds_toArray, List.set_cons_zero, List.set_cons_succ]
    refine wpAnyH_take (i := 2) (v := ?_) (by simp only [List.getElem?_toArray, List.getElem?_cons_succ, List.getElem?_cons_zero] <;> exact rfl) (by kernel_rfl) (by kernel_rfl) (by kernel_rfl) (fun _ _ _ h => h) (Or.inl ⟨by rfl, ?_⟩) hS ?_
    rotate_left
    focus (intro w' hw'; go_simp; all_goals with_reducible rfl)
    try simp only [Act.put, List.setIfInBounds_toArray, List.set_cons_zero, List.set_cons_succ]
    refine wpAnyH_take (i := 3) (v := ?_) (by simp only [List.getElem?_toArray, List.getElem?_cons_succ, List.getElem?_cons_zero] <;> exact rfl) (by kernel_rfl) (by kernel_rfl) (by kernel_rfl) (fun _ _ _ h => h) (Or.inl ⟨by rfl, ?_⟩) hS ?_
    rotate_left
    focus (intro w' hw'; have kk := HS3.out; go_simp; all_goals with_reducible rfl)
    try simp only [Act.put, List.setIfInBounds_toArray, List.set_cons_zero, List.set_cons_succ]
    generalize w5.drew = wd at hS ⊢
    refine wpAnyH_ready (rs := [4, 9]) (by kernel_rfl) (by simp) ?_
    refine AllReadyH.cons (o := _) (by simp only [List.getElem?_toArray, List.getElem?_cons_succ, List.getElem?_cons_zero] <;> exact rfl) (fun K hK => ?_) ?_
    focus (
      go_simp
      go_at_call 7
      refine (HC3.out _ (Er35.out.below hS)).mono ?_
      rintro e wc ⟨v, rfl, hown, hb⟩
      obtain ⟨A, cp, rfl, hz⟩ := own_zl hown
      have hS := hS.trans (hb.mono hS.size)
      clear hb hown
      go_wp2_with fail
      refine hK.out _ _ hS (fun _ => ?_)
      clear hK K
      try simp only [Act.put, List.setIfInBounds_toArray, List.set_cons_zero, List.set_cons_succ]
      refine wpAnyH_take (i := 5) (v := ?_) (by simp only [List.getElem?_toArray, List.getElem?_cons_succ, List.getElem?_cons_zero] <;> exact rfl) (by kernel_rfl) (by kernel_rfl) (by kernel_rfl) (fun _ _ _ h => h) (Or.inl ⟨by rfl, ?_⟩) hS ?_
      rotate_left
      focus (intro w' hw'; go_simp; all_goals with_reducible rfl)
      try simp only [Act.put, List.setIfInBounds_toArray, List.set_cons_zero, List.set_cons_succ]
      refine wpAnyH_take (i := 6) (v := ?_) (by simp only [List.getElem?_toArray, List.getElem?_cons_succ, List.getElem?_cons_zero] <;> exact rfl) (by kernel_rfl) (by kernel_rfl) (by kernel_rfl) (fun _ _ _ h => h) (Or.inl ⟨by rfl, ?_⟩) hS ?_
      rotate_left
      focus (intro w' hw'; go_simp; all_goals with_reducible rfl)
      try simp only [Act.put, List.setIfInBounds_toArray, List.set_cons_zero, List.set_cons_succ]
      refine wpAnyH_take (i := 7) (v := ?_) (by simp only [List.getElem?_toArray, List.getElem?_cons_succ, List.getElem?_cons_zero] <;> exact rfl) (by kernel_rfl) (by kernel_rfl) (by kernel_rfl) (fun _ _ _ h => h) (Or.inl ⟨by rfl, ?_⟩) hS ?_
      rotate_left
      focus (intro w' hw'; go_simp; all_goals with_reducible rfl)
      try simp only [Act.put, List.setIfInBounds_toArray, List.set_cons_zero, List.set_cons_succ]
      refine wpAnyH_take (i := 8) (v := ?_) (by simp only [List.getElem?_toArray, List.getElem?_cons_succ, List.getElem?_cons_zero] <;> exact rfl) (by kernel_rfl) (by kernel_rfl) (by kernel_rfl) (fun _ _ _ h => h) (Or.inl ⟨by rfl, ?_⟩) hS ?_
      rotate_left
      focus (intro w' hw'; go_simp; all_goals with_reducible rfl)
      try simp only [Act.put, List.setIfInBounds_toArray, List.set_cons_zero, List.set_cons_succ]
      refine wpAnyH_ready (rs := [9]) (by kernel_rfl) (by simp) ?_
      refine AllReadyH.cons (o := _) (by simp only [List.getElem?_toArray, List.getElem?_cons_succ, List.getElem?_cons_zero] <;> exact rfl) (fun K hK => ?_) ?_
      focus (
        go_simp
        refine hK.out _ _ (hS.alloc hS.size _) (fun _ => ?_)
        have hu := BlkIs.new wc 26 #[.int .i64 0, .string ⟨#[]⟩, .bool false]
        obtain ⟨u, hu0⟩ : ∃ u, u = wc.heap.size := ⟨_, rfl⟩
        have hul : w5.heap.size ≤ u := by rw [hu0]; exact hS.size
        have hS := hS.alloc hS.size (.cells #[.int .i64 0, .string ⟨#[]⟩, .bool false] 26)
        have hz := hz.alloc (.cells #[.int .i64 0, .string ⟨#[]⟩, .bool false] 26)
        rw [← hu0] at hu ⊢
        generalize wc.alloc (.cells #[.int .i64 0, .string ⟨#[]⟩, .bool false] 26) = wa at hS hu hz ⊢
        clear hu0 hK K
        try simp only [Act.put, List.setIfInBounds_toArray, List.set_cons_zero, List.set_cons_succ]
        refine wpAnyH_ready (rs := [10]) (by kernel_rfl) (by simp) ?_
        refine AllReadyH.cons (o := _) (by simp only [List.getElem?_toArray, List.getElem?_cons_succ, List.getElem?_cons_zero] <;> exact rfl) (fun K hK => ?_) ?_
        focus (
          refine rgs_store_blk (by rfl) 26 (.tmp 18) (.tmp 74) (by rfl) u #[.int .i64 vg, .string VT, .bool vd] #[.int .i64 0, .string ⟨#[]⟩, .bool false] 26 (by rfl) (by rfl) hu st_size rfl (st_one _ _ _) ?_
          have hz := hz.kb ((KB.refl (· = u) wa).setRow (fun _ => rfl) #[.int .i64 vg, .string VT, .bool vd]) (zl_ne hz hu)
          have hS := below_setRow hS hul #[.int .i64 vg, .string VT, .bool vd]
          have hu := hu.row #[.int .i64 vg, .string VT, .bool vd]
          refine hK.out _ _ hS (fun _ => ?_)
          clear hK K
          try simp only [Act.put, List.setIfInBounds_toArray, List.set_cons_zero, List.set_cons_succ]
          refine wpAnyH_take (i := 11) (v := ?_) (by simp only [List.getElem?_toArray, List.getElem?_cons_succ, List.getElem?_cons_zero] <;> exact rfl) (by kernel_rfl) (by kernel_rfl) (by kernel_rfl) (fun _ _ _ h => h) (Or.inl ⟨by rfl, ?_⟩) hS ?_
          rotate_left
          focus (intro w' hw'; go_simp; all_goals with_reducible rfl)
          try simp only [Act.put, List.setIfInBounds_toArray, List.set_cons_zero, List.set_cons_succ]
          refine wpAnyH_take (i := 12) (v := ?_) (by simp only [List.getElem?_toArray, List.getElem?_cons_succ, List.getElem?_cons_zero] <;> exact rfl) (by kernel_rfl) (by kernel_rfl) (by kernel_rfl) (fun _ _ _ h => h) (Or.inl ⟨by rfl, ?_⟩) hS ?_
          rotate_left
          focus (intro w' hw'; go_simp; all_goals with_reducible rfl)
          try simp only [Act.put, List.setIfInBounds_toArray, List.set_cons_zero, List.set_cons_succ]
          refine wpAnyH_done (by kernel_rfl) ?_ _
          refine NoPanic.normal ?_
          go_wp2
          go_meet
          exact ⟨u, A, cp, rfl, rfl, rfl, hu, hz, hS⟩)
        exact AllReadyH.nil)
      exact AllReadyH.nil)
    refine AllReadyH.cons (o := _) (by simp only [List.getElem?_toArray, List.getElem?_cons_succ, List.getElem?_cons_zero] <;> exact rfl) (fun K hK => ?_) ?_
    focus (
      go_simp
      refine hK.out _ _ (hS.alloc hS.size _) (fun _ => ?_)
      have hu := BlkIs.new wd 26 #[.int .i64 0, .string ⟨#[]⟩, .bool false]
      obtain ⟨u, hu0⟩ : ∃ u, u = wd.heap.size := ⟨_, rfl⟩
      have hul : w5.heap.size ≤ u := by rw [hu0]; exact hS.size
      have hS := hS.alloc hS.size (.cells #[.int .i64 0, .string ⟨#[]⟩, .bool false] 26)
      rw [← hu0] at hu ⊢
      generalize wd.alloc (.cells #[.int .i64 0, .string ⟨#[]⟩, .bool false] 26) = wa at hS hu ⊢
      clear hu0 hK K
      try simp only [Act.put, List.setIfInBounds_toArray, List.set_cons_zero, List.set_cons_succ]
      refine wpAnyH_ready (rs := [4]) (by kernel_rfl) (by simp) ?_
      refine AllReadyH.cons (o := _) (by simp only [List.getElem?_toArray, List.getElem?_cons_succ, List.getElem?_cons_zero] <;> exact rfl) (fun K hK => ?_) ?_
      focus (
        go_simp
        go_at_call 7
        refine (HC3.out _ (Er35.out.below hS)).mono ?_
        rintro e wc ⟨v, rfl, hown, hb⟩
        obtain ⟨A, cp, rfl, hz⟩ := own_zl hown
        have hu := hu.keep hb
        have hS := hS.trans (hb.mono hS.size)
        clear hb hown
        go_wp2_with fail
        refine hK.out _ _ hS (fun _ => ?_)
        clear hK K
        try simp only [Act.put, List.setIfInBounds_toArray, List.set_cons_zero, List.set_cons_succ]
        refine wpAnyH_take (i := 5) (v := ?_) (by simp only [List.getElem?_toArray, List.getElem?_cons_succ, List.getElem?_cons_zero] <;> exact rfl) (by kernel_rfl) (by kernel_rfl) (by kernel_rfl) (fun _ _ _ h => h) (Or.inl ⟨by rfl, ?_⟩) hS ?_
        rotate_left
        focus (intro w' hw'; go_simp; all_goals with_reducible rfl)
        try simp only [Act.put, List.setIfInBounds_toArray, List.set_cons_zero, List.set_cons_succ]
        refine wpAnyH_take (i := 6) (v := ?_) (by simp only [List.getElem?_toArray, List.getElem?_cons_succ, List.getElem?_cons_zero] <;> exact rfl) (by kernel_rfl) (by kernel_rfl) (by kernel_rfl) (fun _ _ _ h => h) (Or.inl ⟨by rfl, ?_⟩) hS ?_
        rotate_left
        focus (intro w' hw'; go_simp; all_goals with_reducible rfl)
        try simp only [Act.put, List.setIfInBounds_toArray, List.set_cons_zero, List.set_cons_succ]
        refine wpAnyH_take (i := 7) (v := ?_) (by simp only [List.getElem?_toArray, List.getElem?_cons_succ, List.getElem?_cons_zero] <;> exact rfl) (by kernel_rfl) (by kernel_rfl) (by kernel_rfl) (fun _ _ _ h => h) (Or.inl ⟨by rfl, ?_⟩) hS ?_
        rotate_left
        focus (intro w' hw'; go_simp; all_goals with_reducible rfl)
        try simp only [Act.put, List.setIfInBounds_toArray, List.set_cons_zero, List.set_cons_succ]
        refine wpAnyH_take (i := 8) (v := ?_) (by simp only [List.getElem?_toArray, List.getElem?_cons_succ, List.getElem?_cons_zero] <;> exact rfl) (by kernel_rfl) (by kernel_rfl) (by kernel_rfl) (fun _ _ _ h => h) (Or.inl ⟨by rfl, ?_⟩) hS ?_
        rotate_left
        focus (intro w' hw'; go_simp; all_goals with_reducible rfl)
        try simp only [Act.put, List.setIfInBounds_toArray, List.set_cons_zero, List.set_cons_succ]
        refine wpAnyH_ready (rs := [10]) (by kernel_rfl) (by simp) ?_
        refine AllReadyH.cons (o := _) (by simp only [List.getElem?_toArray, List.getElem?_cons_succ, List.getElem?_cons_zero] <;> exact rfl) (fun K hK => ?_) ?_
        focus (
          refine rgs_store_blk (by rfl) 26 (.tmp 18) (.tmp 74) (by rfl) u #[.int .i64 vg, .string VT, .bool vd] #[.int .i64 0, .string ⟨#[]⟩, .bool false] 26 (by rfl) (by rfl) hu st_size rfl (st_one _ _ _) ?_
          have hz := hz.kb ((KB.refl (· = u) wc).setRow (fun _ => rfl) #[.int .i64 vg, .string VT, .bool vd]) (zl_ne hz hu)
          have hS := below_setRow hS hul #[.int .i64 vg, .string VT, .bool vd]
          have hu := hu.row #[.int .i64 vg, .string VT, .bool vd]
          refine hK.out _ _ hS (fun _ => ?_)
          clear hK K
          try simp only [Act.put, List.setIfInBounds_toArray, List.set_cons_zero, List.set_cons_succ]
          refine wpAnyH_take (i := 11) (v := ?_) (by simp only [List.getElem?_toArray, List.getElem?_cons_succ, List.getElem?_cons_zero] <;> exact rfl) (by kernel_rfl) (by kernel_rfl) (by kernel_rfl) (fun _ _ _ h => h) (Or.inl ⟨by rfl, ?_⟩) hS ?_
          rotate_left
          focus (intro w' hw'; go_simp; all_goals with_reducible rfl)
          try simp only [Act.put, List.setIfInBounds_toArray, List.set_cons_zero, List.set_cons_succ]
          refine wpAnyH_take (i := 12) (v := ?_) (by simp only [List.getElem?_toArray, List.getElem?_cons_succ, List.getElem?_cons_zero] <;> exact rfl) (by kernel_rfl) (by kernel_rfl) (by kernel_rfl) (fun _ _ _ h => h) (Or.inl ⟨by rfl, ?_⟩) hS ?_
          rotate_left
          focus (intro w' hw'; go_simp; all_goals with_reducible rfl)
          try simp only [Act.put, List.setIfInBounds_toArray, List.set_cons_zero, List.set_cons_succ]
          refine wpAnyH_done (by kernel_rfl) ?_ _
          refine NoPanic.normal ?_
          go_wp2
          go_meet
          exact ⟨u, A, cp, rfl, rfl, rfl, hu, hz, hS⟩)
        exact AllReadyH.nil)
      exact AllReadyH.nil)
    exact AllReadyH.nil
  obtain ⟨w6, hw6⟩ : ∃ x, x = wc := ⟨_, rfl⟩
  subst hw6
  obtain ⟨v, A6, c6, rfl, rfl, rfl, hk6, hz6, hb6⟩ := hcut
  have Kx6 := hide (Kx5.out.keep hb6)
  have Ky6 := hide (Ky5.out.keep hb6)
  have Kz6 := hide (KN5.out.keep hb6)
  have Er36 := hide (Er35.out.below hb6)
  have Ezx6 := hide (Ezx5.out.keep hb6)
  have Ezy6 := hide (Ezy5.out.keep hb6)
  have Ezz6 := hide (Z5.out.keep hb6)
  have B6 := hide (B5.out.trans (hb6.mono B5.out.size))
  clear hb6 Kx5 Ky5 KN5 Er35 Ezx5 Ezy5 Z5 B5
  have KN6 := hide hk6
  have Z6 := hide hz6
  clear hk6 hz6
  clear Er36
  go_upto_region 9 with (fail)
  go_upto_region 10 with (first | (at_builtin; refine wpList_append_zl _ rfl (.tmp 77) (.tmp 78) rfl w6.heap.size _ 0 [] rfl (own_made5 w6 w6.heap.size (Nat.le_refl _) _) A3 yn c3 yl rfl (Ezy6.out.keep ((Below.refl w6.heap.size w6).alloc (Nat.le_refl _) (.cells #[] 53))) (by have := HN.out; omega) (by simp) ?_; intro v1_ w1_ hown1_ hg1_; have BW1_ := hide (own_below_z (own_made5 w6 w6.heap.size (Nat.le_refl _) _) ((Below.refl w6.heap.size w6).alloc (Nat.le_refl _) (.cells #[] 53)) (Nat.le_refl _) (Nat.le_refl _) hg1_); rw [Nat.zero_add, List.nil_append] at hown1_; have O1_ := hide hown1_; clear hown1_ hg1_) | (at_builtin; refine wpList_append_zl _ rfl (.tmp 79) (.tmp 80) rfl w6.heap.size v1_ yn yl rfl O1_.out A5 zn c5 zl rfl (Ezz6.out.keep BW1_.out) (by have := HN.out; omega) BW1_.out.size ?_; intro v2_ w2_ hown2_ hg2_; have BW2_ := hide (own_below_z O1_.out BW1_.out (Nat.le_refl _) (Nat.le_refl _) hg2_); skip; have O2_ := hide hown2_; clear hown2_ hg2_) | (at_builtin; refine wpList_append_zl _ rfl (.tmp 81) (.tmp 82) rfl w6.heap.size v2_ (yn + zn) (yl ++ zl) rfl O2_.out A6 vn c6 vl rfl (Z6.out.keep BW2_.out) (by have := HN.out; omega) BW2_.out.size ?_; intro v3_ w3_ hown3_ hg3_; have BW3_ := hide (own_below_z O2_.out BW2_.out (Nat.le_refl _) (Nat.le_refl _) hg3_); rw [Nat.add_assoc, List.append_assoc] at hown3_; have O3_ := hide hown3_; clear hown3_ hg3_))
  clear O1_ O2_ BW1_ BW2_
  obtain ⟨AL, cL, rfl, hzl_⟩ := own_zl O3_.out
  have hb_ := BW3_.out
  clear O3_ BW3_
  obtain ⟨w7, hw7⟩ : ∃ x, x = w3_ := ⟨_, rfl⟩
  subst hw7
  have Kx7 := hide (Kx6.out.keep hb_)
  have Ky7 := hide (Ky6.out.keep hb_)
  have Kz7 := hide (Kz6.out.keep hb_)
  have Kv7 := hide (KN6.out.keep hb_)
  have Ezx7 := hide (Ezx6.out.keep hb_)
  have Ezy7 := hide (Ezy6.out.keep hb_)
  have Ezz7 := hide (Ezz6.out.keep hb_)
  have Ezv7 := hide (Z6.out.keep hb_)
  have B7 := hide (B6.out.trans (hb_.mono B6.out.size))
  clear hb_ Kx6 Ky6 Kz6 KN6 Ezx6 Ezy6 Ezz6 Z6 B6
  have ZL7 := hide hzl_
  clear hzl_
  clear Ezy7
  clear Ezz7
  clear Ezv7
  clear Ky7
  clear Kz7
  obtain ⟨x_0, x_1, x_2⟩ := st_cells Kx7.out
  obtain ⟨v_0, v_1, v_2⟩ := st_cells Kv7.out
  go_wp2_with fail
  clear x_0 x_1 x_2 v_0 v_1 v_2
  refine (lw_raws AL (yn + (zn + vn)) cL (yl ++ (zl ++ vl)) _ ZL7.out (by have := HN.out; omega)).mono ?_
  rintro e w8 ⟨AR, cR, rfl, hzr, hb8⟩
  have Kx8 := hide (Kx7.out.keep hb8)
  have Kv8 := hide (Kv7.out.keep hb8)
  have Ezx8 := hide (Ezx7.out.keep hb8)
  have El8 := hide (ZL7.out.keep hb8)
  have B8 := hide (B7.out.trans (hb8.mono B7.out.size))
  clear hb8 Kx7 Kv7 Ezx7 ZL7 B7
  have ZR := hide hzr
  clear hzr
  obtain ⟨x_0, x_1, x_2⟩ := st_cells Kx8.out
  obtain ⟨v_0, v_1, v_2⟩ := st_cells Kv8.out
  go_wp2_with fail
  clear x_0 x_1 x_2 v_0 v_1 v_2
  refine (lw_raws A1 (yn + (zn + vn)) c1 (yl ++ (zl ++ vl)) _ Ezx8.out (by have := HN.out; omega)).mono ?_
  rintro e w9 ⟨AS, cS, rfl, hzs, hb9⟩
  have Kx9 := hide (Kx8.out.keep hb9)
  have Kv9 := hide (Kv8.out.keep hb9)
  have Ezx9 := hide (Ezx8.out.keep hb9)
  have El9 := hide (El8.out.keep hb9)
  have Er19 := hide (ZR.out.keep hb9)
  have B9 := hide (B8.out.trans (hb9.mono B8.out.size))
  clear hb9 Kx8 Kv8 Ezx8 El8 ZR B8
  have ZS := hide hzs
  clear hzs
  obtain ⟨x_0, x_1, x_2⟩ := st_cells Kx9.out
  obtain ⟨v_0, v_1, v_2⟩ := st_cells Kv9.out
  go_wp2_with fail
  clear x_0 x_1 x_2 v_0 v_1 v_2
  refine (rf_SameRaws AR AS (yn + (zn + vn)) (yn + (zn + vn)) cR cS (yl ++ (zl ++ vl)) (yl ++ (zl ++ vl)) _ Er19.out ZS.out (by have := HN.out; omega) (by have := HN.out; omega)).mono ?_
  rintro e w10 ⟨rfl, hb10⟩
  have Kx10 := hide (Kx9.out.keep hb10)
  have Kv10 := hide (Kv9.out.keep hb10)
  have Ezx10 := hide (Ezx9.out.keep hb10)
  have El10 := hide (El9.out.keep hb10)
  have Er110 := hide (Er19.out.keep hb10)
  have Er210 := hide (ZS.out.keep hb10)
  have B10 := hide (B9.out.trans (hb10.mono B9.out.size))
  clear hb10 Kx9 Kv9 Ezx9 El9 Er19 ZS B9
  rw [sameR_yes rfl]
  obtain ⟨x_0, x_1, x_2⟩ := st_cells Kx10.out
  obtain ⟨v_0, v_1, v_2⟩ := st_cells Kv10.out
  go_wp2_with fail
  clear x_0 x_1 x_2 v_0 v_1 v_2
  refine (HCK.out _).mono ?_
  rintro e w11 ⟨rfl, hb11⟩
  have Kx11 := hide (Kx10.out.keep hb11)
  have Kv11 := hide (Kv10.out.keep hb11)
  have Ezx11 := hide (Ezx10.out.keep hb11)
  have El11 := hide (El10.out.keep hb11)
  have Er111 := hide (Er110.out.keep hb11)
  have Er211 := hide (Er210.out.keep hb11)
  have B11 := hide (B10.out.trans (hb11.mono B10.out.size))
  clear hb11 Kx10 Kv10 Ezx10 El10 Er110 Er210 B10
  obtain ⟨x_0, x_1, x_2⟩ := st_cells Kx11.out
  obtain ⟨v_0, v_1, v_2⟩ := st_cells Kv11.out
  go_wp2_with fail
  clear x_0 x_1 x_2 v_0 v_1 v_2
  refine (HAW.out _).mono ?_
  rintro e w12 ⟨rfl, hb12⟩
  have Kx12 := hide (Kx11.out.keep hb12)
  have Kv12 := hide (Kv11.out.keep hb12)
  have Ezx12 := hide (Ezx11.out.keep hb12)
  have El12 := hide (El11.out.keep hb12)
  have Er112 := hide (Er111.out.keep hb12)
  have Er212 := hide (Er211.out.keep hb12)
  have B12 := hide (B11.out.trans (hb12.mono B11.out.size))
  clear hb12 Kx11 Kv11 Ezx11 El11 Er111 Er211 B11
  obtain ⟨x_0, x_1, x_2⟩ := st_cells Kx12.out
  obtain ⟨v_0, v_1, v_2⟩ := st_cells Kv12.out
  go_wp2_with fail
  go_ret
  exact ⟨rfl, B12.out⟩
end Go.Proofs.Ytojcjmjohibpaaa.splitPieces
