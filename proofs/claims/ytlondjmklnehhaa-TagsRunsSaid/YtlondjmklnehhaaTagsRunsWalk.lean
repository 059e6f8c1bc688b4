/-
  TagsRuns: its walk (written by gen25runs.py).
-/
import Derived.Test.YtlondjmklnehhaaTgAwake
import Derived.Test.YtlondjmklnehhaaTgLaw
import Derived.Test.YtlondjmklnehhaaTgSame
import Derived.Test.YtlondjmklnehhaaRtRun
import Derived.Test.YtlondjmklnehhaaRtNear
namespace Go.Proofs.Ytlondjmklnehhaa.tagsRuns
set_option linter.unusedSimpArgs false
set_option linter.unusedVariables false
open Go.RowKit

set_option maxRecDepth 100000 in
set_option maxHeartbeats 6400000 in
theorem walk_at (A : Option Addr) (n c : Nat) (l : List Tg) (B : Option Addr) (N d : Nat) (cs : List Int) (n1 n2 n3 : Int) (w : World) (hl : SL tgF w A n c l) (hc : NL .i64 w B N d cs) :
    Calls Try.prog 4 #[.slice A n c, .slice B N d, .agg #[.int .i64 n1, .int .i64 n2, .int .i64 n3]] w fun e w' => e = .returned (.bool true) ∧ Below w.heap.size w w' := by
  have HAW := hide aw_tags
  have HMX := hide hl.max
  have HLE := hide hl.le
  have HMC := hide hc.max
  have HLC := hide hc.le
  have HLN := hide hl.len
  obtain ⟨g, hg⟩ : ∃ g, g = w.heap.size := ⟨_, rfl⟩
  have HG := hide hg.symm
  obtain ⟨W, hW⟩ : ∃ W, w.alloc (.cells #[.int .i64 n1, .int .i64 n2, .int .i64 n3] 46) = W := ⟨_, rfl⟩
  have HX := hide (show BlkIs W g 46 #[.int .i64 n1, .int .i64 n2, .int .i64 n3] by rw [← hW, hg]; exact BlkIs.new w _ _)
  have HB := hide (show Below w.heap.size w W by rw [← hW]; exact bel1 w _)
  have HL := hide (show SL tgF W A n c l by rw [← hW]; exact hl.alloc _)
  have HC := hide (show NL .i64 W B N d cs by rw [← hW]; exact hc.keep (bel1 w _))
  have HW := hide hW
  clear hg hW hl hc
  by_cases hn : 12 < (n : Int)
  · have kn : decide (12 < (n : Int)) = true := decide_eq_true hn
    clear hn
    go_enter Try.func4, Try.ntmps4
    go_upto_region 1 with (fail)
    rw [HG.out, HW.out]
    go_wp2_with fail
    refine (HAW.out _).mono ?_
    rintro e w9 ⟨rfl, hb⟩
    have HB9 := hide (HB.out.trans (hb.mono HB.out.size))
    clear hb
    go_wp2_with fail
    go_ret
    exact ⟨rfl, HB9.out⟩
  have kn : decide (12 < (n : Int)) = false := decide_eq_false hn
  by_cases hN : 60 < (N : Int)
  · have kN : decide (60 < (N : Int)) = true := decide_eq_true hN
    clear hn hN
    go_enter Try.func4, Try.ntmps4
    go_upto_region 1 with (fail)
    rw [HG.out, HW.out]
    go_wp2_with fail
    refine (HAW.out _).mono ?_
    rintro e w9 ⟨rfl, hb⟩
    have HB9 := hide (HB.out.trans (hb.mono HB.out.size))
    clear hb
    go_wp2_with fail
    go_ret
    exact ⟨rfl, HB9.out⟩
  have kN : decide (60 < (N : Int)) = false := decide_eq_false hN
  have HN := hide (show (n : Int) ≤ 1000 by omega)
  have HNN := hide (show (N : Int) ≤ 1000 by omega)
  have HNM := hide (show (N : Int) ≤ 1000000 by omega)
  clear hn hN
  go_enter Try.func4, Try.ntmps4
  go_upto_region 1 with (fail)
  rw [HG.out, HW.out]
  go_wp2_with fail
  refine (lt_own A n c l _ HL.out HN.out).mono ?_
  rintro e w1 ⟨A1, c1, rfl, ho, hb⟩
  have HX_ := hide (HX.out.keep hb)
  clear HX
  have HX := hide HX_.out
  clear HX_
  have HL_ := hide (HL.out.keep hb)
  clear HL
  have HL := hide HL_.out
  clear HL_
  have HC_ := hide (HC.out.keep hb)
  clear HC
  have HC := hide HC_.out
  clear HC_
  have HB_ := hide (HB.out.trans (hb.mono HB.out.size))
  clear HB
  have HB := hide HB_.out
  clear HB_
  clear hb
  have HA := hide (SL.of_own (F := tgF) ho)
  clear ho
  go_wp2_with fail
  refine (tg_Run A1 n c1 l B N d cs _ HA.out HC.out HN.out HNN.out).mono ?_
  rintro e w2 ⟨A2, c2, B2, d2, rfl, hs, hm, hb⟩
  have HX_ := hide (HX.out.keep hb)
  clear HX
  have HX := hide HX_.out
  clear HX_
  have HL_ := hide (HL.out.keep hb)
  clear HL
  have HL := hide HL_.out
  clear HL_
  have HC_ := hide (HC.out.keep hb)
  clear HC
  have HC := hide HC_.out
  clear HC_
  have HB_ := hide (HB.out.trans (hb.mono HB.out.size))
  clear HB
  have HB := hide HB_.out
  clear HB_
  clear hb
  have HR := hide hs
  have HS := hide hm
  clear hs hm HA
  go_wp2_with fail
  refine (rt_Run A n c l B N d cs _ HL.out HC.out HN.out HNN.out).mono ?_
  rintro e w3 ⟨A3, c3, B3, d3, rfl, hs, hm, hb⟩
  have HX_ := hide (HX.out.keep hb)
  clear HX
  have HX := hide HX_.out
  clear HX_
  have HL_ := hide (HL.out.keep hb)
  clear HL
  have HL := hide HL_.out
  clear HL_
  have HC_ := hide (HC.out.keep hb)
  clear HC
  have HC := hide HC_.out
  clear HC_
  have HR_ := hide (HR.out.keep hb)
  clear HR
  have HR := hide HR_.out
  clear HR_
  have HS_ := hide (HS.out.keep hb)
  clear HS
  have HS := hide HS_.out
  clear HS_
  have HB_ := hide (HB.out.trans (hb.mono HB.out.size))
  clear HB
  have HB := hide HB_.out
  clear HB_
  clear hb
  have HU := hide hs
  have HV := hide hm
  clear hs hm
  go_wp2_with fail
  refine (lt_back A2 n c2 _ _ HR.out HN.out).mono ?_
  rintro e w4 ⟨A4, c4, rfl, ho, hb⟩
  have HX_ := hide (HX.out.keep hb)
  clear HX
  have HX := hide HX_.out
  clear HX_
  have HL_ := hide (HL.out.keep hb)
  clear HL
  have HL := hide HL_.out
  clear HL_
  have HC_ := hide (HC.out.keep hb)
  clear HC
  have HC := hide HC_.out
  clear HC_
  have HR_ := hide (HR.out.keep hb)
  clear HR
  have HR := hide HR_.out
  clear HR_
  have HS_ := hide (HS.out.keep hb)
  clear HS
  have HS := hide HS_.out
  clear HS_
  have HU_ := hide (HU.out.keep hb)
  clear HU
  have HU := hide HU_.out
  clear HU_
  have HV_ := hide (HV.out.keep hb)
  clear HV
  have HV := hide HV_.out
  clear HV_
  have HB_ := hide (HB.out.trans (hb.mono HB.out.size))
  clear HB
  have HB := hide HB_.out
  clear HB_
  clear hb
  have HA := hide (SL.of_own (F := tgF) ho)
  clear ho HR
  go_wp2_with fail
  refine (rt_Same A4 n c4 _ A3 n c3 _ _ HA.out HU.out HN.out rfl).mono ?_
  rintro e w5 ⟨rfl, hb⟩
  have HX_ := hide (HX.out.keep hb)
  clear HX
  have HX := hide HX_.out
  clear HX_
  have HL_ := hide (HL.out.keep hb)
  clear HL
  have HL := hide HL_.out
  clear HL_
  have HC_ := hide (HC.out.keep hb)
  clear HC
  have HC := hide HC_.out
  clear HC_
  have HS_ := hide (HS.out.keep hb)
  clear HS
  have HS := hide HS_.out
  clear HS_
  have HU_ := hide (HU.out.keep hb)
  clear HU
  have HU := hide HU_.out
  clear HU_
  have HV_ := hide (HV.out.keep hb)
  clear HV
  have HV := hide HV_.out
  clear HV_
  have HB_ := hide (HB.out.trans (hb.mono HB.out.size))
  clear HB
  have HB := hide HB_.out
  clear HB_
  clear hb
  clear HA HU
  have QI := hide (rd_SameInts B2 N d2 _ B3 N d3 _ _ HS.out HV.out HNM.out)
  rw [show decide ((runT l cs).2 = (runT l cs).2) = true from decide_eq_true rfl] at QI
  go_wp2_with fail
  refine (QI.out).mono ?_
  rintro e w6 ⟨rfl, hb⟩
  have HX_ := hide (HX.out.keep hb)
  clear HX
  have HX := hide HX_.out
  clear HX_
  have HL_ := hide (HL.out.keep hb)
  clear HL
  have HL := hide HL_.out
  clear HL_
  have HC_ := hide (HC.out.keep hb)
  clear HC
  have HC := hide HC_.out
  clear HC_
  have HS_ := hide (HS.out.keep hb)
  clear HS
  have HS := hide HS_.out
  clear HS_
  have HV_ := hide (HV.out.keep hb)
  clear HV
  have HV := hide HV_.out
  clear HV_
  have HB_ := hide (HB.out.trans (hb.mono HB.out.size))
  clear HB
  have HB := hide HB_.out
  clear HB_
  clear hb
  clear QI HS HV
  go_wp2_with fail
  refine (lt_own A n c l _ HL.out HN.out).mono ?_
  rintro e w7 ⟨A5, c5, rfl, ho, hb⟩
  have HX_ := hide (HX.out.keep hb)
  clear HX
  have HX := hide HX_.out
  clear HX_
  have HL_ := hide (HL.out.keep hb)
  clear HL
  have HL := hide HL_.out
  clear HL_
  have HC_ := hide (HC.out.keep hb)
  clear HC
  have HC := hide HC_.out
  clear HC_
  have HB_ := hide (HB.out.trans (hb.mono HB.out.size))
  clear HB
  have HB := hide HB_.out
  clear HB_
  clear hb
  have HA := hide (SL.of_own (F := tgF) ho)
  clear ho
  go_wp2_with fail
  refine (tg_First A5 n c5 l _ HA.out HN.out).mono ?_
  rintro e w8 ⟨rfl, hb⟩
  have HX_ := hide (HX.out.keep hb)
  clear HX
  have HX := hide HX_.out
  clear HX_
  have HL_ := hide (HL.out.keep hb)
  clear HL
  have HL := hide HL_.out
  clear HL_
  have HC_ := hide (HC.out.keep hb)
  clear HC
  have HC := hide HC_.out
  clear HC_
  have HB_ := hide (HB.out.trans (hb.mono HB.out.size))
  clear HB
  have HB := hide HB_.out
  clear HB_
  clear hb
  clear HA
  go_wp2_with fail
  refine (rt_First A n c l _ HL.out HN.out).mono ?_
  rintro e w9 ⟨rfl, hb⟩
  have HX_ := hide (HX.out.keep hb)
  clear HX
  have HX := hide HX_.out
  clear HX_
  have HL_ := hide (HL.out.keep hb)
  clear HL
  have HL := hide HL_.out
  clear HL_
  have HC_ := hide (HC.out.keep hb)
  clear HC
  have HC := hide HC_.out
  clear HC_
  have HB_ := hide (HB.out.trans (hb.mono HB.out.size))
  clear HB
  have HB := hide HB_.out
  clear HB_
  clear hb
  obtain ⟨fi, hfi⟩ : ∃ q, q = fstI l := ⟨_, rfl⟩
  rw [← hfi]
  clear hfi
  by_cases h2 : (n : Int) < 2
  · have k2 : decide ((n : Int) < 2) = true := decide_eq_true h2
    clear h2 kn kN
    go_wp2_with fail
    refine (HAW.out _).mono ?_
    rintro e w9 ⟨rfl, hb⟩
    have HB9 := hide (HB.out.trans (hb.mono HB.out.size))
    clear hb
    go_wp2_with fail
    go_ret
    exact ⟨rfl, HB9.out⟩
  have k2 : decide ((n : Int) < 2) = false := decide_eq_false h2
  have hn0 : 0 < n := by omega
  have hn1 : 1 < n := by omega
  have hn2 : (1 : Int) < (n : Int) := by omega
  have hn3 : (0 : Int) < (n : Int) := by omega
  clear h2
  go_upto_region 9 with (fail)
  generalize hWz : w9 = wz at HX HL HC HB ⊢
  clear hWz
  obtain ⟨x, b, off, hx, hA, hbl, s0, s1, s2, s3⟩ := tg_round HL.out hn0
  subst hA
  obtain ⟨y, b', off', hy, hA, _, r0, r1, r2, r3⟩ := tg_round HL.out hn1
  obtain ⟨rfl, rfl⟩ : b = b' ∧ off = off' := by injection hA with e; injection e with e1 e2; exact ⟨e1, e2⟩
  clear hA hx hy
  simp only [Nat.zero_mul, Nat.one_mul, Nat.add_zero] at s0 s1 s2 s3 r0 r1 r2 r3
  have S0 := hide s0
  have S1 := hide s1
  have S2 := hide s2
  have S3 := hide s3
  have R0 := hide r0
  have R1 := hide r1
  have R2 := hide r2
  have R3 := hide r3
  clear s0 s1 s2 s3 r0 r1 r2 r3 kn kN k2
  have QN := hide (fun w => tg_Near x y n1 n2 n3 w)
  have QM := hide (fun w => rt_Near x y n1 n2 n3 w)
  obtain ⟨nb, hnb⟩ : ∃ q, q = nearB x y n1 n2 n3 := ⟨_, rfl⟩
  rw [← hnb] at QN QM
  clear hnb
  obtain ⟨x1, x2, x3, x4⟩ := x
  obtain ⟨y1, y2, y3, y4⟩ := y
  simp only [Tg.cs] at QN QM
  refine wp_region_noPanic ?_
  refine wp_region_held_drew (S := fun w' => Below wz.heap.size wz w') (by kernel_rfl) (Below.refl _ _).drew (fun hS => ?_)
  generalize wz.drew = wd at hS ⊢
  refine wpAnyH_take (i := 0) (v := ?_) (by simp only [List.getElem?_toArray, List.getElem?_cons_succ, List.getElem?_cons_zero] <;> exact rfl) (by kernel_rfl) (by kernel_rfl) (by kernel_rfl) (fun _ _ _ h => h) (Or.inl ⟨by rfl, ?_⟩) hS ?_
  rotate_left
  focus (intro w' hw'; go_simp; all_goals with_reducible rfl)
  try simp only [Act.put, List.setIfInBounds_toArray, List.set_cons_zero, List.set_cons_succ]
  refine wpAnyH_take (i := 1) (v := ?_) (by simp only [List.getElem?_toArray, List.getElem?_cons_succ, List.getElem?_cons_zero] <;> exact rfl) (by kernel_rfl) (by kernel_rfl) (by kernel_rfl) (fun _ _ _ h => h) (Or.inl ⟨by rfl, ?_⟩) hS ?_
  rotate_left
  focus (intro w' hw'; go_simp; all_goals with_reducible rfl)
  try simp only [Act.put, List.setIfInBounds_toArray, List.set_cons_zero, List.set_cons_succ]
  refine wpAnyH_take (i := 2) (v := .agg #[.int .i64 x1, .int .i64 x2, .int .i64 x3, .int .i64 x4]) (by simp only [List.getElem?_toArray, List.getElem?_cons_succ, List.getElem?_cons_zero] <;> exact rfl) (by kernel_rfl) (by kernel_rfl) (by kernel_rfl) (fun _ _ _ h => h) (Or.inl ⟨by rfl, ?_⟩) hS ?_
  focus (intro w' hw'; have k0 := (hw'.cell (p := ⟨b, _, none⟩) hbl).trans S0.out; have k1 := (hw'.cell (p := ⟨b, _, none⟩) hbl).trans S1.out; have k2 := (hw'.cell (p := ⟨b, _, none⟩) hbl).trans S2.out; have k3 := (hw'.cell (p := ⟨b, _, none⟩) hbl).trans S3.out; go_simp)
  try simp only [Act.put, List.setIfInBounds_toArray, List.set_cons_zero, List.set_cons_succ]
  refine wpAnyH_take (i := 3) (v := ?_) (by simp only [List.getElem?_toArray, List.getElem?_cons_succ, List.getElem?_cons_zero] <;> exact rfl) (by kernel_rfl) (by kernel_rfl) (by kernel_rfl) (fun _ _ _ h => h) (Or.inl ⟨by rfl, ?_⟩) hS ?_
  rotate_left
  focus (intro w' hw'; go_simp; all_goals with_reducible rfl)
  try simp only [Act.put, List.setIfInBounds_toArray, List.set_cons_zero, List.set_cons_succ]
  refine wpAnyH_take (i := 4) (v := ?_) (by simp only [List.getElem?_toArray, List.getElem?_cons_succ, List.getElem?_cons_zero] <;> exact rfl) (by kernel_rfl) (by kernel_rfl) (by kernel_rfl) (fun _ _ _ h => h) (Or.inl ⟨by rfl, ?_⟩) hS ?_
  rotate_left
  focus (intro w' hw'; go_simp; all_goals with_reducible rfl)
  try simp only [Act.put, List.setIfInBounds_toArray, List.set_cons_zero, List.set_cons_succ]
  refine wpAnyH_take (i := 5) (v := .agg #[.int .i64 y1, .int .i64 y2, .int .i64 y3, .int .i64 y4]) (by simp only [List.getElem?_toArray, List.getElem?_cons_succ, List.getElem?_cons_zero] <;> exact rfl) (by kernel_rfl) (by kernel_rfl) (by kernel_rfl) (fun _ _ _ h => h) (Or.inl ⟨by rfl, ?_⟩) hS ?_
  focus (intro w' hw'; have k0 := (hw'.cell (p := ⟨b, _, none⟩) hbl).trans R0.out; have k1 := (hw'.cell (p := ⟨b, _, none⟩) hbl).trans R1.out; have k2 := (hw'.cell (p := ⟨b, _, none⟩) hbl).trans R2.out; have k3 := (hw'.cell (p := ⟨b, _, none⟩) hbl).trans R3.out; go_simp)
  try simp only [Act.put, List.setIfInBounds_toArray, List.set_cons_zero, List.set_cons_succ]
  refine wpAnyH_take (i := 6) (v := ?_) (by simp only [List.getElem?_toArray, List.getElem?_cons_succ, List.getElem?_cons_zero] <;> exact rfl) (by kernel_rfl) (by kernel_rfl) (by kernel_rfl) (fun _ _ _ h => h) (Or.inl ⟨by rfl, ?_⟩) hS ?_
  rotate_left
  focus (intro w' hw'; go_simp; all_goals with_reducible rfl)
  try simp only [Act.put, List.setIfInBounds_toArray, List.set_cons_zero, List.set_cons_succ]
  refine wpAnyH_take (i := 7) (v := ?_) (by simp only [List.getElem?_toArray, List.getElem?_cons_succ, List.getElem?_cons_zero] <;> exact rfl) (by kernel_rfl) (by kernel_rfl) (by kernel_rfl) (fun _ _ _ h => h) (Or.inl ⟨by rfl, ?_⟩) hS ?_
  rotate_left
  focus (intro w' hw'; have kk := ((HX.out.keep hw').cell 0).trans (show _ = some (Value.int .i64 n1) from rfl); go_simp; all_goals with_reducible rfl)
  try simp only [Act.put, List.setIfInBounds_toArray, List.set_cons_zero, List.set_cons_succ]
  refine wpAnyH_take (i := 8) (v := ?_) (by simp only [List.getElem?_toArray, List.getElem?_cons_succ, List.getElem?_cons_zero] <;> exact rfl) (by kernel_rfl) (by kernel_rfl) (by kernel_rfl) (fun _ _ _ h => h) (Or.inl ⟨by rfl, ?_⟩) hS ?_
  rotate_left
  focus (intro w' hw'; go_simp; all_goals with_reducible rfl)
  try simp only [Act.put, List.setIfInBounds_toArray, List.set_cons_zero, List.set_cons_succ]
  refine wpAnyH_take (i := 9) (v := ?_) (by simp only [List.getElem?_toArray, List.getElem?_cons_succ, List.getElem?_cons_zero] <;> exact rfl) (by kernel_rfl) (by kernel_rfl) (by kernel_rfl) (fun _ _ _ h => h) (Or.inl ⟨by rfl, ?_⟩) hS ?_
  rotate_left
  focus (intro w' hw'; have kk := ((HX.out.keep hw').cell 1).trans (show _ = some (Value.int .i64 n2) from rfl); go_simp; all_goals with_reducible rfl)
  try simp only [Act.put, List.setIfInBounds_toArray, List.set_cons_zero, List.set_cons_succ]
  refine wpAnyH_take (i := 10) (v := .agg #[.int .i64 n1, .int .i64 n2]) (by simp only [List.getElem?_toArray, List.getElem?_cons_succ, List.getElem?_cons_zero] <;> exact rfl) (by kernel_rfl) (by kernel_rfl) (by kernel_rfl) (fun _ _ _ h => h) (Or.inl ⟨by rfl, ?_⟩) hS ?_
  focus (intro w' hw'; go_simp)
  try simp only [Act.put, List.setIfInBounds_toArray, List.set_cons_zero, List.set_cons_succ]
  refine wpAnyH_take (i := 11) (v := ?_) (by simp only [List.getElem?_toArray, List.getElem?_cons_succ, List.getElem?_cons_zero] <;> exact rfl) (by kernel_rfl) (by kernel_rfl) (by kernel_rfl) (fun _ _ _ h => h) (Or.inl ⟨by rfl, ?_⟩) hS ?_
  rotate_left
  focus (intro w' hw'; go_simp; all_goals with_reducible rfl)
  try simp only [Act.put, List.setIfInBounds_toArray, List.set_cons_zero, List.set_cons_succ]
  refine wpAnyH_take (i := 12) (v := ?_) (by simp only [List.getElem?_toArray, List.getElem?_cons_succ, List.getElem?_cons_zero] <;> exact rfl) (by kernel_rfl) (by kernel_rfl) (by kernel_rfl) (fun _ _ _ h => h) (Or.inl ⟨by rfl, ?_⟩) hS ?_
  rotate_left
  focus (intro w' hw'; have kk := ((HX.out.keep hw').cell 2).trans (show _ = some (Value.int .i64 n3) from rfl); go_simp; all_goals with_reducible rfl)
  try simp only [Act.put, List.setIfInBounds_toArray, List.set_cons_zero, List.set_cons_succ]
  refine wpAnyH_take (i := 14) (v := ?_) (by simp only [List.getElem?_toArray, List.getElem?_cons_succ, List.getElem?_cons_zero] <;> exact rfl) (by kernel_rfl) (by kernel_rfl) (by kernel_rfl) (fun _ _ _ h => h) (Or.inl ⟨by rfl, ?_⟩) hS ?_
  rotate_left
  focus (intro w' hw'; go_simp; all_goals with_reducible rfl)
  try simp only [Act.put, List.setIfInBounds_toArray, List.set_cons_zero, List.set_cons_succ]
  refine wpAnyH_take (i := 15) (v := ?_) (by simp only [List.getElem?_toArray, List.getElem?_cons_succ, List.getElem?_cons_zero] <;> exact rfl) (by kernel_rfl) (by kernel_rfl) (by kernel_rfl) (fun _ _ _ h => h) (Or.inl ⟨by rfl, ?_⟩) hS ?_
  rotate_left
  focus (intro w' hw'; go_simp; all_goals with_reducible rfl)
  try simp only [Act.put, List.setIfInBounds_toArray, List.set_cons_zero, List.set_cons_succ]
  refine wpAnyH_take (i := 16) (v := .agg #[.int .i64 x1, .int .i64 x2, .int .i64 x3, .int .i64 x4]) (by simp only [List.getElem?_toArray, List.getElem?_cons_succ, List.getElem?_cons_zero] <;> exact rfl) (by kernel_rfl) (by kernel_rfl) (by kernel_rfl) (fun _ _ _ h => h) (Or.inl ⟨by rfl, ?_⟩) hS ?_
  focus (intro w' hw'; have k0 := (hw'.cell (p := ⟨b, _, none⟩) hbl).trans S0.out; have k1 := (hw'.cell (p := ⟨b, _, none⟩) hbl).trans S1.out; have k2 := (hw'.cell (p := ⟨b, _, none⟩) hbl).trans S2.out; have k3 := (hw'.cell (p := ⟨b, _, none⟩) hbl).trans S3.out; go_simp)
  try simp only [Act.put, List.setIfInBounds_toArray, List.set_cons_zero, List.set_cons_succ]
  refine wpAnyH_take (i := 17) (v := ?_) (by simp only [List.getElem?_toArray, List.getElem?_cons_succ, List.getElem?_cons_zero] <;> exact rfl) (by kernel_rfl) (by kernel_rfl) (by kernel_rfl) (fun _ _ _ h => h) (Or.inl ⟨by rfl, ?_⟩) hS ?_
  rotate_left
  focus (intro w' hw'; go_simp; all_goals with_reducible rfl)
  try simp only [Act.put, List.setIfInBounds_toArray, List.set_cons_zero, List.set_cons_succ]
  refine wpAnyH_take (i := 18) (v := ?_) (by simp only [List.getElem?_toArray, List.getElem?_cons_succ, List.getElem?_cons_zero] <;> exact rfl) (by kernel_rfl) (by kernel_rfl) (by kernel_rfl) (fun _ _ _ h => h) (Or.inl ⟨by rfl, ?_⟩) hS ?_
  rotate_left
  focus (intro w' hw'; go_simp; all_goals with_reducible rfl)
  try simp only [Act.put, List.setIfInBounds_toArray, List.set_cons_zero, List.set_cons_succ]
  refine wpAnyH_take (i := 19) (v := .agg #[.int .i64 y1, .int .i64 y2, .int .i64 y3, .int .i64 y4]) (by simp only [List.getElem?_toArray, List.getElem?_cons_succ, List.getElem?_cons_zero] <;> exact rfl) (by kernel_rfl) (by kernel_rfl) (by kernel_rfl) (fun _ _ _ h => h) (Or.inl ⟨by rfl, ?_⟩) hS ?_
  focus (intro w' hw'; have k0 := (hw'.cell (p := ⟨b, _, none⟩) hbl).trans R0.out; have k1 := (hw'.cell (p := ⟨b, _, none⟩) hbl).trans R1.out; have k2 := (hw'.cell (p := ⟨b, _, none⟩) hbl).trans R2.out; have k3 := (hw'.cell (p := ⟨b, _, none⟩) hbl).trans R3.out; go_simp)
  try simp only [Act.put, List.setIfInBounds_toArray, List.set_cons_zero, List.set_cons_succ]
  refine wpAnyH_take (i := 20) (v := ?_) (by simp only [List.getElem?_toArray, List.getElem?_cons_succ, List.getElem?_cons_zero] <;> exact rfl) (by kernel_rfl) (by kernel_rfl) (by kernel_rfl) (fun _ _ _ h => h) (Or.inl ⟨by rfl, ?_⟩) hS ?_
  rotate_left
  focus (intro w' hw'; go_simp; all_goals with_reducible rfl)
  try simp only [Act.put, List.setIfInBounds_toArray, List.set_cons_zero, List.set_cons_succ]
  refine wpAnyH_take (i := 21) (v := ?_) (by simp only [List.getElem?_toArray, List.getElem?_cons_succ, List.getElem?_cons_zero] <;> exact rfl) (by kernel_rfl) (by kernel_rfl) (by kernel_rfl) (fun _ _ _ h => h) (Or.inl ⟨by rfl, ?_⟩) hS ?_
  rotate_left
  focus (intro w' hw'; have kk := ((HX.out.keep hw').cell 0).trans (show _ = some (Value.int .i64 n1) from rfl); go_simp; all_goals with_reducible rfl)
  try simp only [Act.put, List.setIfInBounds_toArray, List.set_cons_zero, List.set_cons_succ]
  refine wpAnyH_take (i := 22) (v := ?_) (by simp only [List.getElem?_toArray, List.getElem?_cons_succ, List.getElem?_cons_zero] <;> exact rfl) (by kernel_rfl) (by kernel_rfl) (by kernel_rfl) (fun _ _ _ h => h) (Or.inl ⟨by rfl, ?_⟩) hS ?_
  rotate_left
  focus (intro w' hw'; go_simp; all_goals with_reducible rfl)
  try simp only [Act.put, List.setIfInBounds_toArray, List.set_cons_zero, List.set_cons_succ]
  refine wpAnyH_take (i := 23) (v := ?_) (by simp only [List.getElem?_toArray, List.getElem?_cons_succ, List.getElem?_cons_zero] <;> exact rfl) (by kernel_rfl) (by kernel_rfl) (by kernel_rfl) (fun _ _ _ h => h) (Or.inl ⟨by rfl, ?_⟩) hS ?_
  rotate_left
  focus (intro w' hw'; have kk := ((HX.out.keep hw').cell 1).trans (show _ = some (Value.int .i64 n2) from rfl); go_simp; all_goals with_reducible rfl)
  try simp only [Act.put, List.setIfInBounds_toArray, List.set_cons_zero, List.set_cons_succ]
  refine wpAnyH_take (i := 24) (v := .agg #[.int .i64 n1, .int .i64 n2]) (by simp only [List.getElem?_toArray, List.getElem?_cons_succ, List.getElem?_cons_zero] <;> exact rfl) (by kernel_rfl) (by kernel_rfl) (by kernel_rfl) (fun _ _ _ h => h) (Or.inl ⟨by rfl, ?_⟩) hS ?_
  focus (intro w' hw'; go_simp)
  try simp only [Act.put, List.setIfInBounds_toArray, List.set_cons_zero, List.set_cons_succ]
  refine wpAnyH_take (i := 25) (v := ?_) (by simp only [List.getElem?_toArray, List.getElem?_cons_succ, List.getElem?_cons_zero] <;> exact rfl) (by kernel_rfl) (by kernel_rfl) (by kernel_rfl) (fun _ _ _ h => h) (Or.inl ⟨by rfl, ?_⟩) hS ?_
  rotate_left
  focus (intro w' hw'; go_simp; all_goals with_reducible rfl)
  try simp only [Act.put, List.setIfInBounds_toArray, List.set_cons_zero, List.set_cons_succ]
  refine wpAnyH_take (i := 26) (v := ?_) (by simp only [List.getElem?_toArray, List.getElem?_cons_succ, List.getElem?_cons_zero] <;> exact rfl) (by kernel_rfl) (by kernel_rfl) (by kernel_rfl) (fun _ _ _ h => h) (Or.inl ⟨by rfl, ?_⟩) hS ?_
  rotate_left
  focus (intro w' hw'; have kk := ((HX.out.keep hw').cell 2).trans (show _ = some (Value.int .i64 n3) from rfl); go_simp; all_goals with_reducible rfl)
  try simp only [Act.put, List.setIfInBounds_toArray, List.set_cons_zero, List.set_cons_succ]
  refine wpAnyH_ready (rs := [13]) (by kernel_rfl) (by simp) ?_
  refine AllReadyH.cons (o := _) (by simp only [List.getElem?_toArray, List.getElem?_cons_succ, List.getElem?_cons_zero] <;> exact rfl) (fun K hK => ?_) ?_
  focus (
    go_simp
    go_at_call 26
    refine (QN.out _).mono ?_
    rintro e wc1 ⟨rfl, hb⟩
    have hS := hS.trans (hb.mono hS.size)
    clear hb
    go_wp2_with fail
    refine hK.out _ _ hS (fun _ => ?_)
    clear hK K
    try simp only [Act.put, List.setIfInBounds_toArray, List.set_cons_zero, List.set_cons_succ]
    refine wpAnyH_ready (rs := [27]) (by kernel_rfl) (by simp) ?_
    refine AllReadyH.cons (o := _) (by simp only [List.getElem?_toArray, List.getElem?_cons_succ, List.getElem?_cons_zero] <;> exact rfl) (fun K hK => ?_) ?_
    focus (
      go_simp
      go_at_call 27
      refine (QM.out _).mono ?_
      rintro e wc2 ⟨rfl, hb⟩
      have hS := hS.trans (hb.mono hS.size)
      clear hb
      go_wp2_with fail
      refine hK.out _ _ hS (fun _ => ?_)
      clear hK K
      try simp only [Act.put, List.setIfInBounds_toArray, List.set_cons_zero, List.set_cons_succ]
      refine wpAnyH_take (i := 28) (v := ?_) (by simp only [List.getElem?_toArray, List.getElem?_cons_succ, List.getElem?_cons_zero] <;> exact rfl) (by kernel_rfl) (by kernel_rfl) (by kernel_rfl) (fun _ _ _ h => h) (Or.inl ⟨by rfl, ?_⟩) hS ?_
      rotate_left
      focus (intro w' hw'; go_simp; all_goals with_reducible rfl)
      try simp only [Act.put, List.setIfInBounds_toArray, List.set_cons_zero, List.set_cons_succ]
      refine wpAnyH_take (i := 29) (v := ?_) (by simp only [List.getElem?_toArray, List.getElem?_cons_succ, List.getElem?_cons_zero] <;> exact rfl) (by kernel_rfl) (by kernel_rfl) (by kernel_rfl) (fun _ _ _ h => h) (Or.inl ⟨by rfl, ?_⟩) hS ?_
      rotate_left
      focus (intro w' hw'; go_simp; all_goals with_reducible rfl)
      try simp only [Act.put, List.setIfInBounds_toArray, List.set_cons_zero, List.set_cons_succ]
      refine wpAnyH_ready (rs := [30]) (by kernel_rfl) (by simp) ?_
      refine AllReadyH.cons (o := _) (by simp only [List.getElem?_toArray, List.getElem?_cons_succ, List.getElem?_cons_zero] <;> exact rfl) (fun K hK => ?_) ?_
      focus (
        go_simp
        go_at_call 17
        refine (HAW.out _).mono ?_
        rintro e wc3 ⟨rfl, hb⟩
        have hS := hS.trans (hb.mono hS.size)
        clear hb
        go_wp2_with fail
        refine hK.out _ _ hS (fun _ => ?_)
        clear hK K
        try simp only [Act.put, List.setIfInBounds_toArray, List.set_cons_zero, List.set_cons_succ]
        refine wpAnyH_take (i := 31) (v := ?_) (by simp only [List.getElem?_toArray, List.getElem?_cons_succ, List.getElem?_cons_zero] <;> exact rfl) (by kernel_rfl) (by kernel_rfl) (by kernel_rfl) (fun _ _ _ h => h) (Or.inl ⟨by rfl, ?_⟩) hS ?_
        rotate_left
        focus (intro w' hw'; go_simp; all_goals with_reducible rfl)
        try simp only [Act.put, List.setIfInBounds_toArray, List.set_cons_zero, List.set_cons_succ]
        refine wpAnyH_take (i := 32) (v := ?_) (by simp only [List.getElem?_toArray, List.getElem?_cons_succ, List.getElem?_cons_zero] <;> exact rfl) (by kernel_rfl) (by kernel_rfl) (by kernel_rfl) (fun _ _ _ h => h) (Or.inl ⟨by rfl, ?_⟩) hS ?_
        rotate_left
        focus (intro w' hw'; go_simp; all_goals with_reducible rfl)
        try simp only [Act.put, List.setIfInBounds_toArray, List.set_cons_zero, List.set_cons_succ]
        refine wpAnyH_done (by kernel_rfl) ?_ _
        refine NoPanic.normal ?_
        have HW3 := hide (HB.out.trans (hS.mono HB.out.size))
        clear hS
        go_wp2_with fail
        go_ret
        exact ⟨rfl, HW3.out⟩)
      exact AllReadyH.nil)
    exact AllReadyH.nil)
  exact AllReadyH.nil
theorem walk (A : Option Addr) (n c : Nat) (l : List Tg) (B : Option Addr) (N d : Nat) (zs : List Int) (ns : List Int) (hns : ns.length = 3) (_ : ∀ a ∈ ns, (Lit.int .i64 a).wf = true) (w : World) (hl : SL tgF w A n c l) (hz : IsRow .i64 w B N d zs) :
    Calls Try.prog 4 #[.slice A n c, .slice B N d, .agg (ns.map (Value.int .i64)).toArray] w fun e w' => e = .returned (.bool true) ∧ Below w.heap.size w w' := by
  match ns, hns with
  | [n1, n2, n3], _ => exact walk_at A n c l B N d _ n1 n2 n3 w hl (nl_of_row hz)
end Go.Proofs.Ytlondjmklnehhaa.tagsRuns
