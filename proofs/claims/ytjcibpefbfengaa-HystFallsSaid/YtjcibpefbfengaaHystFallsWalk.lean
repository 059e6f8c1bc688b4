/-
  HystFalls: its walk.
-/
import Derived.Test.YtjcibpefbfengaaHystFallsMath
import Derived.Test.YtjcibpefbfengaaHyAwake
import Derived.BigGuardPart
import Derived.Deep.QuietTactic
import Derived.BigQuiet
import Derived.Deep.CutRange
import Derived.Deep.DeepCutAuto
namespace Go.Proofs.Ytjcibpefbfengaa.hystFalls
set_option linter.unusedSimpArgs false
set_option linter.unusedVariables false
open Go.RowKit

/-- What the walk knows of memory in its loop: the controllers' variables, the row of looks. -/
structure FS (w : World) (g gl : Nat) (x y : Hy) (wr : World) (v : Value) (k : Int) (n : Nat) : Prop where
  x : BlkIs wr (g + 1) 24 x.cs
  y : BlkIs wr gl 24 y.cs
  own : wr.ownsRow (g + 1) 3 1 v n (ncs (List.replicate n k))
  bel : Below g w wr
section
variable {w wr wr' : World} {g gl n n' : Nat} {x y : Hy} {v : Value} {k : Int}
theorem FS.keep (h : FS w g gl x y wr v k n) (hb : Below wr.heap.size wr wr') : FS w g gl x y wr' v k n :=
  ⟨h.x.keep hb, h.y.keep hb, own_low h.own hb, h.bel.trans (hb.mono (by have := h.x.lt; omega))⟩
theorem FS.grown (h : FS w g gl x y wr v k n) (hg : wr.grownBy wr' v.ownBlock) {v' : Value} (ho : wr'.ownsRow (g + 1) 3 1 v' n' (ncs (List.replicate n' k))) (hw : w.heap.size = g) : FS w g gl x y wr' v' k n' :=
  ⟨blk_grown h.x hg (own_apartx h.own h.x (by decide)), blk_grown h.y hg (own_apartx h.own h.y (by decide)), ho, own_bel h.own h.bel (by omega) (by omega) hg⟩
end

set_option maxRecDepth 100000 in
set_option maxHeartbeats 6400000 in
theorem walk (l a b lo hi q c : Int) (w : World) (_ : (Lit.int .i64 l).wf = true) (_ : (Lit.int .i64 a).wf = true) (_ : (Lit.int .i64 b).wf = true) (_ : (Lit.int .i64 lo).wf = true) (_ : (Lit.int .i64 hi).wf = true) (_ : (Lit.int .i64 q).wf = true) (_ : (Lit.int .i64 c).wf = true) :
    Calls Try.prog 5 #[.agg #[.int .i64 l, .int .i64 a, .int .i64 b, .int .i64 lo, .int .i64 hi, .int .i64 q, .int .i64 c]] w fun e w' => e = .returned (.bool true) ∧ Below w.heap.size w w' := by
  show Calls Try.prog 5 #[.agg (Hy.cs ⟨l, a, b, lo, hi, q, c⟩)] w fun e w' => e = .returned (.bool true) ∧ Below w.heap.size w w'
  have HAW := hide aw_hyst
  have HCK := hide (fun w => hy_Check ⟨l, a, b, lo, hi, q, c⟩ w)
  obtain ⟨g, hg⟩ : ∃ g, g = w.heap.size := ⟨_, rfl⟩
  have HL := hide hg.symm
  obtain ⟨W0, hW0⟩ : ∃ W0, w.alloc (.cells (Hy.cs ⟨l, a, b, lo, hi, q, c⟩) 28) = W0 := ⟨_, rfl⟩
  have HW0 := hide hW0
  have HR0 := hide (show BlkIs W0 g 28 (Hy.cs ⟨l, a, b, lo, hi, q, c⟩) by rw [← hW0, hg]; exact BlkIs.new w _ _)
  have HL1 := hide (show W0.heap.size = g + 1 by rw [← hW0, hg]; simp)
  obtain ⟨W, hW⟩ : ∃ W, W0.alloc (.cells (Hy.cs ⟨l, a, b, lo, hi, q, c⟩) 24) = W := ⟨_, rfl⟩
  have HW := hide hW
  have HX := hide (show BlkIs W (g + 1) 24 (Hy.cs ⟨l, a, b, lo, hi, q, c⟩) by rw [← hW, ← HL1.out]; exact BlkIs.new W0 _ _)
  have HB := hide (show Below w.heap.size w W by rw [← hW, ← hW0]; exact bel2 w _ _)
  clear hg hW hW0
  cases hok : okH ⟨l, a, b, lo, hi, q, c⟩ with
  | false =>
    rw [chkH_no hok] at HCK
    clear hok
    go_enter Try.func5, Try.ntmps5
    go_upto_region 1 with (fail)
    rw [HL.out]
    rw [HW0.out]
    go_upto_region 2 with (first | (refine wpList_load_blk rfl 28 (.tmp 1) rfl g rfl 28 (Hy.cs ⟨l, a, b, lo, hi, q, c⟩) _ HR0.out Try.underlying28 rfl rh_size ?_) | (refine wpList_store_new rfl 24 (.tmp 3) (.tmp 10) rfl (Hy.cs ⟨l, a, b, lo, hi, q, c⟩) _ 24 rfl rfl hy_size rfl (Hy.cs_one _) ?_))
    rw [HL1.out]
    rw [HW.out]
    go_wp2_with (refine wpList_load_blk rfl 24 (.tmp 3) rfl (g + 1) rfl 24 (Hy.cs ⟨l, a, b, lo, hi, q, c⟩) _ HX.out Try.underlying24 rfl hy_size ?_)
    refine (HCK.out _).mono ?_
    rintro e W1 ⟨rfl, hb⟩
    have HX1 := hide (HX.out.keep hb)
    have HB1 := hide (HB.out.trans (hb.mono HB.out.size))
    clear hb HX HB
    have HX := hide HX1.out
    have HB := hide HB1.out
    clear HX1 HB1
    obtain ⟨x0, x1, x2, x3, x4, x5, x6⟩ := cells7 HX.out
    simp only at x0 x1 x2 x3 x4 x5 x6
    go_wp2_with fail
    refine (HAW.out _).mono ?_
    rintro e w9 ⟨rfl, hb⟩
    have HB9 := hide (HB.out.trans (hb.mono HB.out.size))
    clear hb
    go_wp2
    go_ret
    exact ⟨rfl, HB9.out⟩
  | true =>
    rw [chkH_yes hok] at HCK
    have ho := okH_iff.1 hok
    clear hok
    by_cases h1 : 20 < q
    · have k1 : decide (20 < q) = true := decide_eq_true h1
      clear ho h1
      go_enter Try.func5, Try.ntmps5
      go_upto_region 1 with (fail)
      rw [HL.out]
      rw [HW0.out]
      go_upto_region 2 with (first | (refine wpList_load_blk rfl 28 (.tmp 1) rfl g rfl 28 (Hy.cs ⟨l, a, b, lo, hi, q, c⟩) _ HR0.out Try.underlying28 rfl rh_size ?_) | (refine wpList_store_new rfl 24 (.tmp 3) (.tmp 10) rfl (Hy.cs ⟨l, a, b, lo, hi, q, c⟩) _ 24 rfl rfl hy_size rfl (Hy.cs_one _) ?_))
      rw [HL1.out]
      rw [HW.out]
      go_wp2_with (refine wpList_load_blk rfl 24 (.tmp 3) rfl (g + 1) rfl 24 (Hy.cs ⟨l, a, b, lo, hi, q, c⟩) _ HX.out Try.underlying24 rfl hy_size ?_)
      refine (HCK.out _).mono ?_
      rintro e W1 ⟨rfl, hb⟩
      have HX1 := hide (HX.out.keep hb)
      have HB1 := hide (HB.out.trans (hb.mono HB.out.size))
      clear hb HX HB
      have HX := hide HX1.out
      have HB := hide HB1.out
      clear HX1 HB1
      obtain ⟨x0, x1, x2, x3, x4, x5, x6⟩ := cells7 HX.out
      simp only at x0 x1 x2 x3 x4 x5 x6
      go_wp2_with fail
      refine (HAW.out _).mono ?_
      rintro e w9 ⟨rfl, hb⟩
      have HB9 := hide (HB.out.trans (hb.mono HB.out.size))
      clear hb
      go_wp2
      go_ret
      exact ⟨rfl, HB9.out⟩
    have k1 : decide (20 < q) = false := decide_eq_false h1
    by_cases h2 : 549755813888 < hi
    · have k2 : decide (549755813888 < hi) = true := decide_eq_true h2
      clear ho h1 h2
      go_enter Try.func5, Try.ntmps5
      go_upto_region 1 with (fail)
      rw [HL.out]
      rw [HW0.out]
      go_upto_region 2 with (first | (refine wpList_load_blk rfl 28 (.tmp 1) rfl g rfl 28 (Hy.cs ⟨l, a, b, lo, hi, q, c⟩) _ HR0.out Try.underlying28 rfl rh_size ?_) | (refine wpList_store_new rfl 24 (.tmp 3) (.tmp 10) rfl (Hy.cs ⟨l, a, b, lo, hi, q, c⟩) _ 24 rfl rfl hy_size rfl (Hy.cs_one _) ?_))
      rw [HL1.out]
      rw [HW.out]
      go_wp2_with (refine wpList_load_blk rfl 24 (.tmp 3) rfl (g + 1) rfl 24 (Hy.cs ⟨l, a, b, lo, hi, q, c⟩) _ HX.out Try.underlying24 rfl hy_size ?_)
      refine (HCK.out _).mono ?_
      rintro e W1 ⟨rfl, hb⟩
      have HX1 := hide (HX.out.keep hb)
      have HB1 := hide (HB.out.trans (hb.mono HB.out.size))
      clear hb HX HB
      have HX := hide HX1.out
      have HB := hide HB1.out
      clear HX1 HB1
      obtain ⟨x0, x1, x2, x3, x4, x5, x6⟩ := cells7 HX.out
      simp only at x0 x1 x2 x3 x4 x5 x6
      go_wp2_with fail
      refine (HAW.out _).mono ?_
      rintro e w9 ⟨rfl, hb⟩
      have HB9 := hide (HB.out.trans (hb.mono HB.out.size))
      clear hb
      go_wp2
      go_ret
      exact ⟨rfl, HB9.out⟩
    have k2 : decide (549755813888 < hi) = false := decide_eq_false h2
    have hq20 : q ≤ 20 := by omega
    have hhi : hi ≤ 549755813888 := by omega
    clear h1 h2
    have f5 := fall_five ho
    obtain ⟨a1, a2, a3, a4, a5, a6, a7, a8, a9, a10, a11, a12⟩ := ho
    simp only at a1 a2 a3 a4 a5 a6 a7 a8 a9 a10 a11 a12
    obtain ⟨Q, hQ⟩ : ∃ Q : Nat, (Q : Int) = q := ⟨q.toNat, by omega⟩
    obtain ⟨d, hd⟩ : ∃ d : Nat, (d : Int) = b - a := ⟨(b - a).toNat, by omega⟩
    have hoy : (Hy.mk a a b lo hi q 0).Ok := by simp only [Hy.Ok]; omega
    obtain ⟨u1, u2⟩ := all_up (lo - 1) (by omega) Q hQ d a hoy (by omega)
    obtain ⟨M, hM⟩ : ∃ M, M = Q * d := ⟨_, rfl⟩
    have hM1 : (M : Int) ≤ 400 := by
      have : Q * d ≤ 20 * 20 := Nat.mul_le_mul (by omega) (by omega)
      omega
    have hMq : q * (b - a) = (M : Int) := by rw [hM, ← hQ, ← hd, Int.natCast_mul]
    rw [← hM] at u1 u2
    rw [show a + (d : Int) = b by omega] at u1
    rw [hd] at u2
    have QR1 := hide (fun (w : World) (g c2 : Nat) (h : NL .i64 w (some ⟨g, 0, none⟩) 5 c2 [hi + 1, hi + 1, hi + 1, hi + 1, hi + 1]) => by have := hy_Run ⟨l, a, b, lo, hi, q, c⟩ (some ⟨g, 0, none⟩) 5 c2 [hi + 1, hi + 1, hi + 1, hi + 1, hi + 1] w h (by decide); rwa [f5] at this)
    have QR2 := hide (fun (w : World) (A : Option Addr) (c2 : Nat) (h : NL .i64 w A M c2 (List.replicate M (lo - 1))) => by have := hy_Run ⟨a, a, b, lo, hi, q, 0⟩ A M c2 (List.replicate M (lo - 1)) w h (by omega); rwa [u1, u2] at this)
    clear f5 u1 u2 hoy hM hQ hd
    have hlw : (Lit.int .i64 (lo - 1)).wf = true := WalkArith.wf_i64 (by omega)
    have HAL := hide (show ∀ n, AllN (List.replicate n (lo - 1)) from fun n z hz => by rw [List.eq_of_mem_replicate hz]; exact hlw)
    have HA5 := hide (show AllN [hi + 1, hi + 1, hi + 1, hi + 1, hi + 1] from fun z hz => by simp at hz; rw [hz]; exact WalkArith.wf_i64 (by omega))
    have HMQ := hide hMq
    clear hMq hlw
    go_enter Try.func5, Try.ntmps5
    go_upto_region 1 with (fail)
    rw [HL.out]
    rw [HW0.out]
    go_upto_region 2 with (first | (refine wpList_load_blk rfl 28 (.tmp 1) rfl g rfl 28 (Hy.cs ⟨l, a, b, lo, hi, q, c⟩) _ HR0.out Try.underlying28 rfl rh_size ?_) | (refine wpList_store_new rfl 24 (.tmp 3) (.tmp 10) rfl (Hy.cs ⟨l, a, b, lo, hi, q, c⟩) _ 24 rfl rfl hy_size rfl (Hy.cs_one _) ?_))
    rw [HL1.out]
    rw [HW.out]
    go_wp2_with (refine wpList_load_blk rfl 24 (.tmp 3) rfl (g + 1) rfl 24 (Hy.cs ⟨l, a, b, lo, hi, q, c⟩) _ HX.out Try.underlying24 rfl hy_size ?_)
    refine (HCK.out _).mono ?_
    rintro e W1 ⟨rfl, hb⟩
    have HX1 := hide (HX.out.keep hb)
    have HB1 := hide (HB.out.trans (hb.mono HB.out.size))
    clear hb HX HB
    have HX := hide HX1.out
    have HB := hide HB1.out
    clear HX1 HB1
    obtain ⟨x0, x1, x2, x3, x4, x5, x6⟩ := cells7 HX.out
    simp only at x0 x1 x2 x3 x4 x5 x6
    go_wp2_with (refine wpList_load_blk rfl 24 (.tmp 3) rfl (g + 1) rfl 24 (Hy.cs ⟨l, a, b, lo, hi, q, c⟩) _ HX.out Try.underlying24 rfl hy_size ?_)
    obtain ⟨gr, hgr⟩ : ∃ gr, gr = W1.heap.size := ⟨_, rfl⟩
    have HGR := hide hgr.symm
    have HK := hide (show BlkIs (W1.alloc (.cells (ncs [hi + 1, hi + 1, hi + 1, hi + 1, hi + 1]).toArray 3)) gr 3 (ncs [hi + 1, hi + 1, hi + 1, hi + 1, hi + 1]).toArray by rw [hgr]; exact BlkIs.new W1 _ _)
    have HX2 := hide (HX.out.alloc (.cells (ncs [hi + 1, hi + 1, hi + 1, hi + 1, hi + 1]).toArray 3))
    have HB2 := hide (HB.out.alloc HB.out.size (.cells (ncs [hi + 1, hi + 1, hi + 1, hi + 1, hi + 1]).toArray 3))
    clear hgr HX HB x0 x1 x2 x3 x4 x5 x6
    rw [HGR.out]
    change Calls Try.prog 12 _ (W1.alloc (.cells (ncs [hi + 1, hi + 1, hi + 1, hi + 1, hi + 1]).toArray 3)) _
    generalize W1.alloc (.cells (ncs [hi + 1, hi + 1, hi + 1, hi + 1, hi + 1]).toArray 3) = W2 at *
    refine (QR1.out W2 gr _ (nl_blk HK.out HA5.out (by unfold maxLen; simp))).mono ?_
    rintro e W3 ⟨rfl, hb⟩
    obtain ⟨gl, hgl⟩ : ∃ gl, gl = W3.heap.size := ⟨_, rfl⟩
    have HGL := hide hgl.symm
    have HX3 := hide ((HX2.out.keep hb).alloc (.cells (Hy.cs ⟨a, a, b, lo, hi, q, 0⟩) 24))
    have HB3 := hide ((HB2.out.trans (hb.mono HB2.out.size)).alloc (by have := HB2.out.size; have := hb.size; omega) (.cells (Hy.cs ⟨a, a, b, lo, hi, q, 0⟩) 24))
    have HY3 := hide (show BlkIs (W3.alloc (.cells (Hy.cs ⟨a, a, b, lo, hi, q, 0⟩) 24)) gl 24 (Hy.cs ⟨a, a, b, lo, hi, q, 0⟩) by rw [hgl]; exact BlkIs.new W3 _ _)
    clear hgl hb HX2 HB2 HK QR1 HA5
    go_upto_region 5 with (refine wpList_store_new rfl 24 (.tmp 4) (.tmp 44) rfl (Hy.cs ⟨a, a, b, lo, hi, q, 0⟩) _ 24 rfl rfl hy_size rfl (Hy.cs_one _) ?_)
    rw [HGL.out]
    generalize W3.alloc (.cells (Hy.cs ⟨a, a, b, lo, hi, q, 0⟩) 24) = W4 at *
    have HS0 := hide (show FS w g gl ⟨l, a, b, lo, hi, q, c⟩ ⟨a, a, b, lo, hi, q, 0⟩ W4 (.slice none 0 0) (lo - 1) 0 from ⟨HX3.out, HY3.out, ⟨rfl, .inl ⟨rfl, rfl⟩⟩, by rw [← HL.out]; exact HB3.out⟩)
    have y0 := (cells7 HY3.out).1
    obtain ⟨x0, x1, x2, x3, x4, x5, x6⟩ := cells7 HX3.out
    simp only at y0 x0 x1 x2 x3 x4 x5 x6
    clear x0 x2 x3 x4 x5 x6 HX3 HB3 HY3 HW HW0 HR0 HL1 HCK
    go_wp2_with fail
    clear y0 x1
    go_loopw [6, 7] (fun s6 s7 wr => ∃ (i : Nat) (A6 : Option Addr) (c6 : Nat), i ≤ M ∧ s7 = .int .i64 (i : Int) ∧ s6 = .slice A6 i c6 ∧ Hid (FS w g gl ⟨l, a, b, lo, hi, q, c⟩ ⟨a, a, b, lo, hi, q, 0⟩ wr (.slice A6 i c6) (lo - 1) i)) (fun _ s7 _ => M - (intOf s7).toNat)
    case atStart => exact ⟨0, none, 0, by omega, rfl, rfl, HS0.out⟩
    case round =>
      clear HS0
      obtain ⟨i, A6, c6, hi6, rfl, rfl, HS⟩ := hrel
      have hMq := HMQ.out
      obtain ⟨x0, x1, x2, x3, x4, x5, x6⟩ := cells7 HS.out.x
      simp only at x0 x1 x2 x3 x4 x5 x6
      clear x0 x4 x6
      by_cases hlt : i < M
      · have hlt' : (i : Int) < (M : Int) := by omega
        have HBK := hide (BlkIs.new wr 3 #[.int .i64 (lo - 1)])
        have HNX := hide (nl_blk (l := [lo - 1]) HBK.out (HAL.out 1) (by unfold maxLen; simp))
        have HS3 := hide (HS.out.keep (bel1 _ (.cells #[.int .i64 (lo - 1)] 3)))
        have HZ := hide (show g + 1 ≤ (wr.alloc (.cells #[.int .i64 (lo - 1)] 3)).heap.size by have := HS.out.x.lt; rw [World.size_alloc]; omega)
        clear HBK HS
        go_wp2_with (at_builtin; refine wpList_append_n _ rfl (.tmp 63) (.tmp 67) rfl (g + 1) _ i (List.replicate i (lo - 1)) rfl HS3.out.own ⟨wr.heap.size, 0, none⟩ 1 1 [lo - 1] rfl HNX.out (by omega) HZ.out ?_; intro v4 w4 hown4 hg4; have HO4 := hide (show w4.ownsRow (g + 1) 3 1 v4 (i + 1) (ncs (List.replicate (i + 1) (lo - 1))) by rw [List.replicate_succ']; exact hown4); have HS4 := hide (HS3.out.grown hg4 HO4.out HL.out); clear hown4 hg4 HS3 HNX HZ)
        obtain ⟨A7, c7, hv4⟩ := own_slice HO4.out
        subst hv4
        clear HO4
        go_roundw
        case rel => exact ⟨i + 1, A7, c7, by omega, by go_num, rfl, HS4.out⟩
        case measure => simp [intOf]; omega
      · obtain rfl : i = M := by omega
        have hlt' : ¬ (i : Int) < (i : Int) := by omega
        have HNL := hide (nl_own HS.out.own (HAL.out i))
        go_wp2_with (refine wpList_load_blk rfl 24 (.tmp 4) rfl gl rfl 24 (Hy.cs ⟨a, a, b, lo, hi, q, 0⟩) _ HS.out.y Try.underlying24 rfl hy_size ?_)
        refine (QR2.out wr A6 c6 HNL.out).mono ?_
        rintro e w5 ⟨rfl, hb⟩
        have HS5 := hide ((HS.out.keep hb).keep (bel1 w5 (.cells (Hy.cs ⟨b, a, b, lo, hi, q, 0⟩) 24)))
        have HZ5 := hide (BlkIs.new w5 24 (Hy.cs ⟨b, a, b, lo, hi, q, 0⟩))
        clear hb HS HNL x1 x2 x3 x5
        go_upto_region 13 with (refine wpList_store_new rfl 24 (.tmp 8) (.tmp 73) rfl (Hy.cs ⟨b, a, b, lo, hi, q, 0⟩) _ 24 rfl rfl hy_size rfl (Hy.cs_one _) ?_)
        generalize hgz : w5.heap.size = gz at *
        clear hgz
        generalize w5.alloc (.cells (Hy.cs ⟨b, a, b, lo, hi, q, 0⟩) 24) = w6 at *
        have z0 := (cells7 HZ5.out).1
        obtain ⟨x0, x1, x2, x3, x4, x5, x6⟩ := cells7 HS5.out.x
        simp only at z0 x0 x1 x2 x3 x4 x5 x6
        have HB := hide (show Below w.heap.size w w6 by rw [HL.out]; exact HS5.out.bel)
        clear x0 x3 x4 x5 x6
        go_wp2_with fail
        refine (HAW.out _).mono ?_
        rintro e w9 ⟨rfl, hb⟩
        have HB9 := hide (HB.out.trans (hb.mono HB.out.size))
        clear hb
        go_wp2
        go_ret
        exact ⟨rfl, HB9.out⟩
end Go.Proofs.Ytjcibpefbfengaa.hystFalls
