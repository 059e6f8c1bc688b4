/-
  OutqChanges: its walk (written by gen19changes.py).
-/
import Derived.Test.YtfcokhdkjoimmaaOqAwake
import Derived.Test.YtfcokhdkjoimmaaRqLight
import Derived.Test.YtfcokhdkjoimmaaRqPush
import Derived.Test.YtfcokhdkjoimmaaRqDrain
import Derived.Test.YtfcokhdkjoimmaaOqSame
import Derived.Test.YtfcokhdkjoimmaaTxOpen
import Derived.BigGuardPart
namespace Go.Proofs.Ytfcokhdkjoimmaa.outqChanges
set_option linter.unusedSimpArgs false
set_option linter.unusedVariables false
open Go.RowKit

theorem dq_built3 (A : Option Addr) (n c : Nat) : Try.prog.built 24 [(0, .slice A n c)] = some #[.slice A n c, .int .i64 0, .int .i64 0] := by kernel_rfl
theorem push_few {q : Qu} {xs : List Int} (h1 : q.ps.length ≤ 20) (h2 : lenL q.ps ≤ 1400000) (h3 : xs.length ≤ 70000) : (pushQ q xs).ps.length ≤ 10000 ∧ lenL (pushQ q xs).ps ≤ 100000000 := by
  unfold pushQ
  split
  · refine ⟨by simp; omega, ?_⟩
    show lenL (q.ps ++ [_]) ≤ _
    rw [lenL_app, lenL_one, strOfNums_size]
    omega
  · exact ⟨by omega, by omega⟩
theorem drain_few {q : Qu} {x : Int} (h1 : q.ps.length ≤ 20) (h2 : lenL q.ps ≤ 1400000) : (drainQ q x).ps.length ≤ 10000 ∧ lenL (drainQ q x).ps ≤ 100000000 := by
  unfold drainQ
  split
  · exact ⟨by omega, by omega⟩
  · have h3 := dropP_count (goesN q x) q.ps
    have h4 := dropP_len (goesN q x) q.ps
    refine ⟨?_, ?_⟩
    · show (dropP _ _).length ≤ _; omega
    · show lenL (dropP _ _) ≤ _; omega

set_option maxRecDepth 100000 in
set_option maxHeartbeats 6400000 in
theorem walk (A : Option Addr) (n c : Nat) (l : List ByteArray) (m g : Int) (B : Option Addr) (k d : Nat) (zs : List Int) (x : Int) (w : World)
    (hq : TX w A n c l) (_wm : (Lit.int .i64 m).wf = true) (_wg : (Lit.int .i64 g).wf = true) (hb : IsRow .u8 w B k d zs) (hx : (Lit.int .i64 x).wf = true) :
    Calls Try.prog 3 #[.agg #[.slice A n c, .int .i64 m, .int .i64 g], .slice B k d, .int .i64 x] w fun e w' => e = .returned (.bool true) ∧ Below w.heap.size w w' := by
  clear _wm _wg
  obtain ⟨hrb, hkd, hdm⟩ := rb_of_row hb
  obtain ⟨xs, hxs⟩ : ∃ xs, xs = zs.take k := ⟨_, rfl⟩
  rw [← hxs] at hrb
  clear hb hxs
  have HAW := hide (fun w => aw_outq w)
  have hz := run_zero_is pq_zero
  have hz2 := run_zero_is dq_zero
  have HB := hide (bel1 w (.cells #[.slice A n c, .int .i64 m, .int .i64 g] 24))
  have HX := hide (BlkIs.new w 24 #[.slice A n c, .int .i64 m, .int .i64 g])
  have HR := hide (hrb.below HB.out)
  have HL := hide (rq_Light A n c l m g _ (hq.keep HB.out))
  have hk64 : (k : Int) ≤ 9223372036854775807 := by omega
  cases h1 : lightQ l with
  | false =>
    rw [h1] at HL
    clear h1
    go_enter Try.func3, Try.ntmps3
    go_wp2_with fail
    refine HL.out.mono ?_
    rintro e w2 ⟨rfl, hb⟩
    have HB := hide (HB.out.trans (hb.mono HB.out.size))
    clear hb
    go_wp2_with fail
    refine (HAW.out _).mono ?_
    rintro e w4 ⟨rfl, hb⟩
    have HB := hide (HB.out.trans (hb.mono HB.out.size))
    clear hb
    go_wp2
    go_ret
    exact ⟨rfl, HB.out⟩
  | true =>
    rw [h1] at HL
    obtain ⟨hn1, hs1⟩ := light_is h1
    clear h1
    by_cases hk7 : k ≤ 70000
    · have hk7' : ¬ (70000 : Int) < (k : Int) := by omega
      obtain ⟨q, hqq⟩ : ∃ q : Qu, q = ⟨l, m, g⟩ := ⟨_, rfl⟩
      have hm : q.m = m := by rw [hqq]
      have hg : q.g = g := by rw [hqq]
      have hl : q.ps = l := by rw [hqq]
      have hQ : QL w q A n c := ⟨by rw [hl]; exact hq, by have := hq.len; omega, by rw [hl]; omega⟩
      have HFP := hide (push_few (q := q) (xs := xs) (by rw [hl]; exact hn1) (by rw [hl]; exact hs1) (by rw [hrb.1]; exact hk7))
      have HFD := hide (drain_few (q := q) (x := x) (by rw [hl]; exact hn1) (by rw [hl]; exact hs1))
      have HFW := hide (show n ≤ 20 by have := hq.len; omega)
      have HKK := hide hk7
      have HP1 := hide (fun w' (h : QL w' q A n c) (h' : RB w' B k xs) => oq_Push q A n c B k d xs w' h h' (by have := HKK.out; omega))
      have HP2 := hide (fun w' (h : QL w' q A n c) (h' : RB w' B k xs) => rq_Push q A n c B k d xs w' h h' (by have := HKK.out; omega))
      have HD1 := hide (fun w' (h : QL w' q A n c) => oq_Drain q A n c x w' h)
      have HD2 := hide (fun w' (h : QL w' q A n c) => rq_Drain q A n c x w' h hx)
      have HSF := hide (fun (p : Qu) (A1 : Option Addr) (n1 c1 : Nat) (A2 : Option Addr) (n2 c2 : Nat) (w' : World) (h : QL w' p A1 n1 c1) (h' : QL w' p A2 n2 c2) => (same_self p) ▸ rq_Same p p A1 n1 c1 A2 n2 c2 w' h h')
      have HQV := hide (show VQ 24 (w.alloc (.cells #[.slice A n c, .int .i64 m, .int .i64 g] 24)) w.heap.size A n c q from ⟨by rw [hm, hg]; exact HX.out, hQ.keep HB.out⟩)
      have HLE := hide hl
      generalize hp : pushQ q xs = qp at *
      generalize hpe : pushE q xs = ep at *
      generalize hd : drainQ q x = qd at *
      generalize hdb : drainB q x = bd at *
      clear hp hpe hd hdb hm hg hl hqq hQ hq hrb hx HX hn1 hs1 hk7 hkd hdm
      go_enter Try.func3, Try.ntmps3
      go_wp2_with fail
      refine HL.out.mono ?_
      rintro e w2 ⟨rfl, hb⟩
      generalize w.alloc (.cells #[.slice A n c, .int .i64 m, .int .i64 g] 24) = w1 at *
      obtain ⟨b3, hb3⟩ : ∃ b, b = w.heap.size := ⟨_, rfl⟩
      rw [← hb3] at HQV ⊢
      clear hb3 HL
      have HQV := hide (HQV.out.keep hb)
      have HR := hide (HR.out.below hb)
      have HB := hide (HB.out.trans (hb.mono HB.out.size))
      clear hb
      go_upto_region 3 with (fail)
      obtain ⟨k0, k1, k2⟩ := qcells (HQV.out.blk.alloc (.cells #[] 9))
      have HO0 := hide (World.ownsRow_lit (size := 1) (base := w2.heap.size) (e := 9) w2 #[] 0 (Nat.le_refl _) (Nat.zero_le _) rfl)
      have HFA := hide (HQV.out.ql.tx.keep (bel1 w2 (.cells #[] 9)))
      go_upto_region 4 with (at_builtin; refine wpList_append_tx _ rfl (.tmp 25) (.tmp 27) rfl w2.heap.size _ 0 [] rfl HO0.out A n c q.ps rfl HFA.out (by have := HFW.out; omega) (by simp) ?_; intro v1 w3 hown1 hg1; have HOW := hide hown1; have HBW := hide (own_bel HO0.out (bel1 _ _) (Nat.le_refl _) (Nat.le_refl _) hg1); clear hown1 hg1)
      clear HO0 HFA k0 k1 k2
      have HQV := hide (HQV.out.keep HBW.out)
      have HR := hide (HR.out.below HBW.out)
      have HB := hide (HB.out.trans (HBW.out.mono HB.out.size))
      obtain ⟨Aw, cw, rfl, htw⟩ := own_texts HOW.out
      rw [List.nil_append, Nat.zero_add] at htw
      have HW := hide htw
      clear htw HOW HBW
      rw [Nat.zero_add]
      obtain ⟨k0, k1, k2⟩ := qcells HQV.out.blk
      have HC := hide (HP1.out _ HQV.out.ql HR.out)
      go_wp2_with fail
      refine HC.out.mono ?_
      rintro e w4 ⟨⟨A8, n8, c8, rfl, ht⟩, hb⟩
      clear k0 k1 k2 HC
      have HQV := hide (HQV.out.keep hb)
      have HR := hide (HR.out.below hb)
      have HW := hide (HW.out.keep hb)
      have HB := hide (HB.out.trans (hb.mono HB.out.size))
      have HT := hide ht
      clear hb ht
      have HQN := hide (ql_mk qp HT.out HFP.out.1 HFP.out.2)
      go_upto_region 5 with (refine wpList_q_blk 28 pq_size rfl (.tmp 8) (.tmp 33) w4.heap.size A8 n8 c8 qp.m qp.g _ _ _ rfl (BlkIs.new w4 28 #[.slice none 0 0, .int .i64 0, .int .i64 0]) rfl rfl ?_; intro wv hk kb; obtain ⟨hv, hb⟩ := VQ.new (q := qp) HQN.out hk kb; have HN := hide hv; have HQV := hide (HQV.out.keep hb); have HR := hide (HR.out.below hb); have HW := hide (HW.out.keep hb); have HB := hide (HB.out.trans (hb.mono HB.out.size)); clear hk kb hv hb)
      obtain ⟨b8, hbb⟩ : ∃ b, b = w4.heap.size := ⟨_, rfl⟩
      rw [← hbb] at HN ⊢
      have HV8 := HN
      clear hbb HN HQN HT
      obtain ⟨k0, k1, k2⟩ := qcells HQV.out.blk
      have HC := hide (HP2.out _ HQV.out.ql HR.out)
      go_wp2_with fail
      refine HC.out.mono ?_
      rintro e w5 ⟨⟨A10, n10, c10, rfl, ht⟩, hb⟩
      clear k0 k1 k2 HC
      have HQV := hide (HQV.out.keep hb)
      have HR := hide (HR.out.below hb)
      have HW := hide (HW.out.keep hb)
      have HV8 := hide (HV8.out.keep hb)
      have HB := hide (HB.out.trans (hb.mono HB.out.size))
      have HT := hide ht
      clear hb ht
      have HQN := hide (ql_mk qp HT.out HFP.out.1 HFP.out.2)
      go_upto_region 6 with (refine wpList_q_blk 24 dq_size rfl (.tmp 10) (.tmp 39) w5.heap.size A10 n10 c10 qp.m qp.g _ _ _ rfl (BlkIs.new w5 24 #[.slice none 0 0, .int .i64 0, .int .i64 0]) rfl rfl ?_; intro wv hk kb; obtain ⟨hv, hb⟩ := VQ.new (q := qp) HQN.out hk kb; have HN := hide hv; have HQV := hide (HQV.out.keep hb); have HR := hide (HR.out.below hb); have HW := hide (HW.out.keep hb); have HV8 := hide (HV8.out.keep hb); have HB := hide (HB.out.trans (hb.mono HB.out.size)); clear hk kb hv hb)
      obtain ⟨b10, hbb⟩ : ∃ b, b = w5.heap.size := ⟨_, rfl⟩
      rw [← hbb] at HN ⊢
      have HV10 := HN
      clear hbb HN HQN HT
      obtain ⟨k0, k1, k2⟩ := qcells HQV.out.blk
      have HC := hide (HD1.out _ HQV.out.ql)
      go_wp2_with fail
      refine HC.out.mono ?_
      rintro e w6 ⟨⟨A12, n12, c12, C1, k1_, d1, rfl, ht, hr⟩, hb⟩
      clear k0 k1 k2 HC
      have HQV := hide (HQV.out.keep hb)
      have HR := hide (HR.out.below hb)
      have HW := hide (HW.out.keep hb)
      have HV8 := hide (HV8.out.keep hb)
      have HV10 := hide (HV10.out.keep hb)
      have HB := hide (HB.out.trans (hb.mono HB.out.size))
      have HT := hide ht
      have HRC := hide hr
      clear hb ht hr
      have HQN := hide (ql_mk qd HT.out HFD.out.1 HFD.out.2)
      go_upto_region 7 with (refine wpList_q_blk 28 pq_size rfl (.tmp 12) (.tmp 45) w6.heap.size A12 n12 c12 qd.m qd.g _ _ _ rfl (BlkIs.new w6 28 #[.slice none 0 0, .int .i64 0, .int .i64 0]) rfl rfl ?_; intro wv hk kb; obtain ⟨hv, hb⟩ := VQ.new (q := qd) HQN.out hk kb; have HN := hide hv; have HQV := hide (HQV.out.keep hb); have HR := hide (HR.out.below hb); have HW := hide (HW.out.keep hb); have HV8 := hide (HV8.out.keep hb); have HV10 := hide (HV10.out.keep hb); have HRC := hide (HRC.out.below hb); have HB := hide (HB.out.trans (hb.mono HB.out.size)); clear hk kb hv hb)
      obtain ⟨b12, hbb⟩ : ∃ b, b = w6.heap.size := ⟨_, rfl⟩
      rw [← hbb] at HN ⊢
      have HV12 := HN
      clear hbb HN HQN HT
      obtain ⟨k0, k1, k2⟩ := qcells HQV.out.blk
      have HC := hide (HD2.out _ HQV.out.ql)
      go_wp2_with fail
      refine HC.out.mono ?_
      rintro e w7 ⟨⟨A14, n14, c14, C2, k2_, d2, rfl, ht, hr⟩, hb⟩
      clear k0 k1 k2 HC
      have HQV := hide (HQV.out.keep hb)
      have HR := hide (HR.out.below hb)
      have HW := hide (HW.out.keep hb)
      have HV8 := hide (HV8.out.keep hb)
      have HV10 := hide (HV10.out.keep hb)
      have HRC := hide (HRC.out.below hb)
      have HV12 := hide (HV12.out.keep hb)
      have HB := hide (HB.out.trans (hb.mono HB.out.size))
      have HT := hide ht
      have HRG := hide hr
      clear hb ht hr
      have HQN := hide (ql_mk qd HT.out HFD.out.1 HFD.out.2)
      go_upto_region 8 with (refine wpList_q_blk 24 dq_size rfl (.tmp 14) (.tmp 51) w7.heap.size A14 n14 c14 qd.m qd.g _ _ _ rfl (BlkIs.new w7 24 #[.slice none 0 0, .int .i64 0, .int .i64 0]) rfl rfl ?_; intro wv hk kb; obtain ⟨hv, hb⟩ := VQ.new (q := qd) HQN.out hk kb; have HN := hide hv; have HQV := hide (HQV.out.keep hb); have HR := hide (HR.out.below hb); have HW := hide (HW.out.keep hb); have HV8 := hide (HV8.out.keep hb); have HV10 := hide (HV10.out.keep hb); have HRC := hide (HRC.out.below hb); have HV12 := hide (HV12.out.keep hb); have HRG := hide (HRG.out.below hb); have HB := hide (HB.out.trans (hb.mono HB.out.size)); clear hk kb hv hb)
      obtain ⟨b14, hbb⟩ : ∃ b, b = w7.heap.size := ⟨_, rfl⟩
      rw [← hbb] at HN ⊢
      have HV14 := HN
      clear hbb HN HQN HT
      obtain ⟨k0, k1, k2⟩ := qcells HV8.out.blk
      obtain ⟨j0, j1, j2⟩ := qcells HV10.out.blk
      have HC := hide (HSF.out qp A8 n8 c8 A10 n10 c10 _ HV8.out.ql HV10.out.ql)
      go_wp2_with fail
      refine HC.out.mono ?_
      rintro e w8 ⟨rfl, hb⟩
      clear k0 k1 k2 j0 j1 j2 HC
      have HQV := hide (HQV.out.keep hb)
      have HR := hide (HR.out.below hb)
      have HW := hide (HW.out.keep hb)
      have HV8 := hide (HV8.out.keep hb)
      have HV10 := hide (HV10.out.keep hb)
      have HRC := hide (HRC.out.below hb)
      have HV12 := hide (HV12.out.keep hb)
      have HRG := hide (HRG.out.below hb)
      have HV14 := hide (HV14.out.keep hb)
      have HB := hide (HB.out.trans (hb.mono HB.out.size))
      clear hb
      obtain ⟨k0, k1, k2⟩ := qcells HV12.out.blk
      obtain ⟨j0, j1, j2⟩ := qcells HV14.out.blk
      have HC := hide (HSF.out qd A12 n12 c12 A14 n14 c14 _ HV12.out.ql HV14.out.ql)
      go_wp2_with fail
      refine HC.out.mono ?_
      rintro e w9 ⟨rfl, hb⟩
      clear k0 k1 k2 j0 j1 j2 HC
      have HQV := hide (HQV.out.keep hb)
      have HR := hide (HR.out.below hb)
      have HW := hide (HW.out.keep hb)
      have HV8 := hide (HV8.out.keep hb)
      have HV10 := hide (HV10.out.keep hb)
      have HRC := hide (HRC.out.below hb)
      have HV12 := hide (HV12.out.keep hb)
      have HRG := hide (HRG.out.below hb)
      have HV14 := hide (HV14.out.keep hb)
      have HB := hide (HB.out.trans (hb.mono HB.out.size))
      clear hb
      have hs1 := rb_string d1 HRC.out
      have hs2 := rb_string d2 HRG.out
      obtain ⟨k0, k1, k2⟩ := qcells HQV.out.blk
      have hbt := dq_built3
      have HWQ := hide (show QL _ ⟨q.ps, 0, 0⟩ Aw n cw from ⟨HW.out, by have := HFW.out; omega, HQV.out.ql.sum⟩)
      have HQQ := hide (show QL _ ⟨q.ps, 0, 0⟩ A n c from ⟨HQV.out.ql.tx, by have := HFW.out; omega, HQV.out.ql.sum⟩)
      have HC := hide (HSF.out ⟨q.ps, 0, 0⟩ Aw n cw A n c _ HWQ.out HQQ.out)
      go_wp2_with fail
      refine HC.out.mono ?_
      rintro e wa ⟨rfl, hb⟩
      clear hs1 hs2 k0 k1 k2 hbt HC HWQ HQQ
      have HQV := hide (HQV.out.keep hb)
      have HR := hide (HR.out.below hb)
      have HW := hide (HW.out.keep hb)
      have HV8 := hide (HV8.out.keep hb)
      have HV10 := hide (HV10.out.keep hb)
      have HRC := hide (HRC.out.below hb)
      have HV12 := hide (HV12.out.keep hb)
      have HRG := hide (HRG.out.below hb)
      have HV14 := hide (HV14.out.keep hb)
      have HB := hide (HB.out.trans (hb.mono HB.out.size))
      clear hb
      go_wp2_with fail
      refine (HAW.out _).mono ?_
      rintro e wb ⟨rfl, hb⟩
      have HB := hide (HB.out.trans (hb.mono HB.out.size))
      clear hb
      go_wp2
      go_ret
      exact ⟨rfl, HB.out⟩
    · have hk7' : (70000 : Int) < (k : Int) := by omega
      clear hk7 hn1 hs1
      go_enter Try.func3, Try.ntmps3
      go_wp2_with fail
      refine HL.out.mono ?_
      rintro e w2 ⟨rfl, hb⟩
      have HB := hide (HB.out.trans (hb.mono HB.out.size))
      clear hb
      go_wp2_with fail
      refine (HAW.out _).mono ?_
      rintro e w4 ⟨rfl, hb⟩
      have HB := hide (HB.out.trans (hb.mono HB.out.size))
      clear hb
      go_wp2
      go_ret
      exact ⟨rfl, HB.out⟩
end Go.Proofs.Ytfcokhdkjoimmaa.outqChanges
