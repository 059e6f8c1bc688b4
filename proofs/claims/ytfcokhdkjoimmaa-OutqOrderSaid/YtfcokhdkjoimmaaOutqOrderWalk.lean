/-
  OutqOrder: its walk (written by gen19order.py).
-/
import Derived.Test.YtfcokhdkjoimmaaOqAwake
import Derived.Test.YtfcokhdkjoimmaaTxOpen
import Derived.Test.YtfcokhdkjoimmaaOutqOrderMath
import Derived.Test.YtfcokhdkjoimmaaStrRow
import Derived.BigGuardPart
namespace Go.Proofs.Ytfcokhdkjoimmaa.outqOrder
set_option linter.unusedSimpArgs false
set_option linter.unusedVariables false
open Go.RowKit

set_option maxRecDepth 100000 in
set_option maxHeartbeats 12800000 in
theorem walk (A : Option Addr) (n c : Nat) (l : List ByteArray) (B : Option Addr) (nb cb : Nat) (zs : List Int) (w : World)
    (hl : TX w A n c l) (hb : IsRow .u8 w B nb cb zs) :
    Calls Try.prog 5 #[.slice A n c, .slice B nb cb] w fun e w' => e = .returned (.bool true) ∧ Below w.heap.size w w' := by
  obtain ⟨hrb, hbl, hbm⟩ := rb_of_row hb
  obtain ⟨ys, hys⟩ : ∃ ys, ys = zs.take nb := ⟨_, rfl⟩
  rw [← hys] at hrb
  clear hb hys
  have HAW := hide (fun w => aw_outq w)
  have hz := run_zero_is pq_zero
  have HTL := hide hl
  have HRB := hide hrb
  have hcn : n ≤ 9223372036854775807 := Nat.le_trans hl.le (by have := hl.max; unfold maxLen at this; omega)
  have hcb : nb ≤ 9223372036854775807 := by omega
  have HBL := hide (Below.refl w.heap.size w)
  clear hl hrb hbl hbm
  by_cases hn : n ≤ 60
  · by_cases hnb : nb ≤ 60
    · have hn' : ¬ (60 : Int) < (n : Int) := by omega
      have hnb' : ¬ (60 : Int) < (nb : Int) := by omega
      go_enter Try.func5, Try.ntmps5
      go_wp2_with fail
      have HV0 := hide (show VQ 28 (w.alloc (.cells #[.slice none 0 0, .int .i64 0, .int .i64 0] 28)) w.heap.size none 0 0 ⟨[], 0, 0⟩ from ⟨BlkIs.new w 28 #[.slice none 0 0, .int .i64 0, .int .i64 0], TX.none_ _, by omega, by simp [lenL]⟩)
      have HB0 := hide (bel1 w (.cells #[.slice none 0 0, .int .i64 0, .int .i64 0] 28))
      have HB5 := hide (show w.heap.size ≤ w.heap.size from Nat.le_refl _)
      obtain ⟨b5, hb5⟩ : ∃ b, b = w.heap.size := ⟨_, rfl⟩
      have HB5 := hide (show w.heap.size ≤ b5 by rw [hb5]; exact Nat.le_refl _)
      rw [← hb5] at HV0 ⊢
      generalize w.alloc (.cells #[.slice none 0 0, .int .i64 0, .int .i64 0] 28) = w1 at *
      clear hb5 hn' hnb' hz
      go_loopw [6, 7, 8, 9] (fun s6 s7 s8 s9 wr => ∃ (i : Nat) (q : Qu) (C W : ByteArray) (k : Nat) (Aq : Option Addr) (nq cq : Nat), i ≤ n ∧ s9 = .int .i64 (i : Int) ∧ s6 = .string C ∧ s7 = .string W ∧ s8 = .int .i64 (k : Int) ∧ k ≤ nb ∧ Hid (Ord q C W i) ∧ Hid (VQ 28 wr b5 Aq nq cq q) ∧ Hid (Below w.heap.size w wr)) (fun _ _ _ s9 _ => n - (intOf s9).toNat)
      case atStart => exact ⟨0, ⟨[], 0, 0⟩, ⟨#[]⟩, ⟨#[]⟩, 0, none, 0, 0, by omega, rfl, rfl, rfl, rfl, by omega, Ord.start, HV0.out, HB0.out⟩
      case round =>
        clear HV0 HB0 HBL
        obtain ⟨i, q, C, W, k, Aq, nq, cq, hi, rfl, rfl, rfl, rfl, hk, HOR, HVQ, HBL⟩ := hrel
        have hz := run_zero_is pq_zero
        by_cases hlt : i < n
        · have hlt' : (i : Int) < (n : Int) := by omega
          obtain ⟨s, ob, off, hs, rfl, hob, c0⟩ := (HTL.out.keep HBL.out).round hlt
          have HSI := hide hs
          clear hs
          have he := lit_eq s []
          have he3 : (([] : List UInt8) == s.toList) = decide (s = ⟨#[]⟩) := by rw [BEq.comm]; exact lit_eq s []
          by_cases h200 : s.size ≤ 200
          · have h200' : ¬ (200 : Int) < (s.size : Int) := by omega
            by_cases hse : s = ⟨#[]⟩
            · subst hse
              by_cases hkb : k < nb
              · have hkb' : (k : Int) < (nb : Int) := by omega
                have HYK0 := HRB.out.2.1 (by omega)
                obtain ⟨yb, yo, rfl, -, HYK1⟩ := HYK0
                obtain ⟨z, hzk⟩ : ∃ z, z = ys.getD k 0 := ⟨_, rfl⟩
                have hzb := HRB.out.2.2 k
                rw [← hzk] at hzb
                obtain ⟨hz0, hz1⟩ := hzb
                have HYK := hide (show ∀ w', Below w.heap.size w w' → w'.cell? ⟨yb, yo + k, none⟩ = some (.int .u8 z) from fun w' h => by
                  obtain ⟨b', o', e', -, hc⟩ := (HRB.out.below h).2.1 (by omega)
                  injection e' with e'
                  injection e' with e1 e2
                  subst e1 e2
                  rw [hc k hkb, hzk])
                clear HYK1 hzk
                have HYW := hide (show IntKind.i64.wrap z = z from IntWalk.i64_in _ (by omega))
                have HOR1 := hide (HOR.out.drain z)
                have HWE := hide (HOR.out.went hz0)
                obtain ⟨q1, hq1⟩ : ∃ q1, q1 = drainQ q z := ⟨_, rfl⟩
                obtain ⟨db, hdb⟩ : ∃ db, db = drainB q z := ⟨_, rfl⟩
                have HDR := hide (fun w' (h : QL w' q Aq nq cq) => oq_Drain q Aq nq cq z w' h)
                rw [← hq1, ← hdb] at HOR1 HDR
                rw [← hdb] at HWE
                clear hq1 hdb
                have HF1 := hide (HOR1.out.few2 (by omega))
                have HVB := hide (show BlkIs wr b5 28 #[.slice Aq nq cq, .int .i64 q.m, .int .i64 q.g] from HVQ.out.blk)
                have hidx : (k : Int) < (nb : Int) := by omega
                have hidx0 : (0 : Int) ≤ (k : Int) := by omega
                have c1 := HYK.out wr HBL.out
                go_upto_region 17 with (fail)
                clear c0 c1
                go_cut [12, 13] from 66 to 75 (fun s12 s13 wx => ∃ (bx : Nat) (A1 : Option Addr) (n1 c1 : Nat) (C1 : Option Addr) (k1 d1 : Nat), s12 = .pointer (some ⟨bx, 0, none⟩) ∧ s13 = .slice C1 k1 d1 ∧ VQ 28 wx bx A1 n1 c1 q1 ∧ RB wx C1 k1 db ∧ Below wr.heap.size wr wx)
                case first =>
                  refine wp_region_noPanic ?_
                  refine wp_region_held_drew (S := fun w' => Below wr.heap.size wr w') (by kernel_rfl) (Below.refl _ _).drew (fun hS => ?_)
                  generalize wr.drew = wd at hS ⊢
                  refine wpAnyH_take (i := 0) (by simp only [List.getElem?_toArray, List.getElem?_cons_zero] <;> exact rfl) (by kernel_rfl) (by kernel_rfl) (by kernel_rfl) (fun _ _ _ h => h) (rgs_yields_blk (by rfl) 28 (.tmp 5) (by rfl) b5 (by rfl) 28 #[.slice Aq nq cq, .int .i64 q.m, .int .i64 q.g] _ (fun w' hw' => HVB.out.keep hw') Try.underlying28 rfl pq_size) hS ?_
                  try simp only [Act.put, List.setIfInBounds_toArray, List.set_cons_zero, List.set_cons_succ]
                  refine wpAnyH_take (i := 1) (v := ?_) (by simp only [List.getElem?_toArray, List.getElem?_cons_succ, List.getElem?_cons_zero] <;> exact rfl) (by kernel_rfl) (by kernel_rfl) (by kernel_rfl) (fun _ _ _ h => h) (Or.inl ⟨by rfl, ?_⟩) hS ?_
                  rotate_left
                  focus (intro w' hw'; go_simp; all_goals with_reducible rfl)
                  try simp only [Act.put, List.setIfInBounds_toArray, List.set_cons_zero, List.set_cons_succ]
                  refine wpAnyH_take (i := 2) (v := ?_) (by simp only [List.getElem?_toArray, List.getElem?_cons_succ, List.getElem?_cons_zero] <;> exact rfl) (by kernel_rfl) (by kernel_rfl) (by kernel_rfl) (fun _ _ _ h => h) (Or.inl ⟨by rfl, ?_⟩) hS ?_
                  rotate_left
                  focus (intro w' hw'; go_simp; all_goals with_reducible rfl)
                  try simp only [Act.put, List.setIfInBounds_toArray, List.set_cons_zero, List.set_cons_succ]
                  refine wpAnyH_take (i := 3) (v := ?_) (by simp only [List.getElem?_toArray, List.getElem?_cons_succ, List.getElem?_cons_zero] <;> exact rfl) (by kernel_rfl) (by kernel_rfl) (by kernel_rfl) (fun _ _ _ h => h) (Or.inl ⟨by rfl, ?_⟩) hS ?_
                  rotate_left
                  focus (intro w' hw'; go_simp; all_goals with_reducible rfl)
                  try simp only [Act.put, List.setIfInBounds_toArray, List.set_cons_zero, List.set_cons_succ]
                  refine wpAnyH_take (i := 4) (v := ?_) (by simp only [List.getElem?_toArray, List.getElem?_cons_succ, List.getElem?_cons_zero] <;> exact rfl) (by kernel_rfl) (by kernel_rfl) (by kernel_rfl) (fun _ _ _ h => h) (Or.inl ⟨by rfl, ?_⟩) hS ?_
                  rotate_left
                  focus (intro w' hw'; have kk := HYK.out _ (HBL.out.trans (hw'.mono HBL.out.size)); go_simp; all_goals with_reducible rfl)
                  try simp only [Act.put, List.setIfInBounds_toArray, List.set_cons_zero, List.set_cons_succ]
                  refine wpAnyH_take (i := 5) (v := ?_) (by simp only [List.getElem?_toArray, List.getElem?_cons_succ, List.getElem?_cons_zero] <;> exact rfl) (by kernel_rfl) (by kernel_rfl) (by kernel_rfl) (fun _ _ _ h => h) (Or.inl ⟨by rfl, ?_⟩) hS ?_
                  rotate_left
                  focus (intro w' hw'; have hh := HYW.out; go_simp; all_goals with_reducible rfl)
                  try simp only [Act.put, List.setIfInBounds_toArray, List.set_cons_zero, List.set_cons_succ]
                  refine wpAnyH_ready (rs := [6, 10]) (by kernel_rfl) (by simp) ?_
                  refine AllReadyH.cons (o := _) (by simp only [List.getElem?_toArray, List.getElem?_cons_succ, List.getElem?_cons_zero] <;> exact rfl) (fun K hK => ?_) ?_
                  focus (
                    go_simp
                    go_at_call 11
                    refine (HDR.out _ (HVQ.out.ql.keep hS)).mono ?_
                    rintro e wm1 ⟨⟨A1, n1, c1, C1, k1, d1, rfl, ht, hr⟩, hb⟩
                    have hS := hS.trans (hb.mono hS.size)
                    clear hb
                    go_wp2_with fail
                    refine hK.out _ _ hS (fun _ => ?_)
                    clear hK K
                    try simp only [Act.put, List.setIfInBounds_toArray, List.set_cons_zero, List.set_cons_succ]
                    refine wpAnyH_take (i := 7) (v := ?_) (by simp only [List.getElem?_toArray, List.getElem?_cons_succ, List.getElem?_cons_zero] <;> exact rfl) (by kernel_rfl) (by kernel_rfl) (by kernel_rfl) (fun _ _ _ h => h) (Or.inl ⟨by rfl, ?_⟩) hS ?_
                    rotate_left
                    focus (intro w' hw'; go_simp; all_goals with_reducible rfl)
                    try simp only [Act.put, List.setIfInBounds_toArray, List.set_cons_zero, List.set_cons_succ]
                    refine wpAnyH_take (i := 8) (v := ?_) (by simp only [List.getElem?_toArray, List.getElem?_cons_succ, List.getElem?_cons_zero] <;> exact rfl) (by kernel_rfl) (by kernel_rfl) (by kernel_rfl) (fun _ _ _ h => h) (Or.inl ⟨by rfl, ?_⟩) hS ?_
                    rotate_left
                    focus (intro w' hw'; go_simp; all_goals with_reducible rfl)
                    try simp only [Act.put, List.setIfInBounds_toArray, List.set_cons_zero, List.set_cons_succ]
                    refine wpAnyH_take (i := 9) (v := ?_) (by simp only [List.getElem?_toArray, List.getElem?_cons_succ, List.getElem?_cons_zero] <;> exact rfl) (by kernel_rfl) (by kernel_rfl) (by kernel_rfl) (fun _ _ _ h => h) (Or.inl ⟨by rfl, ?_⟩) hS ?_
                    rotate_left
                    focus (intro w' hw'; go_simp; all_goals with_reducible rfl)
                    try simp only [Act.put, List.setIfInBounds_toArray, List.set_cons_zero, List.set_cons_succ]
                    refine wpAnyH_ready (rs := [10]) (by kernel_rfl) (by simp) ?_
                    refine AllReadyH.cons (o := _) (by simp only [List.getElem?_toArray, List.getElem?_cons_succ, List.getElem?_cons_zero] <;> exact rfl) (fun K hK => ?_) ?_
                    focus (
                      go_simp
                      have hz2 := hS.size
                      have hS := hS.alloc hS.size (.cells #[.slice none 0 0, .int .i64 0, .int .i64 0] 28)
                      have ea := BlkIs.new wm1 28 #[.slice none 0 0, .int .i64 0, .int .i64 0]
                      have ht := ht.keep (bel1 wm1 (.cells #[.slice none 0 0, .int .i64 0, .int .i64 0] 28))
                      have hr := hr.below (bel1 wm1 (.cells #[.slice none 0 0, .int .i64 0, .int .i64 0] 28))
                      obtain ⟨bx, hbx⟩ : ∃ bx, bx = wm1.heap.size := ⟨_, rfl⟩
                      have hxl : wr.heap.size ≤ bx := by rw [hbx]; exact hz2
                      rw [← hbx] at ea ⊢
                      refine hK.out _ _ hS (fun _ => ?_)
                      generalize wm1.alloc (.cells #[.slice none 0 0, .int .i64 0, .int .i64 0] 28) = wm2 at hS ea ht hr ⊢
                      clear hbx hz2 hK K
                      try simp only [Act.put, List.setIfInBounds_toArray, List.set_cons_zero, List.set_cons_succ]
                      refine wpAnyH_ready (rs := [11]) (by kernel_rfl) (by simp) ?_
                      refine AllReadyH.cons (o := _) (by simp only [List.getElem?_toArray, List.getElem?_cons_succ, List.getElem?_cons_zero] <;> exact rfl) (fun K hK => ?_) ?_
                      focus (
                        refine rgs_store_blk (by rfl) 28 (.tmp 12) (.tmp 74) (by rfl) bx #[.slice A1 n1 c1, .int .i64 q1.m, .int .i64 q1.g] #[.slice none 0 0, .int .i64 0, .int .i64 0] 28 (by rfl) (by rfl) ea pq_size rfl (by simp [Value.oneCell']) ?_
                        have kb := (KB.refl (· = bx) wm2).setRow (fun _ => rfl) #[.slice A1 n1 c1, .int .i64 q1.m, .int .i64 q1.g]
                        have ht := ht.onto ea (qc_tx _ _ _ _ _) kb
                        have hr := hr.onto ea (qc_u8 _ _ _ _ _) kb
                        have ea := ea.row #[.slice A1 n1 c1, .int .i64 q1.m, .int .i64 q1.g]
                        have hS := below_setRow hS hxl #[.slice A1 n1 c1, .int .i64 q1.m, .int .i64 q1.g]
                        refine hK.out _ _ hS (fun _ => ?_)
                        clear hK K kb
                        try simp only [Act.put, List.setIfInBounds_toArray, List.set_cons_zero, List.set_cons_succ]
                        refine wpAnyH_take (i := 12) (v := ?_) (by simp only [List.getElem?_toArray, List.getElem?_cons_succ, List.getElem?_cons_zero] <;> exact rfl) (by kernel_rfl) (by kernel_rfl) (by kernel_rfl) (fun _ _ _ h => h) (Or.inl ⟨by rfl, ?_⟩) hS ?_
                        rotate_left
                        focus (intro w' hw'; go_simp; all_goals with_reducible rfl)
                        try simp only [Act.put, List.setIfInBounds_toArray, List.set_cons_zero, List.set_cons_succ]
                        refine wpAnyH_done (by kernel_rfl) ?_ _
                        refine NoPanic.normal ?_
                        go_wp2_with fail
                        go_meet
                        exact ⟨bx, A1, n1, c1, C1, k1, d1, rfl, rfl, ⟨ea, ql_mk q1 ht HF1.out.1 HF1.out.2⟩, hr, hS⟩)
                      exact AllReadyH.nil)
                    exact AllReadyH.nil)
                  refine AllReadyH.cons (o := _) (by simp only [List.getElem?_toArray, List.getElem?_cons_succ, List.getElem?_cons_zero] <;> exact rfl) (fun K hK => ?_) ?_
                  focus (
                    go_simp
                    have hz3 := hS.size
                    have hS := hS.alloc hS.size (.cells #[.slice none 0 0, .int .i64 0, .int .i64 0] 28)
                    have ea := BlkIs.new wd 28 #[.slice none 0 0, .int .i64 0, .int .i64 0]
                    obtain ⟨bx, hbx⟩ : ∃ bx, bx = wd.heap.size := ⟨_, rfl⟩
                    have hxl : wr.heap.size ≤ bx := by rw [hbx]; exact hz3
                    rw [← hbx] at ea ⊢
                    refine hK.out _ _ hS (fun _ => ?_)
                    generalize wd.alloc (.cells #[.slice none 0 0, .int .i64 0, .int .i64 0] 28) = wm3 at hS ea ⊢
                    clear hbx hz3 hK K
                    try simp only [Act.put, List.setIfInBounds_toArray, List.set_cons_zero, List.set_cons_succ]
                    refine wpAnyH_ready (rs := [6]) (by kernel_rfl) (by simp) ?_
                    refine AllReadyH.cons (o := _) (by simp only [List.getElem?_toArray, List.getElem?_cons_succ, List.getElem?_cons_zero] <;> exact rfl) (fun K hK => ?_) ?_
                    focus (
                      go_simp
                      go_at_call 11
                      refine (HDR.out _ (HVQ.out.ql.keep hS)).mono ?_
                      rintro e wm4 ⟨⟨A1, n1, c1, C1, k1, d1, rfl, ht, hr⟩, hb⟩
                      have ea := ea.keep hb
                      have hS := hS.trans (hb.mono hS.size)
                      clear hb
                      go_wp2_with fail
                      refine hK.out _ _ hS (fun _ => ?_)
                      clear hK K
                      try simp only [Act.put, List.setIfInBounds_toArray, List.set_cons_zero, List.set_cons_succ]
                      refine wpAnyH_take (i := 7) (v := ?_) (by simp only [List.getElem?_toArray, List.getElem?_cons_succ, List.getElem?_cons_zero] <;> exact rfl) (by kernel_rfl) (by kernel_rfl) (by kernel_rfl) (fun _ _ _ h => h) (Or.inl ⟨by rfl, ?_⟩) hS ?_
                      rotate_left
                      focus (intro w' hw'; go_simp; all_goals with_reducible rfl)
                      try simp only [Act.put, List.setIfInBounds_toArray, List.set_cons_zero, List.set_cons_succ]
                      refine wpAnyH_take (i := 8) (v := ?_) (by simp only [List.getElem?_toArray, List.getElem?_cons_succ, List.getElem?_cons_zero] <;> exact rfl) (by kernel_rfl) (by kernel_rfl) (by kernel_rfl) (fun _ _ _ h => h) (Or.inl ⟨by rfl, ?_⟩) hS ?_
                      rotate_left
                      focus (intro w' hw'; go_simp; all_goals with_reducible rfl)
                      try simp only [Act.put, List.setIfInBounds_toArray, List.set_cons_zero, List.set_cons_succ]
                      refine wpAnyH_take (i := 9) (v := ?_) (by simp only [List.getElem?_toArray, List.getElem?_cons_succ, List.getElem?_cons_zero] <;> exact rfl) (by kernel_rfl) (by kernel_rfl) (by kernel_rfl) (fun _ _ _ h => h) (Or.inl ⟨by rfl, ?_⟩) hS ?_
                      rotate_left
                      focus (intro w' hw'; go_simp; all_goals with_reducible rfl)
                      try simp only [Act.put, List.setIfInBounds_toArray, List.set_cons_zero, List.set_cons_succ]
                      refine wpAnyH_ready (rs := [11]) (by kernel_rfl) (by simp) ?_
                      refine AllReadyH.cons (o := _) (by simp only [List.getElem?_toArray, List.getElem?_cons_succ, List.getElem?_cons_zero] <;> exact rfl) (fun K hK => ?_) ?_
                      focus (
                        refine rgs_store_blk (by rfl) 28 (.tmp 12) (.tmp 74) (by rfl) bx #[.slice A1 n1 c1, .int .i64 q1.m, .int .i64 q1.g] #[.slice none 0 0, .int .i64 0, .int .i64 0] 28 (by rfl) (by rfl) ea pq_size rfl (by simp [Value.oneCell']) ?_
                        have kb := (KB.refl (· = bx) wm4).setRow (fun _ => rfl) #[.slice A1 n1 c1, .int .i64 q1.m, .int .i64 q1.g]
                        have ht := ht.onto ea (qc_tx _ _ _ _ _) kb
                        have hr := hr.onto ea (qc_u8 _ _ _ _ _) kb
                        have ea := ea.row #[.slice A1 n1 c1, .int .i64 q1.m, .int .i64 q1.g]
                        have hS := below_setRow hS hxl #[.slice A1 n1 c1, .int .i64 q1.m, .int .i64 q1.g]
                        refine hK.out _ _ hS (fun _ => ?_)
                        clear hK K kb
                        try simp only [Act.put, List.setIfInBounds_toArray, List.set_cons_zero, List.set_cons_succ]
                        refine wpAnyH_take (i := 12) (v := ?_) (by simp only [List.getElem?_toArray, List.getElem?_cons_succ, List.getElem?_cons_zero] <;> exact rfl) (by kernel_rfl) (by kernel_rfl) (by kernel_rfl) (fun _ _ _ h => h) (Or.inl ⟨by rfl, ?_⟩) hS ?_
                        rotate_left
                        focus (intro w' hw'; go_simp; all_goals with_reducible rfl)
                        try simp only [Act.put, List.setIfInBounds_toArray, List.set_cons_zero, List.set_cons_succ]
                        refine wpAnyH_done (by kernel_rfl) ?_ _
                        refine NoPanic.normal ?_
                        go_wp2_with fail
                        go_meet
                        exact ⟨bx, A1, n1, c1, C1, k1, d1, rfl, rfl, ⟨ea, ql_mk q1 ht HF1.out.1 HF1.out.2⟩, hr, hS⟩)
                      exact AllReadyH.nil)
                    exact AllReadyH.nil)
                  exact AllReadyH.nil
                case rest =>
                  obtain ⟨bx, A1, n1, c1, C1, k1, d1, rfl, rfl, hx1, hr1, hb⟩ := hcut
                  have HX1 := hide hx1
                  have HR1 := hide hr1
                  have HV5 := hide (HVQ.out.keep hb)
                  have HBL := hide (HBL.out.trans (hb.mono HBL.out.size))
                  clear hx1 hr1 hb HVB HDR HVQ HOR
                  have HVQ := HV5
                  obtain ⟨wr, hwr⟩ : ∃ x, x = wc := ⟨_, rfl⟩
                  subst hwr
                  have HLN := hide (fun w' (h : QL w' q Aq nq cq) => oq_Len q Aq nq cq w' h)
                  have HK1 := hide HR1.out.1
                  have hdb65 : db.length ≤ 65536 := by have := HWE.out; have := HOR1.out.sum; omega
                  rcases Int.lt_or_le (lenL q.ps : Int) z with hm | hm
                  · have HMI := hide hm
                    have HCN := hide (show (k1 : Int) = (lenL q.ps : Int) by have h1 := HWE.out; have h2 := HK1.out; omega)
                    clear hm
                    go_upto_region 18 with (fail)
                    go_cut [86] from 76 to 86 (fun s86 wx => s86 = .bool false ∧ Below wr.heap.size wr wx)
                    case first =>
                      refine wp_region_noPanic ?_
                      refine wp_region_held_drew (S := fun w' => Below wr.heap.size wr w') (by kernel_rfl) (Below.refl _ _).drew (fun hS => ?_)
                      generalize wr.drew = wd at hS ⊢
                      refine wpAnyH_take (i := 0) (v := ?_) (by simp only [List.getElem?_toArray, List.getElem?_cons_succ, List.getElem?_cons_zero] <;> exact rfl) (by kernel_rfl) (by kernel_rfl) (by kernel_rfl) (fun _ _ _ h => h) (Or.inl ⟨by rfl, ?_⟩) hS ?_
                      rotate_left
                      focus (intro w' hw'; go_simp; all_goals with_reducible rfl)
                      try simp only [Act.put, List.setIfInBounds_toArray, List.set_cons_zero, List.set_cons_succ]
                      refine wpAnyH_take (i := 1) (v := ?_) (by simp only [List.getElem?_toArray, List.getElem?_cons_succ, List.getElem?_cons_zero] <;> exact rfl) (by kernel_rfl) (by kernel_rfl) (by kernel_rfl) (fun _ _ _ h => h) (Or.inl ⟨by rfl, ?_⟩) hS ?_
                      rotate_left
                      focus (intro w' hw'; go_simp; all_goals with_reducible rfl)
                      try simp only [Act.put, List.setIfInBounds_toArray, List.set_cons_zero, List.set_cons_succ]
                      refine wpAnyH_take (i := 2) (v := ?_) (by simp only [List.getElem?_toArray, List.getElem?_cons_succ, List.getElem?_cons_zero] <;> exact rfl) (by kernel_rfl) (by kernel_rfl) (by kernel_rfl) (fun _ _ _ h => h) (Or.inl ⟨by rfl, ?_⟩) hS ?_
                      rotate_left
                      focus (intro w' hw'; go_simp; all_goals with_reducible rfl)
                      try simp only [Act.put, List.setIfInBounds_toArray, List.set_cons_zero, List.set_cons_succ]
                      refine wpAnyH_take (i := 3) (v := ?_) (by simp only [List.getElem?_toArray, List.getElem?_cons_succ, List.getElem?_cons_zero] <;> exact rfl) (by kernel_rfl) (by kernel_rfl) (by kernel_rfl) (fun _ _ _ h => h) (Or.inl ⟨by rfl, ?_⟩) hS ?_
                      rotate_left
                      focus (intro w' hw'; go_simp; all_goals with_reducible rfl)
                      try simp only [Act.put, List.setIfInBounds_toArray, List.set_cons_zero, List.set_cons_succ]
                      refine wpAnyH_take (i := 4) (v := ?_) (by simp only [List.getElem?_toArray, List.getElem?_cons_succ, List.getElem?_cons_zero] <;> exact rfl) (by kernel_rfl) (by kernel_rfl) (by kernel_rfl) (fun _ _ _ h => h) (Or.inl ⟨by rfl, ?_⟩) hS ?_
                      rotate_left
                      focus (intro w' hw'; go_simp; all_goals with_reducible rfl)
                      try simp only [Act.put, List.setIfInBounds_toArray, List.set_cons_zero, List.set_cons_succ]
                      refine wpAnyH_take (i := 5) (v := ?_) (by simp only [List.getElem?_toArray, List.getElem?_cons_succ, List.getElem?_cons_zero] <;> exact rfl) (by kernel_rfl) (by kernel_rfl) (by kernel_rfl) (fun _ _ _ h => h) (Or.inl ⟨by rfl, ?_⟩) hS ?_
                      rotate_left
                      focus (intro w' hw'; have kk := HYK.out _ (HBL.out.trans (hw'.mono HBL.out.size)); go_simp; all_goals with_reducible rfl)
                      try simp only [Act.put, List.setIfInBounds_toArray, List.set_cons_zero, List.set_cons_succ]
                      refine wpAnyH_take (i := 6) (v := ?_) (by simp only [List.getElem?_toArray, List.getElem?_cons_succ, List.getElem?_cons_zero] <;> exact rfl) (by kernel_rfl) (by kernel_rfl) (by kernel_rfl) (fun _ _ _ h => h) (Or.inl ⟨by rfl, ?_⟩) hS ?_
                      rotate_left
                      focus (intro w' hw'; have hh := HYW.out; go_simp; all_goals with_reducible rfl)
                      try simp only [Act.put, List.setIfInBounds_toArray, List.set_cons_zero, List.set_cons_succ]
                      refine wpAnyH_take (i := 7) (v := ?_) (by simp only [List.getElem?_toArray, List.getElem?_cons_succ, List.getElem?_cons_zero] <;> exact rfl) (by kernel_rfl) (by kernel_rfl) (by kernel_rfl) (fun _ _ _ h => h) (Or.inl ⟨by rfl, ?_⟩) hS ?_
                      rotate_left
                      focus (intro w' hw'; obtain ⟨k0, k1, k2⟩ := qcells (HVQ.out.blk.keep hw'); go_simp; all_goals with_reducible rfl)
                      try simp only [Act.put, List.setIfInBounds_toArray, List.set_cons_zero, List.set_cons_succ]
                      refine wpAnyH_ready (rs := [8]) (by kernel_rfl) (by simp) ?_
                      refine AllReadyH.cons (o := _) (by simp only [List.getElem?_toArray, List.getElem?_cons_succ, List.getElem?_cons_zero] <;> exact rfl) (fun K hK => ?_) ?_
                      focus (
                        go_simp
                        go_at_call 16
                        refine (HLN.out _ (HVQ.out.ql.keep hS)).mono ?_
                        rintro e wc1 ⟨rfl, hb⟩
                        have hS := hS.trans (hb.mono hS.size)
                        clear hb
                        go_wp2_with fail
                        refine hK.out _ _ hS (fun _ => ?_)
                        clear hK K
                        try simp only [Act.put, List.setIfInBounds_toArray, List.set_cons_zero, List.set_cons_succ]
                        refine wpAnyH_take (i := 9) (v := ?_) (by simp only [List.getElem?_toArray, List.getElem?_cons_succ, List.getElem?_cons_zero] <;> exact rfl) (by kernel_rfl) (by kernel_rfl) (by kernel_rfl) (fun _ _ _ h => h) (Or.inl ⟨by rfl, ?_⟩) hS ?_
                        rotate_left
                        focus (intro w' hw'; have h1 := HMI.out; go_simp; all_goals with_reducible rfl)
                        try simp only [Act.put, List.setIfInBounds_toArray, List.set_cons_zero, List.set_cons_succ]
                        refine wpAnyH_take (i := 10) (v := ?_) (by simp only [List.getElem?_toArray, List.getElem?_cons_succ, List.getElem?_cons_zero] <;> exact rfl) (by kernel_rfl) (by kernel_rfl) (by kernel_rfl) (fun _ _ _ h => h) (Or.inl ⟨by rfl, ?_⟩) hS ?_
                        rotate_left
                        focus (intro w' hw'; have h2 := HCN.out; go_simp; all_goals with_reducible rfl)
                        try simp only [Act.put, List.setIfInBounds_toArray, List.set_cons_zero, List.set_cons_succ]
                        refine wpAnyH_done (by kernel_rfl) ?_ _
                        refine NoPanic.normal ?_
                        go_wp2_with fail
                        go_meet
                        exact ⟨rfl, hS⟩)
                      exact AllReadyH.nil
                    case rest =>
                      obtain ⟨rfl, hb⟩ := hcut
                      have HX1 := hide (HX1.out.keep hb)
                      have HR1 := hide (HR1.out.below hb)
                      have HVQ := hide (HVQ.out.keep hb)
                      have HBL := hide (HBL.out.trans (hb.mono HBL.out.size))
                      clear hb HLN HMI HCN HV5
                      obtain ⟨wr, hwr⟩ : ∃ x, x = wc := ⟨_, rfl⟩
                      subst hwr
                      obtain ⟨k0, k1, k2⟩ := qcells HX1.out.blk
                      go_upto_region 21 with (refine wpList_q_blk 28 pq_size rfl (.tmp 5) (.tmp 87) b5 A1 n1 c1 q1.m q1.g _ _ _ rfl HVQ.out.blk rfl rfl ?_; intro wv hk kb; have HV2 := hide (show VQ 28 wv b5 A1 n1 c1 q1 from ⟨hk, HX1.out.ql.onto HVQ.out.blk (qc_tx _ _ _ _ _) kb⟩); have HR2 := hide (HR1.out.onto HVQ.out.blk (qc_u8 _ _ _ _ _) kb); have HBL := hide (below_kbq HBL.out kb (Nat.le_refl _) HB5.out); clear hk kb)
                      obtain ⟨W0, hW0⟩ : ∃ W0, W0 = W ++ strOfNums db := ⟨_, rfl⟩
                      rw [← hW0] at HOR1
                      have hst := rb_string d1 HR2.out
                      have hsz : ¬ 9223372036854775807 < W.size + (strOfNums db).size := by
                        have h1 := HOR1.out.size
                        have h2 := HOR1.out.sum
                        rw [hW0, ← bts_len (W ++ strOfNums db), bts_app, List.length_append, bts_len, bts_len] at h1
                        omega
                      have hW1 : W ++ strOfNums db = W0 := hW0.symm
                      clear k0 k1 k2 HX1 HVQ HF1 hW0 HWE HK1 HYK HYW HR1
                      go_upto_region 23 with (fail)
                      clear hst hsz hW1 HR2
                      have HOR := HOR1
                      have HVQ := HV2
                      clear HOR1 HV2
                      generalize W0 = W at *
                      generalize q1 = q at *
                      generalize A1 = Aq at *
                      generalize n1 = nq at *
                      generalize c1 = cq at *
                      obtain ⟨wr, hwr⟩ : ∃ x, x = wv := ⟨_, rfl⟩
                      subst hwr
                      obtain ⟨k2, hk2⟩ : ∃ k2, k2 = k + 1 := ⟨_, rfl⟩
                      rw [show (k : Int) + 1 = (k2 : Int) by omega]
                      have hk2n : k2 ≤ nb := by omega
                      clear hk2 hk hkb hkb' hidx hidx0
                      obtain ⟨k, hkk⟩ : ∃ k, k = k2 := ⟨_, rfl⟩
                      subst hkk
                      have HCK := hide (fun w' (h : QL w' q Aq nq cq) => HOR.out.chk ▸ oq_Check q Aq nq cq w' h)
                      have HLN := hide (fun w' (h : QL w' q Aq nq cq) => oq_Len q Aq nq cq w' h)
                      have HRM := hide (fun w' (h : QL w' q Aq nq cq) => HOR.out.room ▸ oq_Room q Aq nq cq w' h)
                      have HE1 := hide (show (C.size : Int) - (W.size : Int) = (lenL q.ps : Int) by have := HOR.out.size; omega)
                      have HE0 := hide (show IntKind.i64.wrap (lenL q.ps : Int) = (lenL q.ps : Int) from IntWalk.i64_in _ (by have := HOR.out.ok.len; omega))
                      have HE2 := hide (show IntKind.i64.wrap (65536 - (lenL q.ps : Int)) = 65536 - (lenL q.ps : Int) from IntWalk.i64_in _ (by have := HOR.out.ok.len; omega))
                      have HE3 := hide (show (W.size : Int) ≤ (C.size : Int) by have := HOR.out.size; omega)
                      have HE4 := hide HOR.out.front
                      have HE5 := hide (str_same (a := W) (b := W) rfl)
                      go_upto_region 23 with (fail)
                      go_cut [122] from 94 to 122 (fun s122 wx => s122 = .bool false ∧ Below wr.heap.size wr wx)
                      case first =>
                        refine wp_region_noPanic ?_
                        refine wp_region_held_drew (S := fun w' => Below wr.heap.size wr w') (by kernel_rfl) (Below.refl _ _).drew (fun hS => ?_)
                        generalize wr.drew = wd at hS ⊢
                        refine wpAnyH_take (i := 0) (v := ?_) (by simp only [List.getElem?_toArray, List.getElem?_cons_succ, List.getElem?_cons_zero] <;> exact rfl) (by kernel_rfl) (by kernel_rfl) (by kernel_rfl) (fun _ _ _ h => h) (Or.inl ⟨by rfl, ?_⟩) hS ?_
                        rotate_left
                        focus (intro w' hw'; obtain ⟨k0, k1, k2⟩ := qcells (HVQ.out.blk.keep hw'); go_simp; all_goals with_reducible rfl)
                        try simp only [Act.put, List.setIfInBounds_toArray, List.set_cons_zero, List.set_cons_succ]
                        refine wpAnyH_ready (rs := [1]) (by kernel_rfl) (by simp) ?_
                        refine AllReadyH.cons (o := _) (by simp only [List.getElem?_toArray, List.getElem?_cons_succ, List.getElem?_cons_zero] <;> exact rfl) (fun K hK => ?_) ?_
                        focus (
                          go_simp
                          go_at_call 14
                          refine (HCK.out _ (HVQ.out.ql.keep hS)).mono ?_
                          rintro e wc1 ⟨rfl, hb⟩
                          have hS := hS.trans (hb.mono hS.size)
                          clear hb
                          go_wp2_with fail
                          refine hK.out _ _ hS (fun _ => ?_)
                          clear hK K
                          try simp only [Act.put, List.setIfInBounds_toArray, List.set_cons_zero, List.set_cons_succ]
                          refine wpAnyH_take (i := 2) (v := ?_) (by simp only [List.getElem?_toArray, List.getElem?_cons_succ, List.getElem?_cons_zero] <;> exact rfl) (by kernel_rfl) (by kernel_rfl) (by kernel_rfl) (fun _ _ _ h => h) (Or.inl ⟨by rfl, ?_⟩) hS ?_
                          rotate_left
                          focus (intro w' hw'; go_simp; all_goals with_reducible rfl)
                          try simp only [Act.put, List.setIfInBounds_toArray, List.set_cons_zero, List.set_cons_succ]
                          refine wpAnyH_take (i := 3) (v := ?_) (by simp only [List.getElem?_toArray, List.getElem?_cons_succ, List.getElem?_cons_zero] <;> exact rfl) (by kernel_rfl) (by kernel_rfl) (by kernel_rfl) (fun _ _ _ h => h) (Or.inl ⟨by rfl, ?_⟩) hS ?_
                          rotate_left
                          focus (intro w' hw'; go_simp; all_goals with_reducible rfl)
                          try simp only [Act.put, List.setIfInBounds_toArray, List.set_cons_zero, List.set_cons_succ]
                          refine wpAnyH_take (i := 4) (v := ?_) (by simp only [List.getElem?_toArray, List.getElem?_cons_succ, List.getElem?_cons_zero] <;> exact rfl) (by kernel_rfl) (by kernel_rfl) (by kernel_rfl) (fun _ _ _ h => h) (Or.inl ⟨by rfl, ?_⟩) hS ?_
                          rotate_left
                          focus (intro w' hw'; obtain ⟨k0, k1, k2⟩ := qcells (HVQ.out.blk.keep hw'); go_simp; all_goals with_reducible rfl)
                          try simp only [Act.put, List.setIfInBounds_toArray, List.set_cons_zero, List.set_cons_succ]
                          refine wpAnyH_take (i := 6) (v := ?_) (by simp only [List.getElem?_toArray, List.getElem?_cons_succ, List.getElem?_cons_zero] <;> exact rfl) (by kernel_rfl) (by kernel_rfl) (by kernel_rfl) (fun _ _ _ h => h) (Or.inl ⟨by rfl, ?_⟩) hS ?_
                          rotate_left
                          focus (intro w' hw'; go_simp; all_goals with_reducible rfl)
                          try simp only [Act.put, List.setIfInBounds_toArray, List.set_cons_zero, List.set_cons_succ]
                          refine wpAnyH_take (i := 7) (v := ?_) (by simp only [List.getElem?_toArray, List.getElem?_cons_succ, List.getElem?_cons_zero] <;> exact rfl) (by kernel_rfl) (by kernel_rfl) (by kernel_rfl) (fun _ _ _ h => h) (Or.inl ⟨by rfl, ?_⟩) hS ?_
                          rotate_left
                          focus (intro w' hw'; go_simp; all_goals with_reducible rfl)
                          try simp only [Act.put, List.setIfInBounds_toArray, List.set_cons_zero, List.set_cons_succ]
                          refine wpAnyH_take (i := 8) (v := ?_) (by simp only [List.getElem?_toArray, List.getElem?_cons_succ, List.getElem?_cons_zero] <;> exact rfl) (by kernel_rfl) (by kernel_rfl) (by kernel_rfl) (fun _ _ _ h => h) (Or.inl ⟨by rfl, ?_⟩) hS ?_
                          rotate_left
                          focus (intro w' hw'; go_simp; all_goals with_reducible rfl)
                          try simp only [Act.put, List.setIfInBounds_toArray, List.set_cons_zero, List.set_cons_succ]
                          refine wpAnyH_take (i := 9) (v := ?_) (by simp only [List.getElem?_toArray, List.getElem?_cons_succ, List.getElem?_cons_zero] <;> exact rfl) (by kernel_rfl) (by kernel_rfl) (by kernel_rfl) (fun _ _ _ h => h) (Or.inl ⟨by rfl, ?_⟩) hS ?_
                          rotate_left
                          focus (intro w' hw'; go_simp; all_goals with_reducible rfl)
                          try simp only [Act.put, List.setIfInBounds_toArray, List.set_cons_zero, List.set_cons_succ]
                          refine wpAnyH_take (i := 10) (v := ?_) (by simp only [List.getElem?_toArray, List.getElem?_cons_succ, List.getElem?_cons_zero] <;> exact rfl) (by kernel_rfl) (by kernel_rfl) (by kernel_rfl) (fun _ _ _ h => h) (Or.inl ⟨by rfl, ?_⟩) hS ?_
                          rotate_left
                          focus (intro w' hw'; have hh := HE1.out; have hh0 := HE0.out; go_simp; all_goals with_reducible rfl)
                          try simp only [Act.put, List.setIfInBounds_toArray, List.set_cons_zero, List.set_cons_succ]
                          refine wpAnyH_ready (rs := [5]) (by kernel_rfl) (by simp) ?_
                          refine AllReadyH.cons (o := _) (by simp only [List.getElem?_toArray, List.getElem?_cons_succ, List.getElem?_cons_zero] <;> exact rfl) (fun K hK => ?_) ?_
                          focus (
                            go_simp
                            go_at_call 16
                            refine (HLN.out _ (HVQ.out.ql.keep hS)).mono ?_
                            rintro e wc2 ⟨rfl, hb⟩
                            have hS := hS.trans (hb.mono hS.size)
                            clear hb
                            go_wp2_with fail
                            refine hK.out _ _ hS (fun _ => ?_)
                            clear hK K
                            try simp only [Act.put, List.setIfInBounds_toArray, List.set_cons_zero, List.set_cons_succ]
                            refine wpAnyH_take (i := 11) (v := ?_) (by simp only [List.getElem?_toArray, List.getElem?_cons_succ, List.getElem?_cons_zero] <;> exact rfl) (by kernel_rfl) (by kernel_rfl) (by kernel_rfl) (fun _ _ _ h => h) (Or.inl ⟨by rfl, ?_⟩) hS ?_
                            rotate_left
                            focus (intro w' hw'; go_simp; all_goals with_reducible rfl)
                            try simp only [Act.put, List.setIfInBounds_toArray, List.set_cons_zero, List.set_cons_succ]
                            refine wpAnyH_take (i := 12) (v := ?_) (by simp only [List.getElem?_toArray, List.getElem?_cons_succ, List.getElem?_cons_zero] <;> exact rfl) (by kernel_rfl) (by kernel_rfl) (by kernel_rfl) (fun _ _ _ h => h) (Or.inl ⟨by rfl, ?_⟩) hS ?_
                            rotate_left
                            focus (intro w' hw'; go_simp; all_goals with_reducible rfl)
                            try simp only [Act.put, List.setIfInBounds_toArray, List.set_cons_zero, List.set_cons_succ]
                            refine wpAnyH_take (i := 13) (v := ?_) (by simp only [List.getElem?_toArray, List.getElem?_cons_succ, List.getElem?_cons_zero] <;> exact rfl) (by kernel_rfl) (by kernel_rfl) (by kernel_rfl) (fun _ _ _ h => h) (Or.inl ⟨by rfl, ?_⟩) hS ?_
                            rotate_left
                            focus (intro w' hw'; go_simp; all_goals with_reducible rfl)
                            try simp only [Act.put, List.setIfInBounds_toArray, List.set_cons_zero, List.set_cons_succ]
                            refine wpAnyH_take (i := 14) (v := ?_) (by simp only [List.getElem?_toArray, List.getElem?_cons_succ, List.getElem?_cons_zero] <;> exact rfl) (by kernel_rfl) (by kernel_rfl) (by kernel_rfl) (fun _ _ _ h => h) (Or.inl ⟨by rfl, ?_⟩) hS ?_
                            rotate_left
                            focus (intro w' hw'; obtain ⟨k0, k1, k2⟩ := qcells (HVQ.out.blk.keep hw'); go_simp; all_goals with_reducible rfl)
                            try simp only [Act.put, List.setIfInBounds_toArray, List.set_cons_zero, List.set_cons_succ]
                            refine wpAnyH_take (i := 16) (v := ?_) (by simp only [List.getElem?_toArray, List.getElem?_cons_succ, List.getElem?_cons_zero] <;> exact rfl) (by kernel_rfl) (by kernel_rfl) (by kernel_rfl) (fun _ _ _ h => h) (Or.inl ⟨by rfl, ?_⟩) hS ?_
                            rotate_left
                            focus (intro w' hw'; obtain ⟨k0, k1, k2⟩ := qcells (HVQ.out.blk.keep hw'); go_simp; all_goals with_reducible rfl)
                            try simp only [Act.put, List.setIfInBounds_toArray, List.set_cons_zero, List.set_cons_succ]
                            refine wpAnyH_ready (rs := [15]) (by kernel_rfl) (by simp) ?_
                            refine AllReadyH.cons (o := _) (by simp only [List.getElem?_toArray, List.getElem?_cons_succ, List.getElem?_cons_zero] <;> exact rfl) (fun K hK => ?_) ?_
                            focus (
                              go_simp
                              go_at_call 18
                              refine (HRM.out _ (HVQ.out.ql.keep hS)).mono ?_
                              rintro e wc3 ⟨rfl, hb⟩
                              have hS := hS.trans (hb.mono hS.size)
                              clear hb
                              go_wp2_with fail
                              refine hK.out _ _ hS (fun _ => ?_)
                              clear hK K
                              try simp only [Act.put, List.setIfInBounds_toArray, List.set_cons_zero, List.set_cons_succ]
                              refine wpAnyH_ready (rs := [17]) (by kernel_rfl) (by simp) ?_
                              refine AllReadyH.cons (o := _) (by simp only [List.getElem?_toArray, List.getElem?_cons_succ, List.getElem?_cons_zero] <;> exact rfl) (fun K hK => ?_) ?_
                              focus (
                                go_simp
                                go_at_call 16
                                refine (HLN.out _ (HVQ.out.ql.keep hS)).mono ?_
                                rintro e wc4 ⟨rfl, hb⟩
                                have hS := hS.trans (hb.mono hS.size)
                                clear hb
                                go_wp2_with fail
                                refine hK.out _ _ hS (fun _ => ?_)
                                clear hK K
                                try simp only [Act.put, List.setIfInBounds_toArray, List.set_cons_zero, List.set_cons_succ]
                                refine wpAnyH_take (i := 18) (v := ?_) (by simp only [List.getElem?_toArray, List.getElem?_cons_succ, List.getElem?_cons_zero] <;> exact rfl) (by kernel_rfl) (by kernel_rfl) (by kernel_rfl) (fun _ _ _ h => h) (Or.inl ⟨by rfl, ?_⟩) hS ?_
                                rotate_left
                                focus (intro w' hw'; have hh := HE2.out; go_simp; all_goals with_reducible rfl)
                                try simp only [Act.put, List.setIfInBounds_toArray, List.set_cons_zero, List.set_cons_succ]
                                refine wpAnyH_take (i := 19) (v := ?_) (by simp only [List.getElem?_toArray, List.getElem?_cons_succ, List.getElem?_cons_zero] <;> exact rfl) (by kernel_rfl) (by kernel_rfl) (by kernel_rfl) (fun _ _ _ h => h) (Or.inl ⟨by rfl, ?_⟩) hS ?_
                                rotate_left
                                focus (intro w' hw'; go_simp; all_goals with_reducible rfl)
                                try simp only [Act.put, List.setIfInBounds_toArray, List.set_cons_zero, List.set_cons_succ]
                                refine wpAnyH_take (i := 20) (v := ?_) (by simp only [List.getElem?_toArray, List.getElem?_cons_succ, List.getElem?_cons_zero] <;> exact rfl) (by kernel_rfl) (by kernel_rfl) (by kernel_rfl) (fun _ _ _ h => h) (Or.inl ⟨by rfl, ?_⟩) hS ?_
                                rotate_left
                                focus (intro w' hw'; go_simp; all_goals with_reducible rfl)
                                try simp only [Act.put, List.setIfInBounds_toArray, List.set_cons_zero, List.set_cons_succ]
                                refine wpAnyH_take (i := 21) (v := ?_) (by simp only [List.getElem?_toArray, List.getElem?_cons_succ, List.getElem?_cons_zero] <;> exact rfl) (by kernel_rfl) (by kernel_rfl) (by kernel_rfl) (fun _ _ _ h => h) (Or.inl ⟨by rfl, ?_⟩) hS ?_
                                rotate_left
                                focus (intro w' hw'; go_simp; all_goals with_reducible rfl)
                                try simp only [Act.put, List.setIfInBounds_toArray, List.set_cons_zero, List.set_cons_succ]
                                refine wpAnyH_take (i := 22) (v := ?_) (by simp only [List.getElem?_toArray, List.getElem?_cons_succ, List.getElem?_cons_zero] <;> exact rfl) (by kernel_rfl) (by kernel_rfl) (by kernel_rfl) (fun _ _ _ h => h) (Or.inl ⟨by rfl, ?_⟩) hS ?_
                                rotate_left
                                focus (intro w' hw'; go_simp; all_goals with_reducible rfl)
                                try simp only [Act.put, List.setIfInBounds_toArray, List.set_cons_zero, List.set_cons_succ]
                                refine wpAnyH_take (i := 23) (v := ?_) (by simp only [List.getElem?_toArray, List.getElem?_cons_succ, List.getElem?_cons_zero] <;> exact rfl) (by kernel_rfl) (by kernel_rfl) (by kernel_rfl) (fun _ _ _ h => h) (Or.inl ⟨by rfl, ?_⟩) hS ?_
                                rotate_left
                                focus (intro w' hw'; go_simp; all_goals with_reducible rfl)
                                try simp only [Act.put, List.setIfInBounds_toArray, List.set_cons_zero, List.set_cons_succ]
                                refine wpAnyH_take (i := 24) (v := ?_) (by simp only [List.getElem?_toArray, List.getElem?_cons_succ, List.getElem?_cons_zero] <;> exact rfl) (by kernel_rfl) (by kernel_rfl) (by kernel_rfl) (fun _ _ _ h => h) (Or.inl ⟨by rfl, ?_⟩) hS ?_
                                rotate_left
                                focus (intro w' hw'; go_simp; all_goals with_reducible rfl)
                                try simp only [Act.put, List.setIfInBounds_toArray, List.set_cons_zero, List.set_cons_succ]
                                refine wpAnyH_take (i := 25) (v := ?_) (by simp only [List.getElem?_toArray, List.getElem?_cons_succ, List.getElem?_cons_zero] <;> exact rfl) (by kernel_rfl) (by kernel_rfl) (by kernel_rfl) (fun _ _ _ h => h) (Or.inl ⟨by rfl, ?_⟩) hS ?_
                                rotate_left
                                focus (intro w' hw'; have hh := HE3.out; have hh2 := HE4.out; go_simp; all_goals with_reducible rfl)
                                try simp only [Act.put, List.setIfInBounds_toArray, List.set_cons_zero, List.set_cons_succ]
                                refine wpAnyH_take (i := 26) (v := ?_) (by simp only [List.getElem?_toArray, List.getElem?_cons_succ, List.getElem?_cons_zero] <;> exact rfl) (by kernel_rfl) (by kernel_rfl) (by kernel_rfl) (fun _ _ _ h => h) (Or.inl ⟨by rfl, ?_⟩) hS ?_
                                rotate_left
                                focus (intro w' hw'; go_simp; all_goals with_reducible rfl)
                                try simp only [Act.put, List.setIfInBounds_toArray, List.set_cons_zero, List.set_cons_succ]
                                refine wpAnyH_take (i := 27) (v := ?_) (by simp only [List.getElem?_toArray, List.getElem?_cons_succ, List.getElem?_cons_zero] <;> exact rfl) (by kernel_rfl) (by kernel_rfl) (by kernel_rfl) (fun _ _ _ h => h) (Or.inl ⟨by rfl, ?_⟩) hS ?_
                                rotate_left
                                focus (intro w' hw'; have hh := HE5.out; go_simp; all_goals with_reducible rfl)
                                try simp only [Act.put, List.setIfInBounds_toArray, List.set_cons_zero, List.set_cons_succ]
                                refine wpAnyH_take (i := 28) (v := ?_) (by simp only [List.getElem?_toArray, List.getElem?_cons_succ, List.getElem?_cons_zero] <;> exact rfl) (by kernel_rfl) (by kernel_rfl) (by kernel_rfl) (fun _ _ _ h => h) (Or.inl ⟨by rfl, ?_⟩) hS ?_
                                rotate_left
                                focus (intro w' hw'; go_simp; all_goals with_reducible rfl)
                                try simp only [Act.put, List.setIfInBounds_toArray, List.set_cons_zero, List.set_cons_succ]
                                refine wpAnyH_done (by kernel_rfl) ?_ _
                                refine NoPanic.normal ?_
                                go_wp2_with fail
                                go_meet
                                exact ⟨rfl, hS⟩)
                              exact AllReadyH.nil)
                            exact AllReadyH.nil)
                          exact AllReadyH.nil)
                        exact AllReadyH.nil
                      case rest =>
                        obtain ⟨rfl, hb⟩ := hcut
                        have HVQ := hide (HVQ.out.keep hb)
                        have HBL := hide (HBL.out.trans (hb.mono HBL.out.size))
                        clear hb HCK HLN HRM HE0 HE1 HE2 HE3 HE4 HE5
                        go_wp2
                        go_roundw
                        case rel => exact ⟨i + 1, q, C, W, k, Aq, nq, cq, by omega, by go_num, rfl, rfl, rfl, by omega, HOR.out, HVQ.out, HBL.out⟩
                        case measure => simp [intOf]; omega
                  · rcases Int.lt_or_eq_of_le hm with hm | hm
                    · have HMI := hide hm
                      have HCN := hide (show (k1 : Int) = z by have h1 := HWE.out; have h2 := HK1.out; omega)
                      clear hm
                      go_upto_region 18 with (fail)
                      go_cut [86] from 76 to 86 (fun s86 wx => s86 = .bool false ∧ Below wr.heap.size wr wx)
                      case first =>
                        refine wp_region_noPanic ?_
                        refine wp_region_held_drew (S := fun w' => Below wr.heap.size wr w') (by kernel_rfl) (Below.refl _ _).drew (fun hS => ?_)
                        generalize wr.drew = wd at hS ⊢
                        refine wpAnyH_take (i := 0) (v := ?_) (by simp only [List.getElem?_toArray, List.getElem?_cons_succ, List.getElem?_cons_zero] <;> exact rfl) (by kernel_rfl) (by kernel_rfl) (by kernel_rfl) (fun _ _ _ h => h) (Or.inl ⟨by rfl, ?_⟩) hS ?_
                        rotate_left
                        focus (intro w' hw'; go_simp; all_goals with_reducible rfl)
                        try simp only [Act.put, List.setIfInBounds_toArray, List.set_cons_zero, List.set_cons_succ]
                        refine wpAnyH_take (i := 1) (v := ?_) (by simp only [List.getElem?_toArray, List.getElem?_cons_succ, List.getElem?_cons_zero] <;> exact rfl) (by kernel_rfl) (by kernel_rfl) (by kernel_rfl) (fun _ _ _ h => h) (Or.inl ⟨by rfl, ?_⟩) hS ?_
                        rotate_left
                        focus (intro w' hw'; go_simp; all_goals with_reducible rfl)
                        try simp only [Act.put, List.setIfInBounds_toArray, List.set_cons_zero, List.set_cons_succ]
                        refine wpAnyH_take (i := 2) (v := ?_) (by simp only [List.getElem?_toArray, List.getElem?_cons_succ, List.getElem?_cons_zero] <;> exact rfl) (by kernel_rfl) (by kernel_rfl) (by kernel_rfl) (fun _ _ _ h => h) (Or.inl ⟨by rfl, ?_⟩) hS ?_
                        rotate_left
                        focus (intro w' hw'; go_simp; all_goals with_reducible rfl)
                        try simp only [Act.put, List.setIfInBounds_toArray, List.set_cons_zero, List.set_cons_succ]
                        refine wpAnyH_take (i := 3) (v := ?_) (by simp only [List.getElem?_toArray, List.getElem?_cons_succ, List.getElem?_cons_zero] <;> exact rfl) (by kernel_rfl) (by kernel_rfl) (by kernel_rfl) (fun _ _ _ h => h) (Or.inl ⟨by rfl, ?_⟩) hS ?_
                        rotate_left
                        focus (intro w' hw'; go_simp; all_goals with_reducible rfl)
                        try simp only [Act.put, List.setIfInBounds_toArray, List.set_cons_zero, List.set_cons_succ]
                        refine wpAnyH_take (i := 4) (v := ?_) (by simp only [List.getElem?_toArray, List.getElem?_cons_succ, List.getElem?_cons_zero] <;> exact rfl) (by kernel_rfl) (by kernel_rfl) (by kernel_rfl) (fun _ _ _ h => h) (Or.inl ⟨by rfl, ?_⟩) hS ?_
                        rotate_left
                        focus (intro w' hw'; go_simp; all_goals with_reducible rfl)
                        try simp only [Act.put, List.setIfInBounds_toArray, List.set_cons_zero, List.set_cons_succ]
                        refine wpAnyH_take (i := 5) (v := ?_) (by simp only [List.getElem?_toArray, List.getElem?_cons_succ, List.getElem?_cons_zero] <;> exact rfl) (by kernel_rfl) (by kernel_rfl) (by kernel_rfl) (fun _ _ _ h => h) (Or.inl ⟨by rfl, ?_⟩) hS ?_
                        rotate_left
                        focus (intro w' hw'; have kk := HYK.out _ (HBL.out.trans (hw'.mono HBL.out.size)); go_simp; all_goals with_reducible rfl)
                        try simp only [Act.put, List.setIfInBounds_toArray, List.set_cons_zero, List.set_cons_succ]
                        refine wpAnyH_take (i := 6) (v := ?_) (by simp only [List.getElem?_toArray, List.getElem?_cons_succ, List.getElem?_cons_zero] <;> exact rfl) (by kernel_rfl) (by kernel_rfl) (by kernel_rfl) (fun _ _ _ h => h) (Or.inl ⟨by rfl, ?_⟩) hS ?_
                        rotate_left
                        focus (intro w' hw'; have hh := HYW.out; go_simp; all_goals with_reducible rfl)
                        try simp only [Act.put, List.setIfInBounds_toArray, List.set_cons_zero, List.set_cons_succ]
                        refine wpAnyH_take (i := 7) (v := ?_) (by simp only [List.getElem?_toArray, List.getElem?_cons_succ, List.getElem?_cons_zero] <;> exact rfl) (by kernel_rfl) (by kernel_rfl) (by kernel_rfl) (fun _ _ _ h => h) (Or.inl ⟨by rfl, ?_⟩) hS ?_
                        rotate_left
                        focus (intro w' hw'; obtain ⟨k0, k1, k2⟩ := qcells (HVQ.out.blk.keep hw'); go_simp; all_goals with_reducible rfl)
                        try simp only [Act.put, List.setIfInBounds_toArray, List.set_cons_zero, List.set_cons_succ]
                        refine wpAnyH_ready (rs := [8]) (by kernel_rfl) (by simp) ?_
                        refine AllReadyH.cons (o := _) (by simp only [List.getElem?_toArray, List.getElem?_cons_succ, List.getElem?_cons_zero] <;> exact rfl) (fun K hK => ?_) ?_
                        focus (
                          go_simp
                          go_at_call 16
                          refine (HLN.out _ (HVQ.out.ql.keep hS)).mono ?_
                          rintro e wc1 ⟨rfl, hb⟩
                          have hS := hS.trans (hb.mono hS.size)
                          clear hb
                          go_wp2_with fail
                          refine hK.out _ _ hS (fun _ => ?_)
                          clear hK K
                          try simp only [Act.put, List.setIfInBounds_toArray, List.set_cons_zero, List.set_cons_succ]
                          refine wpAnyH_take (i := 9) (v := ?_) (by simp only [List.getElem?_toArray, List.getElem?_cons_succ, List.getElem?_cons_zero] <;> exact rfl) (by kernel_rfl) (by kernel_rfl) (by kernel_rfl) (fun _ _ _ h => h) (Or.inl ⟨by rfl, ?_⟩) hS ?_
                          rotate_left
                          focus (intro w' hw'; have h1 := HMI.out; go_simp; all_goals with_reducible rfl)
                          try simp only [Act.put, List.setIfInBounds_toArray, List.set_cons_zero, List.set_cons_succ]
                          refine wpAnyH_take (i := 10) (v := ?_) (by simp only [List.getElem?_toArray, List.getElem?_cons_succ, List.getElem?_cons_zero] <;> exact rfl) (by kernel_rfl) (by kernel_rfl) (by kernel_rfl) (fun _ _ _ h => h) (Or.inl ⟨by rfl, ?_⟩) hS ?_
                          rotate_left
                          focus (intro w' hw'; have h2 := HCN.out; go_simp; all_goals with_reducible rfl)
                          try simp only [Act.put, List.setIfInBounds_toArray, List.set_cons_zero, List.set_cons_succ]
                          refine wpAnyH_done (by kernel_rfl) ?_ _
                          refine NoPanic.normal ?_
                          go_wp2_with fail
                          go_meet
                          exact ⟨rfl, hS⟩)
                        exact AllReadyH.nil
                      case rest =>
                        obtain ⟨rfl, hb⟩ := hcut
                        have HX1 := hide (HX1.out.keep hb)
                        have HR1 := hide (HR1.out.below hb)
                        have HVQ := hide (HVQ.out.keep hb)
                        have HBL := hide (HBL.out.trans (hb.mono HBL.out.size))
                        clear hb HLN HMI HCN HV5
                        obtain ⟨wr, hwr⟩ : ∃ x, x = wc := ⟨_, rfl⟩
                        subst hwr
                        obtain ⟨k0, k1, k2⟩ := qcells HX1.out.blk
                        go_upto_region 21 with (refine wpList_q_blk 28 pq_size rfl (.tmp 5) (.tmp 87) b5 A1 n1 c1 q1.m q1.g _ _ _ rfl HVQ.out.blk rfl rfl ?_; intro wv hk kb; have HV2 := hide (show VQ 28 wv b5 A1 n1 c1 q1 from ⟨hk, HX1.out.ql.onto HVQ.out.blk (qc_tx _ _ _ _ _) kb⟩); have HR2 := hide (HR1.out.onto HVQ.out.blk (qc_u8 _ _ _ _ _) kb); have HBL := hide (below_kbq HBL.out kb (Nat.le_refl _) HB5.out); clear hk kb)
                        obtain ⟨W0, hW0⟩ : ∃ W0, W0 = W ++ strOfNums db := ⟨_, rfl⟩
                        rw [← hW0] at HOR1
                        have hst := rb_string d1 HR2.out
                        have hsz : ¬ 9223372036854775807 < W.size + (strOfNums db).size := by
                          have h1 := HOR1.out.size
                          have h2 := HOR1.out.sum
                          rw [hW0, ← bts_len (W ++ strOfNums db), bts_app, List.length_append, bts_len, bts_len] at h1
                          omega
                        have hW1 : W ++ strOfNums db = W0 := hW0.symm
                        clear k0 k1 k2 HX1 HVQ HF1 hW0 HWE HK1 HYK HYW HR1
                        go_upto_region 23 with (fail)
                        clear hst hsz hW1 HR2
                        have HOR := HOR1
                        have HVQ := HV2
                        clear HOR1 HV2
                        generalize W0 = W at *
                        generalize q1 = q at *
                        generalize A1 = Aq at *
                        generalize n1 = nq at *
                        generalize c1 = cq at *
                        obtain ⟨wr, hwr⟩ : ∃ x, x = wv := ⟨_, rfl⟩
                        subst hwr
                        obtain ⟨k2, hk2⟩ : ∃ k2, k2 = k + 1 := ⟨_, rfl⟩
                        rw [show (k : Int) + 1 = (k2 : Int) by omega]
                        have hk2n : k2 ≤ nb := by omega
                        clear hk2 hk hkb hkb' hidx hidx0
                        obtain ⟨k, hkk⟩ : ∃ k, k = k2 := ⟨_, rfl⟩
                        subst hkk
                        have HCK := hide (fun w' (h : QL w' q Aq nq cq) => HOR.out.chk ▸ oq_Check q Aq nq cq w' h)
                        have HLN := hide (fun w' (h : QL w' q Aq nq cq) => oq_Len q Aq nq cq w' h)
                        have HRM := hide (fun w' (h : QL w' q Aq nq cq) => HOR.out.room ▸ oq_Room q Aq nq cq w' h)
                        have HE1 := hide (show (C.size : Int) - (W.size : Int) = (lenL q.ps : Int) by have := HOR.out.size; omega)
                        have HE0 := hide (show IntKind.i64.wrap (lenL q.ps : Int) = (lenL q.ps : Int) from IntWalk.i64_in _ (by have := HOR.out.ok.len; omega))
                        have HE2 := hide (show IntKind.i64.wrap (65536 - (lenL q.ps : Int)) = 65536 - (lenL q.ps : Int) from IntWalk.i64_in _ (by have := HOR.out.ok.len; omega))
                        have HE3 := hide (show (W.size : Int) ≤ (C.size : Int) by have := HOR.out.size; omega)
                        have HE4 := hide HOR.out.front
                        have HE5 := hide (str_same (a := W) (b := W) rfl)
                        go_upto_region 23 with (fail)
                        go_cut [122] from 94 to 122 (fun s122 wx => s122 = .bool false ∧ Below wr.heap.size wr wx)
                        case first =>
                          refine wp_region_noPanic ?_
                          refine wp_region_held_drew (S := fun w' => Below wr.heap.size wr w') (by kernel_rfl) (Below.refl _ _).drew (fun hS => ?_)
                          generalize wr.drew = wd at hS ⊢
                          refine wpAnyH_take (i := 0) (v := ?_) (by simp only [List.getElem?_toArray, List.getElem?_cons_succ, List.getElem?_cons_zero] <;> exact rfl) (by kernel_rfl) (by kernel_rfl) (by kernel_rfl) (fun _ _ _ h => h) (Or.inl ⟨by rfl, ?_⟩) hS ?_
                          rotate_left
                          focus (intro w' hw'; obtain ⟨k0, k1, k2⟩ := qcells (HVQ.out.blk.keep hw'); go_simp; all_goals with_reducible rfl)
                          try simp only [Act.put, List.setIfInBounds_toArray, List.set_cons_zero, List.set_cons_succ]
                          refine wpAnyH_ready (rs := [1]) (by kernel_rfl) (by simp) ?_
                          refine AllReadyH.cons (o := _) (by simp only [List.getElem?_toArray, List.getElem?_cons_succ, List.getElem?_cons_zero] <;> exact rfl) (fun K hK => ?_) ?_
                          focus (
                            go_simp
                            go_at_call 14
                            refine (HCK.out _ (HVQ.out.ql.keep hS)).mono ?_
                            rintro e wc1 ⟨rfl, hb⟩
                            have hS := hS.trans (hb.mono hS.size)
                            clear hb
                            go_wp2_with fail
                            refine hK.out _ _ hS (fun _ => ?_)
                            clear hK K
                            try simp only [Act.put, List.setIfInBounds_toArray, List.set_cons_zero, List.set_cons_succ]
                            refine wpAnyH_take (i := 2) (v := ?_) (by simp only [List.getElem?_toArray, List.getElem?_cons_succ, List.getElem?_cons_zero] <;> exact rfl) (by kernel_rfl) (by kernel_rfl) (by kernel_rfl) (fun _ _ _ h => h) (Or.inl ⟨by rfl, ?_⟩) hS ?_
                            rotate_left
                            focus (intro w' hw'; go_simp; all_goals with_reducible rfl)
                            try simp only [Act.put, List.setIfInBounds_toArray, List.set_cons_zero, List.set_cons_succ]
                            refine wpAnyH_take (i := 3) (v := ?_) (by simp only [List.getElem?_toArray, List.getElem?_cons_succ, List.getElem?_cons_zero] <;> exact rfl) (by kernel_rfl) (by kernel_rfl) (by kernel_rfl) (fun _ _ _ h => h) (Or.inl ⟨by rfl, ?_⟩) hS ?_
                            rotate_left
                            focus (intro w' hw'; go_simp; all_goals with_reducible rfl)
                            try simp only [Act.put, List.setIfInBounds_toArray, List.set_cons_zero, List.set_cons_succ]
                            refine wpAnyH_take (i := 4) (v := ?_) (by simp only [List.getElem?_toArray, List.getElem?_cons_succ, List.getElem?_cons_zero] <;> exact rfl) (by kernel_rfl) (by kernel_rfl) (by kernel_rfl) (fun _ _ _ h => h) (Or.inl ⟨by rfl, ?_⟩) hS ?_
                            rotate_left
                            focus (intro w' hw'; obtain ⟨k0, k1, k2⟩ := qcells (HVQ.out.blk.keep hw'); go_simp; all_goals with_reducible rfl)
                            try simp only [Act.put, List.setIfInBounds_toArray, List.set_cons_zero, List.set_cons_succ]
                            refine wpAnyH_take (i := 6) (v := ?_) (by simp only [List.getElem?_toArray, List.getElem?_cons_succ, List.getElem?_cons_zero] <;> exact rfl) (by kernel_rfl) (by kernel_rfl) (by kernel_rfl) (fun _ _ _ h => h) (Or.inl ⟨by rfl, ?_⟩) hS ?_
                            rotate_left
                            focus (intro w' hw'; go_simp; all_goals with_reducible rfl)
                            try simp only [Act.put, List.setIfInBounds_toArray, List.set_cons_zero, List.set_cons_succ]
                            refine wpAnyH_take (i := 7) (v := ?_) (by simp only [List.getElem?_toArray, List.getElem?_cons_succ, List.getElem?_cons_zero] <;> exact rfl) (by kernel_rfl) (by kernel_rfl) (by kernel_rfl) (fun _ _ _ h => h) (Or.inl ⟨by rfl, ?_⟩) hS ?_
                            rotate_left
                            focus (intro w' hw'; go_simp; all_goals with_reducible rfl)
                            try simp only [Act.put, List.setIfInBounds_toArray, List.set_cons_zero, List.set_cons_succ]
                            refine wpAnyH_take (i := 8) (v := ?_) (by simp only [List.getElem?_toArray, List.getElem?_cons_succ, List.getElem?_cons_zero] <;> exact rfl) (by kernel_rfl) (by kernel_rfl) (by kernel_rfl) (fun _ _ _ h => h) (Or.inl ⟨by rfl, ?_⟩) hS ?_
                            rotate_left
                            focus (intro w' hw'; go_simp; all_goals with_reducible rfl)
                            try simp only [Act.put, List.setIfInBounds_toArray, List.set_cons_zero, List.set_cons_succ]
                            refine wpAnyH_take (i := 9) (v := ?_) (by simp only [List.getElem?_toArray, List.getElem?_cons_succ, List.getElem?_cons_zero] <;> exact rfl) (by kernel_rfl) (by kernel_rfl) (by kernel_rfl) (fun _ _ _ h => h) (Or.inl ⟨by rfl, ?_⟩) hS ?_
                            rotate_left
                            focus (intro w' hw'; go_simp; all_goals with_reducible rfl)
                            try simp only [Act.put, List.setIfInBounds_toArray, List.set_cons_zero, List.set_cons_succ]
                            refine wpAnyH_take (i := 10) (v := ?_) (by simp only [List.getElem?_toArray, List.getElem?_cons_succ, List.getElem?_cons_zero] <;> exact rfl) (by kernel_rfl) (by kernel_rfl) (by kernel_rfl) (fun _ _ _ h => h) (Or.inl ⟨by rfl, ?_⟩) hS ?_
                            rotate_left
                            focus (intro w' hw'; have hh := HE1.out; have hh0 := HE0.out; go_simp; all_goals with_reducible rfl)
                            try simp only [Act.put, List.setIfInBounds_toArray, List.set_cons_zero, List.set_cons_succ]
                            refine wpAnyH_ready (rs := [5]) (by kernel_rfl) (by simp) ?_
                            refine AllReadyH.cons (o := _) (by simp only [List.getElem?_toArray, List.getElem?_cons_succ, List.getElem?_cons_zero] <;> exact rfl) (fun K hK => ?_) ?_
                            focus (
                              go_simp
                              go_at_call 16
                              refine (HLN.out _ (HVQ.out.ql.keep hS)).mono ?_
                              rintro e wc2 ⟨rfl, hb⟩
                              have hS := hS.trans (hb.mono hS.size)
                              clear hb
                              go_wp2_with fail
                              refine hK.out _ _ hS (fun _ => ?_)
                              clear hK K
                              try simp only [Act.put, List.setIfInBounds_toArray, List.set_cons_zero, List.set_cons_succ]
                              refine wpAnyH_take (i := 11) (v := ?_) (by simp only [List.getElem?_toArray, List.getElem?_cons_succ, List.getElem?_cons_zero] <;> exact rfl) (by kernel_rfl) (by kernel_rfl) (by kernel_rfl) (fun _ _ _ h => h) (Or.inl ⟨by rfl, ?_⟩) hS ?_
                              rotate_left
                              focus (intro w' hw'; go_simp; all_goals with_reducible rfl)
                              try simp only [Act.put, List.setIfInBounds_toArray, List.set_cons_zero, List.set_cons_succ]
                              refine wpAnyH_take (i := 12) (v := ?_) (by simp only [List.getElem?_toArray, List.getElem?_cons_succ, List.getElem?_cons_zero] <;> exact rfl) (by kernel_rfl) (by kernel_rfl) (by kernel_rfl) (fun _ _ _ h => h) (Or.inl ⟨by rfl, ?_⟩) hS ?_
                              rotate_left
                              focus (intro w' hw'; go_simp; all_goals with_reducible rfl)
                              try simp only [Act.put, List.setIfInBounds_toArray, List.set_cons_zero, List.set_cons_succ]
                              refine wpAnyH_take (i := 13) (v := ?_) (by simp only [List.getElem?_toArray, List.getElem?_cons_succ, List.getElem?_cons_zero] <;> exact rfl) (by kernel_rfl) (by kernel_rfl) (by kernel_rfl) (fun _ _ _ h => h) (Or.inl ⟨by rfl, ?_⟩) hS ?_
                              rotate_left
                              focus (intro w' hw'; go_simp; all_goals with_reducible rfl)
                              try simp only [Act.put, List.setIfInBounds_toArray, List.set_cons_zero, List.set_cons_succ]
                              refine wpAnyH_take (i := 14) (v := ?_) (by simp only [List.getElem?_toArray, List.getElem?_cons_succ, List.getElem?_cons_zero] <;> exact rfl) (by kernel_rfl) (by kernel_rfl) (by kernel_rfl) (fun _ _ _ h => h) (Or.inl ⟨by rfl, ?_⟩) hS ?_
                              rotate_left
                              focus (intro w' hw'; obtain ⟨k0, k1, k2⟩ := qcells (HVQ.out.blk.keep hw'); go_simp; all_goals with_reducible rfl)
                              try simp only [Act.put, List.setIfInBounds_toArray, List.set_cons_zero, List.set_cons_succ]
                              refine wpAnyH_take (i := 16) (v := ?_) (by simp only [List.getElem?_toArray, List.getElem?_cons_succ, List.getElem?_cons_zero] <;> exact rfl) (by kernel_rfl) (by kernel_rfl) (by kernel_rfl) (fun _ _ _ h => h) (Or.inl ⟨by rfl, ?_⟩) hS ?_
                              rotate_left
                              focus (intro w' hw'; obtain ⟨k0, k1, k2⟩ := qcells (HVQ.out.blk.keep hw'); go_simp; all_goals with_reducible rfl)
                              try simp only [Act.put, List.setIfInBounds_toArray, List.set_cons_zero, List.set_cons_succ]
                              refine wpAnyH_ready (rs := [15]) (by kernel_rfl) (by simp) ?_
                              refine AllReadyH.cons (o := _) (by simp only [List.getElem?_toArray, List.getElem?_cons_succ, List.getElem?_cons_zero] <;> exact rfl) (fun K hK => ?_) ?_
                              focus (
                                go_simp
                                go_at_call 18
                                refine (HRM.out _ (HVQ.out.ql.keep hS)).mono ?_
                                rintro e wc3 ⟨rfl, hb⟩
                                have hS := hS.trans (hb.mono hS.size)
                                clear hb
                                go_wp2_with fail
                                refine hK.out _ _ hS (fun _ => ?_)
                                clear hK K
                                try simp only [Act.put, List.setIfInBounds_toArray, List.set_cons_zero, List.set_cons_succ]
                                refine wpAnyH_ready (rs := [17]) (by kernel_rfl) (by simp) ?_
                                refine AllReadyH.cons (o := _) (by simp only [List.getElem?_toArray, List.getElem?_cons_succ, List.getElem?_cons_zero] <;> exact rfl) (fun K hK => ?_) ?_
                                focus (
                                  go_simp
                                  go_at_call 16
                                  refine (HLN.out _ (HVQ.out.ql.keep hS)).mono ?_
                                  rintro e wc4 ⟨rfl, hb⟩
                                  have hS := hS.trans (hb.mono hS.size)
                                  clear hb
                                  go_wp2_with fail
                                  refine hK.out _ _ hS (fun _ => ?_)
                                  clear hK K
                                  try simp only [Act.put, List.setIfInBounds_toArray, List.set_cons_zero, List.set_cons_succ]
                                  refine wpAnyH_take (i := 18) (v := ?_) (by simp only [List.getElem?_toArray, List.getElem?_cons_succ, List.getElem?_cons_zero] <;> exact rfl) (by kernel_rfl) (by kernel_rfl) (by kernel_rfl) (fun _ _ _ h => h) (Or.inl ⟨by rfl, ?_⟩) hS ?_
                                  rotate_left
                                  focus (intro w' hw'; have hh := HE2.out; go_simp; all_goals with_reducible rfl)
                                  try simp only [Act.put, List.setIfInBounds_toArray, List.set_cons_zero, List.set_cons_succ]
                                  refine wpAnyH_take (i := 19) (v := ?_) (by simp only [List.getElem?_toArray, List.getElem?_cons_succ, List.getElem?_cons_zero] <;> exact rfl) (by kernel_rfl) (by kernel_rfl) (by kernel_rfl) (fun _ _ _ h => h) (Or.inl ⟨by rfl, ?_⟩) hS ?_
                                  rotate_left
                                  focus (intro w' hw'; go_simp; all_goals with_reducible rfl)
                                  try simp only [Act.put, List.setIfInBounds_toArray, List.set_cons_zero, List.set_cons_succ]
                                  refine wpAnyH_take (i := 20) (v := ?_) (by simp only [List.getElem?_toArray, List.getElem?_cons_succ, List.getElem?_cons_zero] <;> exact rfl) (by kernel_rfl) (by kernel_rfl) (by kernel_rfl) (fun _ _ _ h => h) (Or.inl ⟨by rfl, ?_⟩) hS ?_
                                  rotate_left
                                  focus (intro w' hw'; go_simp; all_goals with_reducible rfl)
                                  try simp only [Act.put, List.setIfInBounds_toArray, List.set_cons_zero, List.set_cons_succ]
                                  refine wpAnyH_take (i := 21) (v := ?_) (by simp only [List.getElem?_toArray, List.getElem?_cons_succ, List.getElem?_cons_zero] <;> exact rfl) (by kernel_rfl) (by kernel_rfl) (by kernel_rfl) (fun _ _ _ h => h) (Or.inl ⟨by rfl, ?_⟩) hS ?_
                                  rotate_left
                                  focus (intro w' hw'; go_simp; all_goals with_reducible rfl)
                                  try simp only [Act.put, List.setIfInBounds_toArray, List.set_cons_zero, List.set_cons_succ]
                                  refine wpAnyH_take (i := 22) (v := ?_) (by simp only [List.getElem?_toArray, List.getElem?_cons_succ, List.getElem?_cons_zero] <;> exact rfl) (by kernel_rfl) (by kernel_rfl) (by kernel_rfl) (fun _ _ _ h => h) (Or.inl ⟨by rfl, ?_⟩) hS ?_
                                  rotate_left
                                  focus (intro w' hw'; go_simp; all_goals with_reducible rfl)
                                  try simp only [Act.put, List.setIfInBounds_toArray, List.set_cons_zero, List.set_cons_succ]
                                  refine wpAnyH_take (i := 23) (v := ?_) (by simp only [List.getElem?_toArray, List.getElem?_cons_succ, List.getElem?_cons_zero] <;> exact rfl) (by kernel_rfl) (by kernel_rfl) (by kernel_rfl) (fun _ _ _ h => h) (Or.inl ⟨by rfl, ?_⟩) hS ?_
                                  rotate_left
                                  focus (intro w' hw'; go_simp; all_goals with_reducible rfl)
                                  try simp only [Act.put, List.setIfInBounds_toArray, List.set_cons_zero, List.set_cons_succ]
                                  refine wpAnyH_take (i := 24) (v := ?_) (by simp only [List.getElem?_toArray, List.getElem?_cons_succ, List.getElem?_cons_zero] <;> exact rfl) (by kernel_rfl) (by kernel_rfl) (by kernel_rfl) (fun _ _ _ h => h) (Or.inl ⟨by rfl, ?_⟩) hS ?_
                                  rotate_left
                                  focus (intro w' hw'; go_simp; all_goals with_reducible rfl)
                                  try simp only [Act.put, List.setIfInBounds_toArray, List.set_cons_zero, List.set_cons_succ]
                                  refine wpAnyH_take (i := 25) (v := ?_) (by simp only [List.getElem?_toArray, List.getElem?_cons_succ, List.getElem?_cons_zero] <;> exact rfl) (by kernel_rfl) (by kernel_rfl) (by kernel_rfl) (fun _ _ _ h => h) (Or.inl ⟨by rfl, ?_⟩) hS ?_
                                  rotate_left
                                  focus (intro w' hw'; have hh := HE3.out; have hh2 := HE4.out; go_simp; all_goals with_reducible rfl)
                                  try simp only [Act.put, List.setIfInBounds_toArray, List.set_cons_zero, List.set_cons_succ]
                                  refine wpAnyH_take (i := 26) (v := ?_) (by simp only [List.getElem?_toArray, List.getElem?_cons_succ, List.getElem?_cons_zero] <;> exact rfl) (by kernel_rfl) (by kernel_rfl) (by kernel_rfl) (fun _ _ _ h => h) (Or.inl ⟨by rfl, ?_⟩) hS ?_
                                  rotate_left
                                  focus (intro w' hw'; go_simp; all_goals with_reducible rfl)
                                  try simp only [Act.put, List.setIfInBounds_toArray, List.set_cons_zero, List.set_cons_succ]
                                  refine wpAnyH_take (i := 27) (v := ?_) (by simp only [List.getElem?_toArray, List.getElem?_cons_succ, List.getElem?_cons_zero] <;> exact rfl) (by kernel_rfl) (by kernel_rfl) (by kernel_rfl) (fun _ _ _ h => h) (Or.inl ⟨by rfl, ?_⟩) hS ?_
                                  rotate_left
                                  focus (intro w' hw'; have hh := HE5.out; go_simp; all_goals with_reducible rfl)
                                  try simp only [Act.put, List.setIfInBounds_toArray, List.set_cons_zero, List.set_cons_succ]
                                  refine wpAnyH_take (i := 28) (v := ?_) (by simp only [List.getElem?_toArray, List.getElem?_cons_succ, List.getElem?_cons_zero] <;> exact rfl) (by kernel_rfl) (by kernel_rfl) (by kernel_rfl) (fun _ _ _ h => h) (Or.inl ⟨by rfl, ?_⟩) hS ?_
                                  rotate_left
                                  focus (intro w' hw'; go_simp; all_goals with_reducible rfl)
                                  try simp only [Act.put, List.setIfInBounds_toArray, List.set_cons_zero, List.set_cons_succ]
                                  refine wpAnyH_done (by kernel_rfl) ?_ _
                                  refine NoPanic.normal ?_
                                  go_wp2_with fail
                                  go_meet
                                  exact ⟨rfl, hS⟩)
                                exact AllReadyH.nil)
                              exact AllReadyH.nil)
                            exact AllReadyH.nil)
                          exact AllReadyH.nil
                        case rest =>
                          obtain ⟨rfl, hb⟩ := hcut
                          have HVQ := hide (HVQ.out.keep hb)
                          have HBL := hide (HBL.out.trans (hb.mono HBL.out.size))
                          clear hb HCK HLN HRM HE0 HE1 HE2 HE3 HE4 HE5
                          go_wp2
                          go_roundw
                          case rel => exact ⟨i + 1, q, C, W, k, Aq, nq, cq, by omega, by go_num, rfl, rfl, rfl, by omega, HOR.out, HVQ.out, HBL.out⟩
                          case measure => simp [intOf]; omega

                    · have HMI := hide hm
                      have HCN := hide (show (k1 : Int) = (lenL q.ps : Int) by have h1 := HWE.out; have h2 := HK1.out; omega)
                      clear hm
                      go_upto_region 18 with (fail)
                      go_cut [86] from 76 to 86 (fun s86 wx => s86 = .bool false ∧ Below wr.heap.size wr wx)
                      case first =>
                        refine wp_region_noPanic ?_
                        refine wp_region_held_drew (S := fun w' => Below wr.heap.size wr w') (by kernel_rfl) (Below.refl _ _).drew (fun hS => ?_)
                        generalize wr.drew = wd at hS ⊢
                        refine wpAnyH_take (i := 0) (v := ?_) (by simp only [List.getElem?_toArray, List.getElem?_cons_succ, List.getElem?_cons_zero] <;> exact rfl) (by kernel_rfl) (by kernel_rfl) (by kernel_rfl) (fun _ _ _ h => h) (Or.inl ⟨by rfl, ?_⟩) hS ?_
                        rotate_left
                        focus (intro w' hw'; go_simp; all_goals with_reducible rfl)
                        try simp only [Act.put, List.setIfInBounds_toArray, List.set_cons_zero, List.set_cons_succ]
                        refine wpAnyH_take (i := 1) (v := ?_) (by simp only [List.getElem?_toArray, List.getElem?_cons_succ, List.getElem?_cons_zero] <;> exact rfl) (by kernel_rfl) (by kernel_rfl) (by kernel_rfl) (fun _ _ _ h => h) (Or.inl ⟨by rfl, ?_⟩) hS ?_
                        rotate_left
                        focus (intro w' hw'; go_simp; all_goals with_reducible rfl)
                        try simp only [Act.put, List.setIfInBounds_toArray, List.set_cons_zero, List.set_cons_succ]
                        refine wpAnyH_take (i := 2) (v := ?_) (by simp only [List.getElem?_toArray, List.getElem?_cons_succ, List.getElem?_cons_zero] <;> exact rfl) (by kernel_rfl) (by kernel_rfl) (by kernel_rfl) (fun _ _ _ h => h) (Or.inl ⟨by rfl, ?_⟩) hS ?_
                        rotate_left
                        focus (intro w' hw'; go_simp; all_goals with_reducible rfl)
                        try simp only [Act.put, List.setIfInBounds_toArray, List.set_cons_zero, List.set_cons_succ]
                        refine wpAnyH_take (i := 3) (v := ?_) (by simp only [List.getElem?_toArray, List.getElem?_cons_succ, List.getElem?_cons_zero] <;> exact rfl) (by kernel_rfl) (by kernel_rfl) (by kernel_rfl) (fun _ _ _ h => h) (Or.inl ⟨by rfl, ?_⟩) hS ?_
                        rotate_left
                        focus (intro w' hw'; go_simp; all_goals with_reducible rfl)
                        try simp only [Act.put, List.setIfInBounds_toArray, List.set_cons_zero, List.set_cons_succ]
                        refine wpAnyH_take (i := 4) (v := ?_) (by simp only [List.getElem?_toArray, List.getElem?_cons_succ, List.getElem?_cons_zero] <;> exact rfl) (by kernel_rfl) (by kernel_rfl) (by kernel_rfl) (fun _ _ _ h => h) (Or.inl ⟨by rfl, ?_⟩) hS ?_
                        rotate_left
                        focus (intro w' hw'; go_simp; all_goals with_reducible rfl)
                        try simp only [Act.put, List.setIfInBounds_toArray, List.set_cons_zero, List.set_cons_succ]
                        refine wpAnyH_take (i := 5) (v := ?_) (by simp only [List.getElem?_toArray, List.getElem?_cons_succ, List.getElem?_cons_zero] <;> exact rfl) (by kernel_rfl) (by kernel_rfl) (by kernel_rfl) (fun _ _ _ h => h) (Or.inl ⟨by rfl, ?_⟩) hS ?_
                        rotate_left
                        focus (intro w' hw'; have kk := HYK.out _ (HBL.out.trans (hw'.mono HBL.out.size)); go_simp; all_goals with_reducible rfl)
                        try simp only [Act.put, List.setIfInBounds_toArray, List.set_cons_zero, List.set_cons_succ]
                        refine wpAnyH_take (i := 6) (v := ?_) (by simp only [List.getElem?_toArray, List.getElem?_cons_succ, List.getElem?_cons_zero] <;> exact rfl) (by kernel_rfl) (by kernel_rfl) (by kernel_rfl) (fun _ _ _ h => h) (Or.inl ⟨by rfl, ?_⟩) hS ?_
                        rotate_left
                        focus (intro w' hw'; have hh := HYW.out; go_simp; all_goals with_reducible rfl)
                        try simp only [Act.put, List.setIfInBounds_toArray, List.set_cons_zero, List.set_cons_succ]
                        refine wpAnyH_take (i := 7) (v := ?_) (by simp only [List.getElem?_toArray, List.getElem?_cons_succ, List.getElem?_cons_zero] <;> exact rfl) (by kernel_rfl) (by kernel_rfl) (by kernel_rfl) (fun _ _ _ h => h) (Or.inl ⟨by rfl, ?_⟩) hS ?_
                        rotate_left
                        focus (intro w' hw'; obtain ⟨k0, k1, k2⟩ := qcells (HVQ.out.blk.keep hw'); go_simp; all_goals with_reducible rfl)
                        try simp only [Act.put, List.setIfInBounds_toArray, List.set_cons_zero, List.set_cons_succ]
                        refine wpAnyH_ready (rs := [8]) (by kernel_rfl) (by simp) ?_
                        refine AllReadyH.cons (o := _) (by simp only [List.getElem?_toArray, List.getElem?_cons_succ, List.getElem?_cons_zero] <;> exact rfl) (fun K hK => ?_) ?_
                        focus (
                          go_simp
                          go_at_call 16
                          refine (HLN.out _ (HVQ.out.ql.keep hS)).mono ?_
                          rintro e wc1 ⟨rfl, hb⟩
                          have hS := hS.trans (hb.mono hS.size)
                          clear hb
                          go_wp2_with fail
                          refine hK.out _ _ hS (fun _ => ?_)
                          clear hK K
                          try simp only [Act.put, List.setIfInBounds_toArray, List.set_cons_zero, List.set_cons_succ]
                          refine wpAnyH_take (i := 9) (v := ?_) (by simp only [List.getElem?_toArray, List.getElem?_cons_succ, List.getElem?_cons_zero] <;> exact rfl) (by kernel_rfl) (by kernel_rfl) (by kernel_rfl) (fun _ _ _ h => h) (Or.inl ⟨by rfl, ?_⟩) hS ?_
                          rotate_left
                          focus (intro w' hw'; have h1 := HMI.out; go_simp; all_goals with_reducible rfl)
                          try simp only [Act.put, List.setIfInBounds_toArray, List.set_cons_zero, List.set_cons_succ]
                          refine wpAnyH_take (i := 10) (v := ?_) (by simp only [List.getElem?_toArray, List.getElem?_cons_succ, List.getElem?_cons_zero] <;> exact rfl) (by kernel_rfl) (by kernel_rfl) (by kernel_rfl) (fun _ _ _ h => h) (Or.inl ⟨by rfl, ?_⟩) hS ?_
                          rotate_left
                          focus (intro w' hw'; have h2 := HCN.out; go_simp; all_goals with_reducible rfl)
                          try simp only [Act.put, List.setIfInBounds_toArray, List.set_cons_zero, List.set_cons_succ]
                          refine wpAnyH_done (by kernel_rfl) ?_ _
                          refine NoPanic.normal ?_
                          go_wp2_with fail
                          go_meet
                          exact ⟨rfl, hS⟩)
                        exact AllReadyH.nil
                      case rest =>
                        obtain ⟨rfl, hb⟩ := hcut
                        have HX1 := hide (HX1.out.keep hb)
                        have HR1 := hide (HR1.out.below hb)
                        have HVQ := hide (HVQ.out.keep hb)
                        have HBL := hide (HBL.out.trans (hb.mono HBL.out.size))
                        clear hb HLN HMI HCN HV5
                        obtain ⟨wr, hwr⟩ : ∃ x, x = wc := ⟨_, rfl⟩
                        subst hwr
                        obtain ⟨k0, k1, k2⟩ := qcells HX1.out.blk
                        go_upto_region 21 with (refine wpList_q_blk 28 pq_size rfl (.tmp 5) (.tmp 87) b5 A1 n1 c1 q1.m q1.g _ _ _ rfl HVQ.out.blk rfl rfl ?_; intro wv hk kb; have HV2 := hide (show VQ 28 wv b5 A1 n1 c1 q1 from ⟨hk, HX1.out.ql.onto HVQ.out.blk (qc_tx _ _ _ _ _) kb⟩); have HR2 := hide (HR1.out.onto HVQ.out.blk (qc_u8 _ _ _ _ _) kb); have HBL := hide (below_kbq HBL.out kb (Nat.le_refl _) HB5.out); clear hk kb)
                        obtain ⟨W0, hW0⟩ : ∃ W0, W0 = W ++ strOfNums db := ⟨_, rfl⟩
                        rw [← hW0] at HOR1
                        have hst := rb_string d1 HR2.out
                        have hsz : ¬ 9223372036854775807 < W.size + (strOfNums db).size := by
                          have h1 := HOR1.out.size
                          have h2 := HOR1.out.sum
                          rw [hW0, ← bts_len (W ++ strOfNums db), bts_app, List.length_append, bts_len, bts_len] at h1
                          omega
                        have hW1 : W ++ strOfNums db = W0 := hW0.symm
                        clear k0 k1 k2 HX1 HVQ HF1 hW0 HWE HK1 HYK HYW HR1
                        go_upto_region 23 with (fail)
                        clear hst hsz hW1 HR2
                        have HOR := HOR1
                        have HVQ := HV2
                        clear HOR1 HV2
                        generalize W0 = W at *
                        generalize q1 = q at *
                        generalize A1 = Aq at *
                        generalize n1 = nq at *
                        generalize c1 = cq at *
                        obtain ⟨wr, hwr⟩ : ∃ x, x = wv := ⟨_, rfl⟩
                        subst hwr
                        obtain ⟨k2, hk2⟩ : ∃ k2, k2 = k + 1 := ⟨_, rfl⟩
                        rw [show (k : Int) + 1 = (k2 : Int) by omega]
                        have hk2n : k2 ≤ nb := by omega
                        clear hk2 hk hkb hkb' hidx hidx0
                        obtain ⟨k, hkk⟩ : ∃ k, k = k2 := ⟨_, rfl⟩
                        subst hkk
                        have HCK := hide (fun w' (h : QL w' q Aq nq cq) => HOR.out.chk ▸ oq_Check q Aq nq cq w' h)
                        have HLN := hide (fun w' (h : QL w' q Aq nq cq) => oq_Len q Aq nq cq w' h)
                        have HRM := hide (fun w' (h : QL w' q Aq nq cq) => HOR.out.room ▸ oq_Room q Aq nq cq w' h)
                        have HE1 := hide (show (C.size : Int) - (W.size : Int) = (lenL q.ps : Int) by have := HOR.out.size; omega)
                        have HE0 := hide (show IntKind.i64.wrap (lenL q.ps : Int) = (lenL q.ps : Int) from IntWalk.i64_in _ (by have := HOR.out.ok.len; omega))
                        have HE2 := hide (show IntKind.i64.wrap (65536 - (lenL q.ps : Int)) = 65536 - (lenL q.ps : Int) from IntWalk.i64_in _ (by have := HOR.out.ok.len; omega))
                        have HE3 := hide (show (W.size : Int) ≤ (C.size : Int) by have := HOR.out.size; omega)
                        have HE4 := hide HOR.out.front
                        have HE5 := hide (str_same (a := W) (b := W) rfl)
                        go_upto_region 23 with (fail)
                        go_cut [122] from 94 to 122 (fun s122 wx => s122 = .bool false ∧ Below wr.heap.size wr wx)
                        case first =>
                          refine wp_region_noPanic ?_
                          refine wp_region_held_drew (S := fun w' => Below wr.heap.size wr w') (by kernel_rfl) (Below.refl _ _).drew (fun hS => ?_)
                          generalize wr.drew = wd at hS ⊢
                          refine wpAnyH_take (i := 0) (v := ?_) (by simp only [List.getElem?_toArray, List.getElem?_cons_succ, List.getElem?_cons_zero] <;> exact rfl) (by kernel_rfl) (by kernel_rfl) (by kernel_rfl) (fun _ _ _ h => h) (Or.inl ⟨by rfl, ?_⟩) hS ?_
                          rotate_left
                          focus (intro w' hw'; obtain ⟨k0, k1, k2⟩ := qcells (HVQ.out.blk.keep hw'); go_simp; all_goals with_reducible rfl)
                          try simp only [Act.put, List.setIfInBounds_toArray, List.set_cons_zero, List.set_cons_succ]
                          refine wpAnyH_ready (rs := [1]) (by kernel_rfl) (by simp) ?_
                          refine AllReadyH.cons (o := _) (by simp only [List.getElem?_toArray, List.getElem?_cons_succ, List.getElem?_cons_zero] <;> exact rfl) (fun K hK => ?_) ?_
                          focus (
                            go_simp
                            go_at_call 14
                            refine (HCK.out _ (HVQ.out.ql.keep hS)).mono ?_
                            rintro e wc1 ⟨rfl, hb⟩
                            have hS := hS.trans (hb.mono hS.size)
                            clear hb
                            go_wp2_with fail
                            refine hK.out _ _ hS (fun _ => ?_)
                            clear hK K
                            try simp only [Act.put, List.setIfInBounds_toArray, List.set_cons_zero, List.set_cons_succ]
                            refine wpAnyH_take (i := 2) (v := ?_) (by simp only [List.getElem?_toArray, List.getElem?_cons_succ, List.getElem?_cons_zero] <;> exact rfl) (by kernel_rfl) (by kernel_rfl) (by kernel_rfl) (fun _ _ _ h => h) (Or.inl ⟨by rfl, ?_⟩) hS ?_
                            rotate_left
                            focus (intro w' hw'; go_simp; all_goals with_reducible rfl)
                            try simp only [Act.put, List.setIfInBounds_toArray, List.set_cons_zero, List.set_cons_succ]
                            refine wpAnyH_take (i := 3) (v := ?_) (by simp only [List.getElem?_toArray, List.getElem?_cons_succ, List.getElem?_cons_zero] <;> exact rfl) (by kernel_rfl) (by kernel_rfl) (by kernel_rfl) (fun _ _ _ h => h) (Or.inl ⟨by rfl, ?_⟩) hS ?_
                            rotate_left
                            focus (intro w' hw'; go_simp; all_goals with_reducible rfl)
                            try simp only [Act.put, List.setIfInBounds_toArray, List.set_cons_zero, List.set_cons_succ]
                            refine wpAnyH_take (i := 4) (v := ?_) (by simp only [List.getElem?_toArray, List.getElem?_cons_succ, List.getElem?_cons_zero] <;> exact rfl) (by kernel_rfl) (by kernel_rfl) (by kernel_rfl) (fun _ _ _ h => h) (Or.inl ⟨by rfl, ?_⟩) hS ?_
                            rotate_left
                            focus (intro w' hw'; obtain ⟨k0, k1, k2⟩ := qcells (HVQ.out.blk.keep hw'); go_simp; all_goals with_reducible rfl)
                            try simp only [Act.put, List.setIfInBounds_toArray, List.set_cons_zero, List.set_cons_succ]
                            refine wpAnyH_take (i := 6) (v := ?_) (by simp only [List.getElem?_toArray, List.getElem?_cons_succ, List.getElem?_cons_zero] <;> exact rfl) (by kernel_rfl) (by kernel_rfl) (by kernel_rfl) (fun _ _ _ h => h) (Or.inl ⟨by rfl, ?_⟩) hS ?_
                            rotate_left
                            focus (intro w' hw'; go_simp; all_goals with_reducible rfl)
                            try simp only [Act.put, List.setIfInBounds_toArray, List.set_cons_zero, List.set_cons_succ]
                            refine wpAnyH_take (i := 7) (v := ?_) (by simp only [List.getElem?_toArray, List.getElem?_cons_succ, List.getElem?_cons_zero] <;> exact rfl) (by kernel_rfl) (by kernel_rfl) (by kernel_rfl) (fun _ _ _ h => h) (Or.inl ⟨by rfl, ?_⟩) hS ?_
                            rotate_left
                            focus (intro w' hw'; go_simp; all_goals with_reducible rfl)
                            try simp only [Act.put, List.setIfInBounds_toArray, List.set_cons_zero, List.set_cons_succ]
                            refine wpAnyH_take (i := 8) (v := ?_) (by simp only [List.getElem?_toArray, List.getElem?_cons_succ, List.getElem?_cons_zero] <;> exact rfl) (by kernel_rfl) (by kernel_rfl) (by kernel_rfl) (fun _ _ _ h => h) (Or.inl ⟨by rfl, ?_⟩) hS ?_
                            rotate_left
                            focus (intro w' hw'; go_simp; all_goals with_reducible rfl)
                            try simp only [Act.put, List.setIfInBounds_toArray, List.set_cons_zero, List.set_cons_succ]
                            refine wpAnyH_take (i := 9) (v := ?_) (by simp only [List.getElem?_toArray, List.getElem?_cons_succ, List.getElem?_cons_zero] <;> exact rfl) (by kernel_rfl) (by kernel_rfl) (by kernel_rfl) (fun _ _ _ h => h) (Or.inl ⟨by rfl, ?_⟩) hS ?_
                            rotate_left
                            focus (intro w' hw'; go_simp; all_goals with_reducible rfl)
                            try simp only [Act.put, List.setIfInBounds_toArray, List.set_cons_zero, List.set_cons_succ]
                            refine wpAnyH_take (i := 10) (v := ?_) (by simp only [List.getElem?_toArray, List.getElem?_cons_succ, List.getElem?_cons_zero] <;> exact rfl) (by kernel_rfl) (by kernel_rfl) (by kernel_rfl) (fun _ _ _ h => h) (Or.inl ⟨by rfl, ?_⟩) hS ?_
                            rotate_left
                            focus (intro w' hw'; have hh := HE1.out; have hh0 := HE0.out; go_simp; all_goals with_reducible rfl)
                            try simp only [Act.put, List.setIfInBounds_toArray, List.set_cons_zero, List.set_cons_succ]
                            refine wpAnyH_ready (rs := [5]) (by kernel_rfl) (by simp) ?_
                            refine AllReadyH.cons (o := _) (by simp only [List.getElem?_toArray, List.getElem?_cons_succ, List.getElem?_cons_zero] <;> exact rfl) (fun K hK => ?_) ?_
                            focus (
                              go_simp
                              go_at_call 16
                              refine (HLN.out _ (HVQ.out.ql.keep hS)).mono ?_
                              rintro e wc2 ⟨rfl, hb⟩
                              have hS := hS.trans (hb.mono hS.size)
                              clear hb
                              go_wp2_with fail
                              refine hK.out _ _ hS (fun _ => ?_)
                              clear hK K
                              try simp only [Act.put, List.setIfInBounds_toArray, List.set_cons_zero, List.set_cons_succ]
                              refine wpAnyH_take (i := 11) (v := ?_) (by simp only [List.getElem?_toArray, List.getElem?_cons_succ, List.getElem?_cons_zero] <;> exact rfl) (by kernel_rfl) (by kernel_rfl) (by kernel_rfl) (fun _ _ _ h => h) (Or.inl ⟨by rfl, ?_⟩) hS ?_
                              rotate_left
                              focus (intro w' hw'; go_simp; all_goals with_reducible rfl)
                              try simp only [Act.put, List.setIfInBounds_toArray, List.set_cons_zero, List.set_cons_succ]
                              refine wpAnyH_take (i := 12) (v := ?_) (by simp only [List.getElem?_toArray, List.getElem?_cons_succ, List.getElem?_cons_zero] <;> exact rfl) (by kernel_rfl) (by kernel_rfl) (by kernel_rfl) (fun _ _ _ h => h) (Or.inl ⟨by rfl, ?_⟩) hS ?_
                              rotate_left
                              focus (intro w' hw'; go_simp; all_goals with_reducible rfl)
                              try simp only [Act.put, List.setIfInBounds_toArray, List.set_cons_zero, List.set_cons_succ]
                              refine wpAnyH_take (i := 13) (v := ?_) (by simp only [List.getElem?_toArray, List.getElem?_cons_succ, List.getElem?_cons_zero] <;> exact rfl) (by kernel_rfl) (by kernel_rfl) (by kernel_rfl) (fun _ _ _ h => h) (Or.inl ⟨by rfl, ?_⟩) hS ?_
                              rotate_left
                              focus (intro w' hw'; go_simp; all_goals with_reducible rfl)
                              try simp only [Act.put, List.setIfInBounds_toArray, List.set_cons_zero, List.set_cons_succ]
                              refine wpAnyH_take (i := 14) (v := ?_) (by simp only [List.getElem?_toArray, List.getElem?_cons_succ, List.getElem?_cons_zero] <;> exact rfl) (by kernel_rfl) (by kernel_rfl) (by kernel_rfl) (fun _ _ _ h => h) (Or.inl ⟨by rfl, ?_⟩) hS ?_
                              rotate_left
                              focus (intro w' hw'; obtain ⟨k0, k1, k2⟩ := qcells (HVQ.out.blk.keep hw'); go_simp; all_goals with_reducible rfl)
                              try simp only [Act.put, List.setIfInBounds_toArray, List.set_cons_zero, List.set_cons_succ]
                              refine wpAnyH_take (i := 16) (v := ?_) (by simp only [List.getElem?_toArray, List.getElem?_cons_succ, List.getElem?_cons_zero] <;> exact rfl) (by kernel_rfl) (by kernel_rfl) (by kernel_rfl) (fun _ _ _ h => h) (Or.inl ⟨by rfl, ?_⟩) hS ?_
                              rotate_left
                              focus (intro w' hw'; obtain ⟨k0, k1, k2⟩ := qcells (HVQ.out.blk.keep hw'); go_simp; all_goals with_reducible rfl)
                              try simp only [Act.put, List.setIfInBounds_toArray, List.set_cons_zero, List.set_cons_succ]
                              refine wpAnyH_ready (rs := [15]) (by kernel_rfl) (by simp) ?_
                              refine AllReadyH.cons (o := _) (by simp only [List.getElem?_toArray, List.getElem?_cons_succ, List.getElem?_cons_zero] <;> exact rfl) (fun K hK => ?_) ?_
                              focus (
                                go_simp
                                go_at_call 18
                                refine (HRM.out _ (HVQ.out.ql.keep hS)).mono ?_
                                rintro e wc3 ⟨rfl, hb⟩
                                have hS := hS.trans (hb.mono hS.size)
                                clear hb
                                go_wp2_with fail
                                refine hK.out _ _ hS (fun _ => ?_)
                                clear hK K
                                try simp only [Act.put, List.setIfInBounds_toArray, List.set_cons_zero, List.set_cons_succ]
                                refine wpAnyH_ready (rs := [17]) (by kernel_rfl) (by simp) ?_
                                refine AllReadyH.cons (o := _) (by simp only [List.getElem?_toArray, List.getElem?_cons_succ, List.getElem?_cons_zero] <;> exact rfl) (fun K hK => ?_) ?_
                                focus (
                                  go_simp
                                  go_at_call 16
                                  refine (HLN.out _ (HVQ.out.ql.keep hS)).mono ?_
                                  rintro e wc4 ⟨rfl, hb⟩
                                  have hS := hS.trans (hb.mono hS.size)
                                  clear hb
                                  go_wp2_with fail
                                  refine hK.out _ _ hS (fun _ => ?_)
                                  clear hK K
                                  try simp only [Act.put, List.setIfInBounds_toArray, List.set_cons_zero, List.set_cons_succ]
                                  refine wpAnyH_take (i := 18) (v := ?_) (by simp only [List.getElem?_toArray, List.getElem?_cons_succ, List.getElem?_cons_zero] <;> exact rfl) (by kernel_rfl) (by kernel_rfl) (by kernel_rfl) (fun _ _ _ h => h) (Or.inl ⟨by rfl, ?_⟩) hS ?_
                                  rotate_left
                                  focus (intro w' hw'; have hh := HE2.out; go_simp; all_goals with_reducible rfl)
                                  try simp only [Act.put, List.setIfInBounds_toArray, List.set_cons_zero, List.set_cons_succ]
                                  refine wpAnyH_take (i := 19) (v := ?_) (by simp only [List.getElem?_toArray, List.getElem?_cons_succ, List.getElem?_cons_zero] <;> exact rfl) (by kernel_rfl) (by kernel_rfl) (by kernel_rfl) (fun _ _ _ h => h) (Or.inl ⟨by rfl, ?_⟩) hS ?_
                                  rotate_left
                                  focus (intro w' hw'; go_simp; all_goals with_reducible rfl)
                                  try simp only [Act.put, List.setIfInBounds_toArray, List.set_cons_zero, List.set_cons_succ]
                                  refine wpAnyH_take (i := 20) (v := ?_) (by simp only [List.getElem?_toArray, List.getElem?_cons_succ, List.getElem?_cons_zero] <;> exact rfl) (by kernel_rfl) (by kernel_rfl) (by kernel_rfl) (fun _ _ _ h => h) (Or.inl ⟨by rfl, ?_⟩) hS ?_
                                  rotate_left
                                  focus (intro w' hw'; go_simp; all_goals with_reducible rfl)
                                  try simp only [Act.put, List.setIfInBounds_toArray, List.set_cons_zero, List.set_cons_succ]
                                  refine wpAnyH_take (i := 21) (v := ?_) (by simp only [List.getElem?_toArray, List.getElem?_cons_succ, List.getElem?_cons_zero] <;> exact rfl) (by kernel_rfl) (by kernel_rfl) (by kernel_rfl) (fun _ _ _ h => h) (Or.inl ⟨by rfl, ?_⟩) hS ?_
                                  rotate_left
                                  focus (intro w' hw'; go_simp; all_goals with_reducible rfl)
                                  try simp only [Act.put, List.setIfInBounds_toArray, List.set_cons_zero, List.set_cons_succ]
                                  refine wpAnyH_take (i := 22) (v := ?_) (by simp only [List.getElem?_toArray, List.getElem?_cons_succ, List.getElem?_cons_zero] <;> exact rfl) (by kernel_rfl) (by kernel_rfl) (by kernel_rfl) (fun _ _ _ h => h) (Or.inl ⟨by rfl, ?_⟩) hS ?_
                                  rotate_left
                                  focus (intro w' hw'; go_simp; all_goals with_reducible rfl)
                                  try simp only [Act.put, List.setIfInBounds_toArray, List.set_cons_zero, List.set_cons_succ]
                                  refine wpAnyH_take (i := 23) (v := ?_) (by simp only [List.getElem?_toArray, List.getElem?_cons_succ, List.getElem?_cons_zero] <;> exact rfl) (by kernel_rfl) (by kernel_rfl) (by kernel_rfl) (fun _ _ _ h => h) (Or.inl ⟨by rfl, ?_⟩) hS ?_
                                  rotate_left
                                  focus (intro w' hw'; go_simp; all_goals with_reducible rfl)
                                  try simp only [Act.put, List.setIfInBounds_toArray, List.set_cons_zero, List.set_cons_succ]
                                  refine wpAnyH_take (i := 24) (v := ?_) (by simp only [List.getElem?_toArray, List.getElem?_cons_succ, List.getElem?_cons_zero] <;> exact rfl) (by kernel_rfl) (by kernel_rfl) (by kernel_rfl) (fun _ _ _ h => h) (Or.inl ⟨by rfl, ?_⟩) hS ?_
                                  rotate_left
                                  focus (intro w' hw'; go_simp; all_goals with_reducible rfl)
                                  try simp only [Act.put, List.setIfInBounds_toArray, List.set_cons_zero, List.set_cons_succ]
                                  refine wpAnyH_take (i := 25) (v := ?_) (by simp only [List.getElem?_toArray, List.getElem?_cons_succ, List.getElem?_cons_zero] <;> exact rfl) (by kernel_rfl) (by kernel_rfl) (by kernel_rfl) (fun _ _ _ h => h) (Or.inl ⟨by rfl, ?_⟩) hS ?_
                                  rotate_left
                                  focus (intro w' hw'; have hh := HE3.out; have hh2 := HE4.out; go_simp; all_goals with_reducible rfl)
                                  try simp only [Act.put, List.setIfInBounds_toArray, List.set_cons_zero, List.set_cons_succ]
                                  refine wpAnyH_take (i := 26) (v := ?_) (by simp only [List.getElem?_toArray, List.getElem?_cons_succ, List.getElem?_cons_zero] <;> exact rfl) (by kernel_rfl) (by kernel_rfl) (by kernel_rfl) (fun _ _ _ h => h) (Or.inl ⟨by rfl, ?_⟩) hS ?_
                                  rotate_left
                                  focus (intro w' hw'; go_simp; all_goals with_reducible rfl)
                                  try simp only [Act.put, List.setIfInBounds_toArray, List.set_cons_zero, List.set_cons_succ]
                                  refine wpAnyH_take (i := 27) (v := ?_) (by simp only [List.getElem?_toArray, List.getElem?_cons_succ, List.getElem?_cons_zero] <;> exact rfl) (by kernel_rfl) (by kernel_rfl) (by kernel_rfl) (fun _ _ _ h => h) (Or.inl ⟨by rfl, ?_⟩) hS ?_
                                  rotate_left
                                  focus (intro w' hw'; have hh := HE5.out; go_simp; all_goals with_reducible rfl)
                                  try simp only [Act.put, List.setIfInBounds_toArray, List.set_cons_zero, List.set_cons_succ]
                                  refine wpAnyH_take (i := 28) (v := ?_) (by simp only [List.getElem?_toArray, List.getElem?_cons_succ, List.getElem?_cons_zero] <;> exact rfl) (by kernel_rfl) (by kernel_rfl) (by kernel_rfl) (fun _ _ _ h => h) (Or.inl ⟨by rfl, ?_⟩) hS ?_
                                  rotate_left
                                  focus (intro w' hw'; go_simp; all_goals with_reducible rfl)
                                  try simp only [Act.put, List.setIfInBounds_toArray, List.set_cons_zero, List.set_cons_succ]
                                  refine wpAnyH_done (by kernel_rfl) ?_ _
                                  refine NoPanic.normal ?_
                                  go_wp2_with fail
                                  go_meet
                                  exact ⟨rfl, hS⟩)
                                exact AllReadyH.nil)
                              exact AllReadyH.nil)
                            exact AllReadyH.nil)
                          exact AllReadyH.nil
                        case rest =>
                          obtain ⟨rfl, hb⟩ := hcut
                          have HVQ := hide (HVQ.out.keep hb)
                          have HBL := hide (HBL.out.trans (hb.mono HBL.out.size))
                          clear hb HCK HLN HRM HE0 HE1 HE2 HE3 HE4 HE5
                          go_wp2
                          go_roundw
                          case rel => exact ⟨i + 1, q, C, W, k, Aq, nq, cq, by omega, by go_num, rfl, rfl, rfl, by omega, HOR.out, HVQ.out, HBL.out⟩
                          case measure => simp [intOf]; omega

              · have hkb' : ¬ (k : Int) < (nb : Int) := by omega
                have HOR := hide HOR.out.skip
                go_upto_region 23 with (fail)
                clear c0
                have HCK := hide (fun w' (h : QL w' q Aq nq cq) => HOR.out.chk ▸ oq_Check q Aq nq cq w' h)
                have HLN := hide (fun w' (h : QL w' q Aq nq cq) => oq_Len q Aq nq cq w' h)
                have HRM := hide (fun w' (h : QL w' q Aq nq cq) => HOR.out.room ▸ oq_Room q Aq nq cq w' h)
                have HE1 := hide (show (C.size : Int) - (W.size : Int) = (lenL q.ps : Int) by have := HOR.out.size; omega)
                have HE0 := hide (show IntKind.i64.wrap (lenL q.ps : Int) = (lenL q.ps : Int) from IntWalk.i64_in _ (by have := HOR.out.ok.len; omega))
                have HE2 := hide (show IntKind.i64.wrap (65536 - (lenL q.ps : Int)) = 65536 - (lenL q.ps : Int) from IntWalk.i64_in _ (by have := HOR.out.ok.len; omega))
                have HE3 := hide (show (W.size : Int) ≤ (C.size : Int) by have := HOR.out.size; omega)
                have HE4 := hide HOR.out.front
                have HE5 := hide (str_same (a := W) (b := W) rfl)
                go_upto_region 23 with (fail)
                go_cut [122] from 94 to 122 (fun s122 wx => s122 = .bool false ∧ Below wr.heap.size wr wx)
                case first =>
                  refine wp_region_noPanic ?_
                  refine wp_region_held_drew (S := fun w' => Below wr.heap.size wr w') (by kernel_rfl) (Below.refl _ _).drew (fun hS => ?_)
                  generalize wr.drew = wd at hS ⊢
                  refine wpAnyH_take (i := 0) (v := ?_) (by simp only [List.getElem?_toArray, List.getElem?_cons_succ, List.getElem?_cons_zero] <;> exact rfl) (by kernel_rfl) (by kernel_rfl) (by kernel_rfl) (fun _ _ _ h => h) (Or.inl ⟨by rfl, ?_⟩) hS ?_
                  rotate_left
                  focus (intro w' hw'; obtain ⟨k0, k1, k2⟩ := qcells (HVQ.out.blk.keep hw'); go_simp; all_goals with_reducible rfl)
                  try simp only [Act.put, List.setIfInBounds_toArray, List.set_cons_zero, List.set_cons_succ]
                  refine wpAnyH_ready (rs := [1]) (by kernel_rfl) (by simp) ?_
                  refine AllReadyH.cons (o := _) (by simp only [List.getElem?_toArray, List.getElem?_cons_succ, List.getElem?_cons_zero] <;> exact rfl) (fun K hK => ?_) ?_
                  focus (
                    go_simp
                    go_at_call 14
                    refine (HCK.out _ (HVQ.out.ql.keep hS)).mono ?_
                    rintro e wc1 ⟨rfl, hb⟩
                    have hS := hS.trans (hb.mono hS.size)
                    clear hb
                    go_wp2_with fail
                    refine hK.out _ _ hS (fun _ => ?_)
                    clear hK K
                    try simp only [Act.put, List.setIfInBounds_toArray, List.set_cons_zero, List.set_cons_succ]
                    refine wpAnyH_take (i := 2) (v := ?_) (by simp only [List.getElem?_toArray, List.getElem?_cons_succ, List.getElem?_cons_zero] <;> exact rfl) (by kernel_rfl) (by kernel_rfl) (by kernel_rfl) (fun _ _ _ h => h) (Or.inl ⟨by rfl, ?_⟩) hS ?_
                    rotate_left
                    focus (intro w' hw'; go_simp; all_goals with_reducible rfl)
                    try simp only [Act.put, List.setIfInBounds_toArray, List.set_cons_zero, List.set_cons_succ]
                    refine wpAnyH_take (i := 3) (v := ?_) (by simp only [List.getElem?_toArray, List.getElem?_cons_succ, List.getElem?_cons_zero] <;> exact rfl) (by kernel_rfl) (by kernel_rfl) (by kernel_rfl) (fun _ _ _ h => h) (Or.inl ⟨by rfl, ?_⟩) hS ?_
                    rotate_left
                    focus (intro w' hw'; go_simp; all_goals with_reducible rfl)
                    try simp only [Act.put, List.setIfInBounds_toArray, List.set_cons_zero, List.set_cons_succ]
                    refine wpAnyH_take (i := 4) (v := ?_) (by simp only [List.getElem?_toArray, List.getElem?_cons_succ, List.getElem?_cons_zero] <;> exact rfl) (by kernel_rfl) (by kernel_rfl) (by kernel_rfl) (fun _ _ _ h => h) (Or.inl ⟨by rfl, ?_⟩) hS ?_
                    rotate_left
                    focus (intro w' hw'; obtain ⟨k0, k1, k2⟩ := qcells (HVQ.out.blk.keep hw'); go_simp; all_goals with_reducible rfl)
                    try simp only [Act.put, List.setIfInBounds_toArray, List.set_cons_zero, List.set_cons_succ]
                    refine wpAnyH_take (i := 6) (v := ?_) (by simp only [List.getElem?_toArray, List.getElem?_cons_succ, List.getElem?_cons_zero] <;> exact rfl) (by kernel_rfl) (by kernel_rfl) (by kernel_rfl) (fun _ _ _ h => h) (Or.inl ⟨by rfl, ?_⟩) hS ?_
                    rotate_left
                    focus (intro w' hw'; go_simp; all_goals with_reducible rfl)
                    try simp only [Act.put, List.setIfInBounds_toArray, List.set_cons_zero, List.set_cons_succ]
                    refine wpAnyH_take (i := 7) (v := ?_) (by simp only [List.getElem?_toArray, List.getElem?_cons_succ, List.getElem?_cons_zero] <;> exact rfl) (by kernel_rfl) (by kernel_rfl) (by kernel_rfl) (fun _ _ _ h => h) (Or.inl ⟨by rfl, ?_⟩) hS ?_
                    rotate_left
                    focus (intro w' hw'; go_simp; all_goals with_reducible rfl)
                    try simp only [Act.put, List.setIfInBounds_toArray, List.set_cons_zero, List.set_cons_succ]
                    refine wpAnyH_take (i := 8) (v := ?_) (by simp only [List.getElem?_toArray, List.getElem?_cons_succ, List.getElem?_cons_zero] <;> exact rfl) (by kernel_rfl) (by kernel_rfl) (by kernel_rfl) (fun _ _ _ h => h) (Or.inl ⟨by rfl, ?_⟩) hS ?_
                    rotate_left
                    focus (intro w' hw'; go_simp; all_goals with_reducible rfl)
                    try simp only [Act.put, List.setIfInBounds_toArray, List.set_cons_zero, List.set_cons_succ]
                    refine wpAnyH_take (i := 9) (v := ?_) (by simp only [List.getElem?_toArray, List.getElem?_cons_succ, List.getElem?_cons_zero] <;> exact rfl) (by kernel_rfl) (by kernel_rfl) (by kernel_rfl) (fun _ _ _ h => h) (Or.inl ⟨by rfl, ?_⟩) hS ?_
                    rotate_left
                    focus (intro w' hw'; go_simp; all_goals with_reducible rfl)
                    try simp only [Act.put, List.setIfInBounds_toArray, List.set_cons_zero, List.set_cons_succ]
                    refine wpAnyH_take (i := 10) (v := ?_) (by simp only [List.getElem?_toArray, List.getElem?_cons_succ, List.getElem?_cons_zero] <;> exact rfl) (by kernel_rfl) (by kernel_rfl) (by kernel_rfl) (fun _ _ _ h => h) (Or.inl ⟨by rfl, ?_⟩) hS ?_
                    rotate_left
                    focus (intro w' hw'; have hh := HE1.out; have hh0 := HE0.out; go_simp; all_goals with_reducible rfl)
                    try simp only [Act.put, List.setIfInBounds_toArray, List.set_cons_zero, List.set_cons_succ]
                    refine wpAnyH_ready (rs := [5]) (by kernel_rfl) (by simp) ?_
                    refine AllReadyH.cons (o := _) (by simp only [List.getElem?_toArray, List.getElem?_cons_succ, List.getElem?_cons_zero] <;> exact rfl) (fun K hK => ?_) ?_
                    focus (
                      go_simp
                      go_at_call 16
                      refine (HLN.out _ (HVQ.out.ql.keep hS)).mono ?_
                      rintro e wc2 ⟨rfl, hb⟩
                      have hS := hS.trans (hb.mono hS.size)
                      clear hb
                      go_wp2_with fail
                      refine hK.out _ _ hS (fun _ => ?_)
                      clear hK K
                      try simp only [Act.put, List.setIfInBounds_toArray, List.set_cons_zero, List.set_cons_succ]
                      refine wpAnyH_take (i := 11) (v := ?_) (by simp only [List.getElem?_toArray, List.getElem?_cons_succ, List.getElem?_cons_zero] <;> exact rfl) (by kernel_rfl) (by kernel_rfl) (by kernel_rfl) (fun _ _ _ h => h) (Or.inl ⟨by rfl, ?_⟩) hS ?_
                      rotate_left
                      focus (intro w' hw'; go_simp; all_goals with_reducible rfl)
                      try simp only [Act.put, List.setIfInBounds_toArray, List.set_cons_zero, List.set_cons_succ]
                      refine wpAnyH_take (i := 12) (v := ?_) (by simp only [List.getElem?_toArray, List.getElem?_cons_succ, List.getElem?_cons_zero] <;> exact rfl) (by kernel_rfl) (by kernel_rfl) (by kernel_rfl) (fun _ _ _ h => h) (Or.inl ⟨by rfl, ?_⟩) hS ?_
                      rotate_left
                      focus (intro w' hw'; go_simp; all_goals with_reducible rfl)
                      try simp only [Act.put, List.setIfInBounds_toArray, List.set_cons_zero, List.set_cons_succ]
                      refine wpAnyH_take (i := 13) (v := ?_) (by simp only [List.getElem?_toArray, List.getElem?_cons_succ, List.getElem?_cons_zero] <;> exact rfl) (by kernel_rfl) (by kernel_rfl) (by kernel_rfl) (fun _ _ _ h => h) (Or.inl ⟨by rfl, ?_⟩) hS ?_
                      rotate_left
                      focus (intro w' hw'; go_simp; all_goals with_reducible rfl)
                      try simp only [Act.put, List.setIfInBounds_toArray, List.set_cons_zero, List.set_cons_succ]
                      refine wpAnyH_take (i := 14) (v := ?_) (by simp only [List.getElem?_toArray, List.getElem?_cons_succ, List.getElem?_cons_zero] <;> exact rfl) (by kernel_rfl) (by kernel_rfl) (by kernel_rfl) (fun _ _ _ h => h) (Or.inl ⟨by rfl, ?_⟩) hS ?_
                      rotate_left
                      focus (intro w' hw'; obtain ⟨k0, k1, k2⟩ := qcells (HVQ.out.blk.keep hw'); go_simp; all_goals with_reducible rfl)
                      try simp only [Act.put, List.setIfInBounds_toArray, List.set_cons_zero, List.set_cons_succ]
                      refine wpAnyH_take (i := 16) (v := ?_) (by simp only [List.getElem?_toArray, List.getElem?_cons_succ, List.getElem?_cons_zero] <;> exact rfl) (by kernel_rfl) (by kernel_rfl) (by kernel_rfl) (fun _ _ _ h => h) (Or.inl ⟨by rfl, ?_⟩) hS ?_
                      rotate_left
                      focus (intro w' hw'; obtain ⟨k0, k1, k2⟩ := qcells (HVQ.out.blk.keep hw'); go_simp; all_goals with_reducible rfl)
                      try simp only [Act.put, List.setIfInBounds_toArray, List.set_cons_zero, List.set_cons_succ]
                      refine wpAnyH_ready (rs := [15]) (by kernel_rfl) (by simp) ?_
                      refine AllReadyH.cons (o := _) (by simp only [List.getElem?_toArray, List.getElem?_cons_succ, List.getElem?_cons_zero] <;> exact rfl) (fun K hK => ?_) ?_
                      focus (
                        go_simp
                        go_at_call 18
                        refine (HRM.out _ (HVQ.out.ql.keep hS)).mono ?_
                        rintro e wc3 ⟨rfl, hb⟩
                        have hS := hS.trans (hb.mono hS.size)
                        clear hb
                        go_wp2_with fail
                        refine hK.out _ _ hS (fun _ => ?_)
                        clear hK K
                        try simp only [Act.put, List.setIfInBounds_toArray, List.set_cons_zero, List.set_cons_succ]
                        refine wpAnyH_ready (rs := [17]) (by kernel_rfl) (by simp) ?_
                        refine AllReadyH.cons (o := _) (by simp only [List.getElem?_toArray, List.getElem?_cons_succ, List.getElem?_cons_zero] <;> exact rfl) (fun K hK => ?_) ?_
                        focus (
                          go_simp
                          go_at_call 16
                          refine (HLN.out _ (HVQ.out.ql.keep hS)).mono ?_
                          rintro e wc4 ⟨rfl, hb⟩
                          have hS := hS.trans (hb.mono hS.size)
                          clear hb
                          go_wp2_with fail
                          refine hK.out _ _ hS (fun _ => ?_)
                          clear hK K
                          try simp only [Act.put, List.setIfInBounds_toArray, List.set_cons_zero, List.set_cons_succ]
                          refine wpAnyH_take (i := 18) (v := ?_) (by simp only [List.getElem?_toArray, List.getElem?_cons_succ, List.getElem?_cons_zero] <;> exact rfl) (by kernel_rfl) (by kernel_rfl) (by kernel_rfl) (fun _ _ _ h => h) (Or.inl ⟨by rfl, ?_⟩) hS ?_
                          rotate_left
                          focus (intro w' hw'; have hh := HE2.out; go_simp; all_goals with_reducible rfl)
                          try simp only [Act.put, List.setIfInBounds_toArray, List.set_cons_zero, List.set_cons_succ]
                          refine wpAnyH_take (i := 19) (v := ?_) (by simp only [List.getElem?_toArray, List.getElem?_cons_succ, List.getElem?_cons_zero] <;> exact rfl) (by kernel_rfl) (by kernel_rfl) (by kernel_rfl) (fun _ _ _ h => h) (Or.inl ⟨by rfl, ?_⟩) hS ?_
                          rotate_left
                          focus (intro w' hw'; go_simp; all_goals with_reducible rfl)
                          try simp only [Act.put, List.setIfInBounds_toArray, List.set_cons_zero, List.set_cons_succ]
                          refine wpAnyH_take (i := 20) (v := ?_) (by simp only [List.getElem?_toArray, List.getElem?_cons_succ, List.getElem?_cons_zero] <;> exact rfl) (by kernel_rfl) (by kernel_rfl) (by kernel_rfl) (fun _ _ _ h => h) (Or.inl ⟨by rfl, ?_⟩) hS ?_
                          rotate_left
                          focus (intro w' hw'; go_simp; all_goals with_reducible rfl)
                          try simp only [Act.put, List.setIfInBounds_toArray, List.set_cons_zero, List.set_cons_succ]
                          refine wpAnyH_take (i := 21) (v := ?_) (by simp only [List.getElem?_toArray, List.getElem?_cons_succ, List.getElem?_cons_zero] <;> exact rfl) (by kernel_rfl) (by kernel_rfl) (by kernel_rfl) (fun _ _ _ h => h) (Or.inl ⟨by rfl, ?_⟩) hS ?_
                          rotate_left
                          focus (intro w' hw'; go_simp; all_goals with_reducible rfl)
                          try simp only [Act.put, List.setIfInBounds_toArray, List.set_cons_zero, List.set_cons_succ]
                          refine wpAnyH_take (i := 22) (v := ?_) (by simp only [List.getElem?_toArray, List.getElem?_cons_succ, List.getElem?_cons_zero] <;> exact rfl) (by kernel_rfl) (by kernel_rfl) (by kernel_rfl) (fun _ _ _ h => h) (Or.inl ⟨by rfl, ?_⟩) hS ?_
                          rotate_left
                          focus (intro w' hw'; go_simp; all_goals with_reducible rfl)
                          try simp only [Act.put, List.setIfInBounds_toArray, List.set_cons_zero, List.set_cons_succ]
                          refine wpAnyH_take (i := 23) (v := ?_) (by simp only [List.getElem?_toArray, List.getElem?_cons_succ, List.getElem?_cons_zero] <;> exact rfl) (by kernel_rfl) (by kernel_rfl) (by kernel_rfl) (fun _ _ _ h => h) (Or.inl ⟨by rfl, ?_⟩) hS ?_
                          rotate_left
                          focus (intro w' hw'; go_simp; all_goals with_reducible rfl)
                          try simp only [Act.put, List.setIfInBounds_toArray, List.set_cons_zero, List.set_cons_succ]
                          refine wpAnyH_take (i := 24) (v := ?_) (by simp only [List.getElem?_toArray, List.getElem?_cons_succ, List.getElem?_cons_zero] <;> exact rfl) (by kernel_rfl) (by kernel_rfl) (by kernel_rfl) (fun _ _ _ h => h) (Or.inl ⟨by rfl, ?_⟩) hS ?_
                          rotate_left
                          focus (intro w' hw'; go_simp; all_goals with_reducible rfl)
                          try simp only [Act.put, List.setIfInBounds_toArray, List.set_cons_zero, List.set_cons_succ]
                          refine wpAnyH_take (i := 25) (v := ?_) (by simp only [List.getElem?_toArray, List.getElem?_cons_succ, List.getElem?_cons_zero] <;> exact rfl) (by kernel_rfl) (by kernel_rfl) (by kernel_rfl) (fun _ _ _ h => h) (Or.inl ⟨by rfl, ?_⟩) hS ?_
                          rotate_left
                          focus (intro w' hw'; have hh := HE3.out; have hh2 := HE4.out; go_simp; all_goals with_reducible rfl)
                          try simp only [Act.put, List.setIfInBounds_toArray, List.set_cons_zero, List.set_cons_succ]
                          refine wpAnyH_take (i := 26) (v := ?_) (by simp only [List.getElem?_toArray, List.getElem?_cons_succ, List.getElem?_cons_zero] <;> exact rfl) (by kernel_rfl) (by kernel_rfl) (by kernel_rfl) (fun _ _ _ h => h) (Or.inl ⟨by rfl, ?_⟩) hS ?_
                          rotate_left
                          focus (intro w' hw'; go_simp; all_goals with_reducible rfl)
                          try simp only [Act.put, List.setIfInBounds_toArray, List.set_cons_zero, List.set_cons_succ]
                          refine wpAnyH_take (i := 27) (v := ?_) (by simp only [List.getElem?_toArray, List.getElem?_cons_succ, List.getElem?_cons_zero] <;> exact rfl) (by kernel_rfl) (by kernel_rfl) (by kernel_rfl) (fun _ _ _ h => h) (Or.inl ⟨by rfl, ?_⟩) hS ?_
                          rotate_left
                          focus (intro w' hw'; have hh := HE5.out; go_simp; all_goals with_reducible rfl)
                          try simp only [Act.put, List.setIfInBounds_toArray, List.set_cons_zero, List.set_cons_succ]
                          refine wpAnyH_take (i := 28) (v := ?_) (by simp only [List.getElem?_toArray, List.getElem?_cons_succ, List.getElem?_cons_zero] <;> exact rfl) (by kernel_rfl) (by kernel_rfl) (by kernel_rfl) (fun _ _ _ h => h) (Or.inl ⟨by rfl, ?_⟩) hS ?_
                          rotate_left
                          focus (intro w' hw'; go_simp; all_goals with_reducible rfl)
                          try simp only [Act.put, List.setIfInBounds_toArray, List.set_cons_zero, List.set_cons_succ]
                          refine wpAnyH_done (by kernel_rfl) ?_ _
                          refine NoPanic.normal ?_
                          go_wp2_with fail
                          go_meet
                          exact ⟨rfl, hS⟩)
                        exact AllReadyH.nil)
                      exact AllReadyH.nil)
                    exact AllReadyH.nil)
                  exact AllReadyH.nil
                case rest =>
                  obtain ⟨rfl, hb⟩ := hcut
                  have HVQ := hide (HVQ.out.keep hb)
                  have HBL := hide (HBL.out.trans (hb.mono HBL.out.size))
                  clear hb HCK HLN HRM HE0 HE1 HE2 HE3 HE4 HE5
                  go_wp2
                  go_roundw
                  case rel => exact ⟨i + 1, q, C, W, k, Aq, nq, cq, by omega, by go_num, rfl, rfl, rfl, by omega, HOR.out, HVQ.out, HBL.out⟩
                  case measure => simp [intOf]; omega
            · have hne : s.size ≠ 0 := fun e => hse (ba_empty e)
              have HPS := hide (HOR.out.push (show i < 60 by omega) hne h200)
              have hse' : decide (s = ⟨#[]⟩) = false := decide_eq_false hse
              rw [hse'] at he3
              rw [show decide (s = (⟨[].toArray⟩ : ByteArray)) = false from hse'] at he
              obtain ⟨q1, hq1⟩ : ∃ q1, q1 = pushQ q (bts s) := ⟨_, rfl⟩
              have HPU := hide (fun (B' : Option Addr) (k' d' : Nat) (w' : World) (h : QL w' q Aq nq cq) (h' : RB w' B' k' (bts s)) => oq_Push q Aq nq cq B' k' d' (bts s) w' h h' (by have h3 := h'.1; rw [bts_len] at h3; omega))
              rw [← hq1] at HPS
              rw [← hq1, HPS.out.1] at HPU
              have HOR1 := hide HPS.out.2
              have HF1 := hide (HOR1.out.few2 (by omega))
              have HVB := hide (show BlkIs wr b5 28 #[.slice Aq nq cq, .int .i64 q.m, .int .i64 q.g] from HVQ.out.blk)
              clear hq1 HPS hse hse' hne
              go_upto_region 11 with (fail)
              clear c0
              go_cut [10, 11] from 43 to 52 (fun s10 s11 wx => ∃ (bx : Nat) (A1 : Option Addr) (n1 c1 : Nat), s10 = .pointer (some ⟨bx, 0, none⟩) ∧ s11 = .int .i64 0 ∧ VQ 28 wx bx A1 n1 c1 q1 ∧ Below wr.heap.size wr wx)
              case first =>
                refine wp_region_noPanic ?_
                refine wp_region_held_drew (S := fun w' => Below wr.heap.size wr w') (by kernel_rfl) (Below.refl _ _).drew (fun hS => ?_)
                generalize wr.drew = wd at hS ⊢
                refine wpAnyH_take (i := 0) (by simp only [List.getElem?_toArray, List.getElem?_cons_zero] <;> exact rfl) (by kernel_rfl) (by kernel_rfl) (by kernel_rfl) (fun _ _ _ h => h) (rgs_yields_blk (by rfl) 28 (.tmp 5) (by rfl) b5 (by rfl) 28 #[.slice Aq nq cq, .int .i64 q.m, .int .i64 q.g] _ (fun w' hw' => HVB.out.keep hw') Try.underlying28 rfl pq_size) hS ?_
                try simp only [Act.put, List.setIfInBounds_toArray, List.set_cons_zero, List.set_cons_succ]
                refine wpAnyH_take (i := 1) (v := ?_) (by simp only [List.getElem?_toArray, List.getElem?_cons_succ, List.getElem?_cons_zero] <;> exact rfl) (by kernel_rfl) (by kernel_rfl) (by kernel_rfl) (fun _ _ _ h => h) (Or.inl ⟨by rfl, ?_⟩) hS ?_
                rotate_left
                focus (intro w' hw'; go_simp; all_goals with_reducible rfl)
                try simp only [Act.put, List.setIfInBounds_toArray, List.set_cons_zero, List.set_cons_succ]
                refine wpAnyH_take (i := 2) (v := ?_) (by simp only [List.getElem?_toArray, List.getElem?_cons_succ, List.getElem?_cons_zero] <;> exact rfl) (by kernel_rfl) (by kernel_rfl) (by kernel_rfl) (fun _ _ _ h => h) (Or.inl ⟨by rfl, ?_⟩) hS ?_
                rotate_left
                focus (intro w' hw'; go_simp; all_goals with_reducible rfl)
                try simp only [Act.put, List.setIfInBounds_toArray, List.set_cons_zero, List.set_cons_succ]
                refine wpAnyH_take (i := 3) (v := ?_) (by simp only [List.getElem?_toArray, List.getElem?_cons_succ, List.getElem?_cons_zero] <;> exact rfl) (by kernel_rfl) (by kernel_rfl) (by kernel_rfl) (fun _ _ _ h => h) (Or.inl ⟨by rfl, ?_⟩) hS ?_
                rotate_left
                focus (intro w' hw'; go_simp; all_goals with_reducible rfl)
                try simp only [Act.put, List.setIfInBounds_toArray, List.set_cons_zero, List.set_cons_succ]
                refine wpAnyH_take (i := 4) (v := ?_) (by simp only [List.getElem?_toArray, List.getElem?_cons_succ, List.getElem?_cons_zero] <;> exact rfl) (by kernel_rfl) (by kernel_rfl) (by kernel_rfl) (fun _ _ _ h => h) (Or.inl ⟨by rfl, ?_⟩) hS ?_
                rotate_left
                focus (intro w' hw'; have kk := ((HTL.out.keep (HBL.out.trans (hw'.mono HBL.out.size))).cells rfl i (.string s) (tcs_get HSI.out)); rw [Addr.add_lit] at kk; go_simp; all_goals with_reducible rfl)
                try simp only [Act.put, List.setIfInBounds_toArray, List.set_cons_zero, List.set_cons_succ]
                refine wpAnyH_ready (rs := [5, 10]) (by kernel_rfl) (by simp) ?_
                refine AllReadyH.cons (o := _) (by simp only [List.getElem?_toArray, List.getElem?_cons_succ, List.getElem?_cons_zero] <;> exact rfl) (fun K hK => ?_) ?_
                focus (
                  obtain ⟨cv, wm1, hcv, hrb, hbz, -, -, -⟩ := str_row wd s
                  go_simp
                  clear hcv
                  have hS := hS.trans (hbz.mono hS.size)
                  refine hK.out _ _ hS (fun _ => ?_)
                  obtain ⟨rb0, hrb0⟩ : ∃ b, b = wd.heap.size := ⟨_, rfl⟩
                  rw [← hrb0] at hrb ⊢
                  clear hbz hK K hrb0
                  try simp only [Act.put, List.setIfInBounds_toArray, List.set_cons_zero, List.set_cons_succ]
                  refine wpAnyH_ready (rs := [6, 10]) (by kernel_rfl) (by simp) ?_
                  refine AllReadyH.cons (o := _) (by simp only [List.getElem?_toArray, List.getElem?_cons_succ, List.getElem?_cons_zero] <;> exact rfl) (fun K hK => ?_) ?_
                  focus (
                    go_simp
                    go_at_call 9
                    refine (HPU.out (some ⟨rb0, 0, none⟩) s.size cv _ (HVQ.out.ql.keep hS) hrb).mono ?_
                    rintro e wm2 ⟨⟨A1, n1, c1, rfl, ht⟩, hb⟩
                    have hS := hS.trans (hb.mono hS.size)
                    clear hb hrb
                    go_wp2_with fail
                    refine hK.out _ _ hS (fun _ => ?_)
                    clear hK K
                    try simp only [Act.put, List.setIfInBounds_toArray, List.set_cons_zero, List.set_cons_succ]
                    refine wpAnyH_take (i := 7) (v := ?_) (by simp only [List.getElem?_toArray, List.getElem?_cons_succ, List.getElem?_cons_zero] <;> exact rfl) (by kernel_rfl) (by kernel_rfl) (by kernel_rfl) (fun _ _ _ h => h) (Or.inl ⟨by rfl, ?_⟩) hS ?_
                    rotate_left
                    focus (intro w' hw'; go_simp; all_goals with_reducible rfl)
                    try simp only [Act.put, List.setIfInBounds_toArray, List.set_cons_zero, List.set_cons_succ]
                    refine wpAnyH_take (i := 8) (v := ?_) (by simp only [List.getElem?_toArray, List.getElem?_cons_succ, List.getElem?_cons_zero] <;> exact rfl) (by kernel_rfl) (by kernel_rfl) (by kernel_rfl) (fun _ _ _ h => h) (Or.inl ⟨by rfl, ?_⟩) hS ?_
                    rotate_left
                    focus (intro w' hw'; go_simp; all_goals with_reducible rfl)
                    try simp only [Act.put, List.setIfInBounds_toArray, List.set_cons_zero, List.set_cons_succ]
                    refine wpAnyH_take (i := 9) (v := ?_) (by simp only [List.getElem?_toArray, List.getElem?_cons_succ, List.getElem?_cons_zero] <;> exact rfl) (by kernel_rfl) (by kernel_rfl) (by kernel_rfl) (fun _ _ _ h => h) (Or.inl ⟨by rfl, ?_⟩) hS ?_
                    rotate_left
                    focus (intro w' hw'; go_simp; all_goals with_reducible rfl)
                    try simp only [Act.put, List.setIfInBounds_toArray, List.set_cons_zero, List.set_cons_succ]
                    refine wpAnyH_ready (rs := [10]) (by kernel_rfl) (by simp) ?_
                    refine AllReadyH.cons (o := _) (by simp only [List.getElem?_toArray, List.getElem?_cons_succ, List.getElem?_cons_zero] <;> exact rfl) (fun K hK => ?_) ?_
                    focus (
                      go_simp
                      have hz3 := hS.size
                      have hS := hS.alloc hS.size (.cells #[.slice none 0 0, .int .i64 0, .int .i64 0] 28)
                      have ea := BlkIs.new wm2 28 #[.slice none 0 0, .int .i64 0, .int .i64 0]
                      have ht := ht.keep (bel1 wm2 (.cells #[.slice none 0 0, .int .i64 0, .int .i64 0] 28))
                      obtain ⟨bx, hbx⟩ : ∃ bx, bx = wm2.heap.size := ⟨_, rfl⟩
                      have hxl : wr.heap.size ≤ bx := by rw [hbx]; exact hz3
                      rw [← hbx] at ea ⊢
                      refine hK.out _ _ hS (fun _ => ?_)
                      generalize wm2.alloc (.cells #[.slice none 0 0, .int .i64 0, .int .i64 0] 28) = wm3 at hS ea ht ⊢
                      clear hbx hz3 hK K
                      try simp only [Act.put, List.setIfInBounds_toArray, List.set_cons_zero, List.set_cons_succ]
                      refine wpAnyH_ready (rs := [11]) (by kernel_rfl) (by simp) ?_
                      refine AllReadyH.cons (o := _) (by simp only [List.getElem?_toArray, List.getElem?_cons_succ, List.getElem?_cons_zero] <;> exact rfl) (fun K hK => ?_) ?_
                      focus (
                        refine rgs_store_blk (by rfl) 28 (.tmp 10) (.tmp 51) (by rfl) bx #[.slice A1 n1 c1, .int .i64 q1.m, .int .i64 q1.g] #[.slice none 0 0, .int .i64 0, .int .i64 0] 28 (by rfl) (by rfl) ea pq_size rfl (by simp [Value.oneCell']) ?_
                        have kb := (KB.refl (· = bx) wm3).setRow (fun _ => rfl) #[.slice A1 n1 c1, .int .i64 q1.m, .int .i64 q1.g]
                        have ht := ht.onto ea (qc_tx _ _ _ _ _) kb
                        have ea := ea.row #[.slice A1 n1 c1, .int .i64 q1.m, .int .i64 q1.g]
                        have hS := below_setRow hS hxl #[.slice A1 n1 c1, .int .i64 q1.m, .int .i64 q1.g]
                        refine hK.out _ _ hS (fun _ => ?_)
                        clear hK K kb
                        try simp only [Act.put, List.setIfInBounds_toArray, List.set_cons_zero, List.set_cons_succ]
                        refine wpAnyH_take (i := 12) (v := ?_) (by simp only [List.getElem?_toArray, List.getElem?_cons_succ, List.getElem?_cons_zero] <;> exact rfl) (by kernel_rfl) (by kernel_rfl) (by kernel_rfl) (fun _ _ _ h => h) (Or.inl ⟨by rfl, ?_⟩) hS ?_
                        rotate_left
                        focus (intro w' hw'; go_simp; all_goals with_reducible rfl)
                        try simp only [Act.put, List.setIfInBounds_toArray, List.set_cons_zero, List.set_cons_succ]
                        refine wpAnyH_done (by kernel_rfl) ?_ _
                        refine NoPanic.normal ?_
                        go_wp2_with fail
                        go_meet
                        exact ⟨bx, A1, n1, c1, rfl, rfl, ⟨ea, ql_mk q1 ht HF1.out.1 HF1.out.2⟩, hS⟩)
                      exact AllReadyH.nil)
                    exact AllReadyH.nil)
                  refine AllReadyH.cons (o := _) (by simp only [List.getElem?_toArray, List.getElem?_cons_succ, List.getElem?_cons_zero] <;> exact rfl) (fun K hK => ?_) ?_
                  focus (
                    go_simp
                    have hz4 := hS.size
                    have hS := hS.alloc hS.size (.cells #[.slice none 0 0, .int .i64 0, .int .i64 0] 28)
                    have ea := BlkIs.new wm1 28 #[.slice none 0 0, .int .i64 0, .int .i64 0]
                    have hrb := hrb.below (bel1 wm1 (.cells #[.slice none 0 0, .int .i64 0, .int .i64 0] 28))
                    obtain ⟨bx, hbx⟩ : ∃ bx, bx = wm1.heap.size := ⟨_, rfl⟩
                    have hxl : wr.heap.size ≤ bx := by rw [hbx]; exact hz4
                    rw [← hbx] at ea ⊢
                    refine hK.out _ _ hS (fun _ => ?_)
                    generalize wm1.alloc (.cells #[.slice none 0 0, .int .i64 0, .int .i64 0] 28) = wm4 at hS ea hrb ⊢
                    clear hbx hz4 hK K
                    try simp only [Act.put, List.setIfInBounds_toArray, List.set_cons_zero, List.set_cons_succ]
                    refine wpAnyH_ready (rs := [6]) (by kernel_rfl) (by simp) ?_
                    refine AllReadyH.cons (o := _) (by simp only [List.getElem?_toArray, List.getElem?_cons_succ, List.getElem?_cons_zero] <;> exact rfl) (fun K hK => ?_) ?_
                    focus (
                      go_simp
                      go_at_call 9
                      refine (HPU.out (some ⟨rb0, 0, none⟩) s.size cv _ (HVQ.out.ql.keep hS) hrb).mono ?_
                      rintro e wm5 ⟨⟨A1, n1, c1, rfl, ht⟩, hb⟩
                      have ea := ea.keep hb
                      have hS := hS.trans (hb.mono hS.size)
                      clear hb hrb
                      go_wp2_with fail
                      refine hK.out _ _ hS (fun _ => ?_)
                      clear hK K
                      try simp only [Act.put, List.setIfInBounds_toArray, List.set_cons_zero, List.set_cons_succ]
                      refine wpAnyH_take (i := 7) (v := ?_) (by simp only [List.getElem?_toArray, List.getElem?_cons_succ, List.getElem?_cons_zero] <;> exact rfl) (by kernel_rfl) (by kernel_rfl) (by kernel_rfl) (fun _ _ _ h => h) (Or.inl ⟨by rfl, ?_⟩) hS ?_
                      rotate_left
                      focus (intro w' hw'; go_simp; all_goals with_reducible rfl)
                      try simp only [Act.put, List.setIfInBounds_toArray, List.set_cons_zero, List.set_cons_succ]
                      refine wpAnyH_take (i := 8) (v := ?_) (by simp only [List.getElem?_toArray, List.getElem?_cons_succ, List.getElem?_cons_zero] <;> exact rfl) (by kernel_rfl) (by kernel_rfl) (by kernel_rfl) (fun _ _ _ h => h) (Or.inl ⟨by rfl, ?_⟩) hS ?_
                      rotate_left
                      focus (intro w' hw'; go_simp; all_goals with_reducible rfl)
                      try simp only [Act.put, List.setIfInBounds_toArray, List.set_cons_zero, List.set_cons_succ]
                      refine wpAnyH_take (i := 9) (v := ?_) (by simp only [List.getElem?_toArray, List.getElem?_cons_succ, List.getElem?_cons_zero] <;> exact rfl) (by kernel_rfl) (by kernel_rfl) (by kernel_rfl) (fun _ _ _ h => h) (Or.inl ⟨by rfl, ?_⟩) hS ?_
                      rotate_left
                      focus (intro w' hw'; go_simp; all_goals with_reducible rfl)
                      try simp only [Act.put, List.setIfInBounds_toArray, List.set_cons_zero, List.set_cons_succ]
                      refine wpAnyH_ready (rs := [11]) (by kernel_rfl) (by simp) ?_
                      refine AllReadyH.cons (o := _) (by simp only [List.getElem?_toArray, List.getElem?_cons_succ, List.getElem?_cons_zero] <;> exact rfl) (fun K hK => ?_) ?_
                      focus (
                        refine rgs_store_blk (by rfl) 28 (.tmp 10) (.tmp 51) (by rfl) bx #[.slice A1 n1 c1, .int .i64 q1.m, .int .i64 q1.g] #[.slice none 0 0, .int .i64 0, .int .i64 0] 28 (by rfl) (by rfl) ea pq_size rfl (by simp [Value.oneCell']) ?_
                        have kb := (KB.refl (· = bx) wm5).setRow (fun _ => rfl) #[.slice A1 n1 c1, .int .i64 q1.m, .int .i64 q1.g]
                        have ht := ht.onto ea (qc_tx _ _ _ _ _) kb
                        have ea := ea.row #[.slice A1 n1 c1, .int .i64 q1.m, .int .i64 q1.g]
                        have hS := below_setRow hS hxl #[.slice A1 n1 c1, .int .i64 q1.m, .int .i64 q1.g]
                        refine hK.out _ _ hS (fun _ => ?_)
                        clear hK K kb
                        try simp only [Act.put, List.setIfInBounds_toArray, List.set_cons_zero, List.set_cons_succ]
                        refine wpAnyH_take (i := 12) (v := ?_) (by simp only [List.getElem?_toArray, List.getElem?_cons_succ, List.getElem?_cons_zero] <;> exact rfl) (by kernel_rfl) (by kernel_rfl) (by kernel_rfl) (fun _ _ _ h => h) (Or.inl ⟨by rfl, ?_⟩) hS ?_
                        rotate_left
                        focus (intro w' hw'; go_simp; all_goals with_reducible rfl)
                        try simp only [Act.put, List.setIfInBounds_toArray, List.set_cons_zero, List.set_cons_succ]
                        refine wpAnyH_done (by kernel_rfl) ?_ _
                        refine NoPanic.normal ?_
                        go_wp2_with fail
                        go_meet
                        exact ⟨bx, A1, n1, c1, rfl, rfl, ⟨ea, ql_mk q1 ht HF1.out.1 HF1.out.2⟩, hS⟩)
                      exact AllReadyH.nil)
                    exact AllReadyH.nil)
                  exact AllReadyH.nil)
                refine AllReadyH.cons (o := _) (by simp only [List.getElem?_toArray, List.getElem?_cons_succ, List.getElem?_cons_zero] <;> exact rfl) (fun K hK => ?_) ?_
                focus (
                  go_simp
                  have hz6 := hS.size
                  have hS := hS.alloc hS.size (.cells #[.slice none 0 0, .int .i64 0, .int .i64 0] 28)
                  have ea := BlkIs.new wd 28 #[.slice none 0 0, .int .i64 0, .int .i64 0]
                  obtain ⟨bx, hbx⟩ : ∃ bx, bx = wd.heap.size := ⟨_, rfl⟩
                  have hxl : wr.heap.size ≤ bx := by rw [hbx]; exact hz6
                  rw [← hbx] at ea ⊢
                  refine hK.out _ _ hS (fun _ => ?_)
                  generalize wd.alloc (.cells #[.slice none 0 0, .int .i64 0, .int .i64 0] 28) = wm6 at hS ea ⊢
                  clear hbx hz6 hK K
                  try simp only [Act.put, List.setIfInBounds_toArray, List.set_cons_zero, List.set_cons_succ]
                  refine wpAnyH_ready (rs := [5]) (by kernel_rfl) (by simp) ?_
                  refine AllReadyH.cons (o := _) (by simp only [List.getElem?_toArray, List.getElem?_cons_succ, List.getElem?_cons_zero] <;> exact rfl) (fun K hK => ?_) ?_
                  focus (
                    obtain ⟨cv, wm7, hcv, hrb, hbz, -, -, -⟩ := str_row wm6 s
                    go_simp
                    clear hcv
                    have ea := ea.keep hbz
                    have hS := hS.trans (hbz.mono hS.size)
                    refine hK.out _ _ hS (fun _ => ?_)
                    obtain ⟨rb0, hrb0⟩ : ∃ b, b = wm6.heap.size := ⟨_, rfl⟩
                    rw [← hrb0] at hrb ⊢
                    clear hbz hK K hrb0
                    try simp only [Act.put, List.setIfInBounds_toArray, List.set_cons_zero, List.set_cons_succ]
                    refine wpAnyH_ready (rs := [6]) (by kernel_rfl) (by simp) ?_
                    refine AllReadyH.cons (o := _) (by simp only [List.getElem?_toArray, List.getElem?_cons_succ, List.getElem?_cons_zero] <;> exact rfl) (fun K hK => ?_) ?_
                    focus (
                      go_simp
                      go_at_call 9
                      refine (HPU.out (some ⟨rb0, 0, none⟩) s.size cv _ (HVQ.out.ql.keep hS) hrb).mono ?_
                      rintro e wm8 ⟨⟨A1, n1, c1, rfl, ht⟩, hb⟩
                      have ea := ea.keep hb
                      have hS := hS.trans (hb.mono hS.size)
                      clear hb hrb
                      go_wp2_with fail
                      refine hK.out _ _ hS (fun _ => ?_)
                      clear hK K
                      try simp only [Act.put, List.setIfInBounds_toArray, List.set_cons_zero, List.set_cons_succ]
                      refine wpAnyH_take (i := 7) (v := ?_) (by simp only [List.getElem?_toArray, List.getElem?_cons_succ, List.getElem?_cons_zero] <;> exact rfl) (by kernel_rfl) (by kernel_rfl) (by kernel_rfl) (fun _ _ _ h => h) (Or.inl ⟨by rfl, ?_⟩) hS ?_
                      rotate_left
                      focus (intro w' hw'; go_simp; all_goals with_reducible rfl)
                      try simp only [Act.put, List.setIfInBounds_toArray, List.set_cons_zero, List.set_cons_succ]
                      refine wpAnyH_take (i := 8) (v := ?_) (by simp only [List.getElem?_toArray, List.getElem?_cons_succ, List.getElem?_cons_zero] <;> exact rfl) (by kernel_rfl) (by kernel_rfl) (by kernel_rfl) (fun _ _ _ h => h) (Or.inl ⟨by rfl, ?_⟩) hS ?_
                      rotate_left
                      focus (intro w' hw'; go_simp; all_goals with_reducible rfl)
                      try simp only [Act.put, List.setIfInBounds_toArray, List.set_cons_zero, List.set_cons_succ]
                      refine wpAnyH_take (i := 9) (v := ?_) (by simp only [List.getElem?_toArray, List.getElem?_cons_succ, List.getElem?_cons_zero] <;> exact rfl) (by kernel_rfl) (by kernel_rfl) (by kernel_rfl) (fun _ _ _ h => h) (Or.inl ⟨by rfl, ?_⟩) hS ?_
                      rotate_left
                      focus (intro w' hw'; go_simp; all_goals with_reducible rfl)
                      try simp only [Act.put, List.setIfInBounds_toArray, List.set_cons_zero, List.set_cons_succ]
                      refine wpAnyH_ready (rs := [11]) (by kernel_rfl) (by simp) ?_
                      refine AllReadyH.cons (o := _) (by simp only [List.getElem?_toArray, List.getElem?_cons_succ, List.getElem?_cons_zero] <;> exact rfl) (fun K hK => ?_) ?_
                      focus (
                        refine rgs_store_blk (by rfl) 28 (.tmp 10) (.tmp 51) (by rfl) bx #[.slice A1 n1 c1, .int .i64 q1.m, .int .i64 q1.g] #[.slice none 0 0, .int .i64 0, .int .i64 0] 28 (by rfl) (by rfl) ea pq_size rfl (by simp [Value.oneCell']) ?_
                        have kb := (KB.refl (· = bx) wm8).setRow (fun _ => rfl) #[.slice A1 n1 c1, .int .i64 q1.m, .int .i64 q1.g]
                        have ht := ht.onto ea (qc_tx _ _ _ _ _) kb
                        have ea := ea.row #[.slice A1 n1 c1, .int .i64 q1.m, .int .i64 q1.g]
                        have hS := below_setRow hS hxl #[.slice A1 n1 c1, .int .i64 q1.m, .int .i64 q1.g]
                        refine hK.out _ _ hS (fun _ => ?_)
                        clear hK K kb
                        try simp only [Act.put, List.setIfInBounds_toArray, List.set_cons_zero, List.set_cons_succ]
                        refine wpAnyH_take (i := 12) (v := ?_) (by simp only [List.getElem?_toArray, List.getElem?_cons_succ, List.getElem?_cons_zero] <;> exact rfl) (by kernel_rfl) (by kernel_rfl) (by kernel_rfl) (fun _ _ _ h => h) (Or.inl ⟨by rfl, ?_⟩) hS ?_
                        rotate_left
                        focus (intro w' hw'; go_simp; all_goals with_reducible rfl)
                        try simp only [Act.put, List.setIfInBounds_toArray, List.set_cons_zero, List.set_cons_succ]
                        refine wpAnyH_done (by kernel_rfl) ?_ _
                        refine NoPanic.normal ?_
                        go_wp2_with fail
                        go_meet
                        exact ⟨bx, A1, n1, c1, rfl, rfl, ⟨ea, ql_mk q1 ht HF1.out.1 HF1.out.2⟩, hS⟩)
                      exact AllReadyH.nil)
                    exact AllReadyH.nil)
                  exact AllReadyH.nil)
                exact AllReadyH.nil
              case rest =>
                obtain ⟨bx, A1, n1, c1, rfl, rfl, hx1, hb⟩ := hcut
                have HX1 := hide hx1
                have HV5 := hide (HVQ.out.keep hb)
                have HBL := hide (HBL.out.trans (hb.mono HBL.out.size))
                clear hx1 hb HVB HPU HVQ HOR he he3
                have HVQ := HV5
                obtain ⟨wr, hwr⟩ : ∃ x, x = wc := ⟨_, rfl⟩
                subst hwr
                obtain ⟨k0, k1, k2⟩ := qcells HX1.out.blk
                go_upto_region 15 with (refine wpList_q_blk 28 pq_size rfl (.tmp 5) (.tmp 55) b5 A1 n1 c1 q1.m q1.g _ _ _ rfl HVQ.out.blk rfl rfl ?_; intro wv hk kb; have HV2 := hide (show VQ 28 wv b5 A1 n1 c1 q1 from ⟨hk, HX1.out.ql.onto HVQ.out.blk (qc_tx _ _ _ _ _) kb⟩); have HBL := hide (below_kbq HBL.out kb (Nat.le_refl _) HB5.out); clear hk kb)
                obtain ⟨C0, hC0⟩ : ∃ C0, C0 = C ++ s := ⟨_, rfl⟩
                rw [← hC0] at HOR1
                have c0 := ((HTL.out.keep HBL.out).cells rfl i (.string s) (tcs_get HSI.out))
                rw [Addr.add_lit] at c0
                have hsz : ¬ 9223372036854775807 < C.size + s.size := by have h1 := HOR1.out.sum; rw [hC0, ← bts_len (C ++ s), bts_app, List.length_append, bts_len, bts_len] at h1; omega
                have hC1 : C ++ s = C0 := hC0.symm
                clear k0 k1 k2 HX1 HV5 HVQ HF1 hC0
                go_upto_region 23 with (fail)
                clear c0 hsz hC1
                have HOR := HOR1
                have HVQ := HV2
                clear HOR1 HV2
                generalize C0 = C at *
                generalize q1 = q at *
                generalize A1 = Aq at *
                generalize n1 = nq at *
                generalize c1 = cq at *
                obtain ⟨wr, hwr⟩ : ∃ x, x = wv := ⟨_, rfl⟩
                subst hwr
                have HCK := hide (fun w' (h : QL w' q Aq nq cq) => HOR.out.chk ▸ oq_Check q Aq nq cq w' h)
                have HLN := hide (fun w' (h : QL w' q Aq nq cq) => oq_Len q Aq nq cq w' h)
                have HRM := hide (fun w' (h : QL w' q Aq nq cq) => HOR.out.room ▸ oq_Room q Aq nq cq w' h)
                have HE1 := hide (show (C.size : Int) - (W.size : Int) = (lenL q.ps : Int) by have := HOR.out.size; omega)
                have HE0 := hide (show IntKind.i64.wrap (lenL q.ps : Int) = (lenL q.ps : Int) from IntWalk.i64_in _ (by have := HOR.out.ok.len; omega))
                have HE2 := hide (show IntKind.i64.wrap (65536 - (lenL q.ps : Int)) = 65536 - (lenL q.ps : Int) from IntWalk.i64_in _ (by have := HOR.out.ok.len; omega))
                have HE3 := hide (show (W.size : Int) ≤ (C.size : Int) by have := HOR.out.size; omega)
                have HE4 := hide HOR.out.front
                have HE5 := hide (str_same (a := W) (b := W) rfl)
                go_upto_region 23 with (fail)
                go_cut [122] from 94 to 122 (fun s122 wx => s122 = .bool false ∧ Below wr.heap.size wr wx)
                case first =>
                  refine wp_region_noPanic ?_
                  refine wp_region_held_drew (S := fun w' => Below wr.heap.size wr w') (by kernel_rfl) (Below.refl _ _).drew (fun hS => ?_)
                  generalize wr.drew = wd at hS ⊢
                  refine wpAnyH_take (i := 0) (v := ?_) (by simp only [List.getElem?_toArray, List.getElem?_cons_succ, List.getElem?_cons_zero] <;> exact rfl) (by kernel_rfl) (by kernel_rfl) (by kernel_rfl) (fun _ _ _ h => h) (Or.inl ⟨by rfl, ?_⟩) hS ?_
                  rotate_left
                  focus (intro w' hw'; obtain ⟨k0, k1, k2⟩ := qcells (HVQ.out.blk.keep hw'); go_simp; all_goals with_reducible rfl)
                  try simp only [Act.put, List.setIfInBounds_toArray, List.set_cons_zero, List.set_cons_succ]
                  refine wpAnyH_ready (rs := [1]) (by kernel_rfl) (by simp) ?_
                  refine AllReadyH.cons (o := _) (by simp only [List.getElem?_toArray, List.getElem?_cons_succ, List.getElem?_cons_zero] <;> exact rfl) (fun K hK => ?_) ?_
                  focus (
                    go_simp
                    go_at_call 14
                    refine (HCK.out _ (HVQ.out.ql.keep hS)).mono ?_
                    rintro e wc1 ⟨rfl, hb⟩
                    have hS := hS.trans (hb.mono hS.size)
                    clear hb
                    go_wp2_with fail
                    refine hK.out _ _ hS (fun _ => ?_)
                    clear hK K
                    try simp only [Act.put, List.setIfInBounds_toArray, List.set_cons_zero, List.set_cons_succ]
                    refine wpAnyH_take (i := 2) (v := ?_) (by simp only [List.getElem?_toArray, List.getElem?_cons_succ, List.getElem?_cons_zero] <;> exact rfl) (by kernel_rfl) (by kernel_rfl) (by kernel_rfl) (fun _ _ _ h => h) (Or.inl ⟨by rfl, ?_⟩) hS ?_
                    rotate_left
                    focus (intro w' hw'; go_simp; all_goals with_reducible rfl)
                    try simp only [Act.put, List.setIfInBounds_toArray, List.set_cons_zero, List.set_cons_succ]
                    refine wpAnyH_take (i := 3) (v := ?_) (by simp only [List.getElem?_toArray, List.getElem?_cons_succ, List.getElem?_cons_zero] <;> exact rfl) (by kernel_rfl) (by kernel_rfl) (by kernel_rfl) (fun _ _ _ h => h) (Or.inl ⟨by rfl, ?_⟩) hS ?_
                    rotate_left
                    focus (intro w' hw'; go_simp; all_goals with_reducible rfl)
                    try simp only [Act.put, List.setIfInBounds_toArray, List.set_cons_zero, List.set_cons_succ]
                    refine wpAnyH_take (i := 4) (v := ?_) (by simp only [List.getElem?_toArray, List.getElem?_cons_succ, List.getElem?_cons_zero] <;> exact rfl) (by kernel_rfl) (by kernel_rfl) (by kernel_rfl) (fun _ _ _ h => h) (Or.inl ⟨by rfl, ?_⟩) hS ?_
                    rotate_left
                    focus (intro w' hw'; obtain ⟨k0, k1, k2⟩ := qcells (HVQ.out.blk.keep hw'); go_simp; all_goals with_reducible rfl)
                    try simp only [Act.put, List.setIfInBounds_toArray, List.set_cons_zero, List.set_cons_succ]
                    refine wpAnyH_take (i := 6) (v := ?_) (by simp only [List.getElem?_toArray, List.getElem?_cons_succ, List.getElem?_cons_zero] <;> exact rfl) (by kernel_rfl) (by kernel_rfl) (by kernel_rfl) (fun _ _ _ h => h) (Or.inl ⟨by rfl, ?_⟩) hS ?_
                    rotate_left
                    focus (intro w' hw'; go_simp; all_goals with_reducible rfl)
                    try simp only [Act.put, List.setIfInBounds_toArray, List.set_cons_zero, List.set_cons_succ]
                    refine wpAnyH_take (i := 7) (v := ?_) (by simp only [List.getElem?_toArray, List.getElem?_cons_succ, List.getElem?_cons_zero] <;> exact rfl) (by kernel_rfl) (by kernel_rfl) (by kernel_rfl) (fun _ _ _ h => h) (Or.inl ⟨by rfl, ?_⟩) hS ?_
                    rotate_left
                    focus (intro w' hw'; go_simp; all_goals with_reducible rfl)
                    try simp only [Act.put, List.setIfInBounds_toArray, List.set_cons_zero, List.set_cons_succ]
                    refine wpAnyH_take (i := 8) (v := ?_) (by simp only [List.getElem?_toArray, List.getElem?_cons_succ, List.getElem?_cons_zero] <;> exact rfl) (by kernel_rfl) (by kernel_rfl) (by kernel_rfl) (fun _ _ _ h => h) (Or.inl ⟨by rfl, ?_⟩) hS ?_
                    rotate_left
                    focus (intro w' hw'; go_simp; all_goals with_reducible rfl)
                    try simp only [Act.put, List.setIfInBounds_toArray, List.set_cons_zero, List.set_cons_succ]
                    refine wpAnyH_take (i := 9) (v := ?_) (by simp only [List.getElem?_toArray, List.getElem?_cons_succ, List.getElem?_cons_zero] <;> exact rfl) (by kernel_rfl) (by kernel_rfl) (by kernel_rfl) (fun _ _ _ h => h) (Or.inl ⟨by rfl, ?_⟩) hS ?_
                    rotate_left
                    focus (intro w' hw'; go_simp; all_goals with_reducible rfl)
                    try simp only [Act.put, List.setIfInBounds_toArray, List.set_cons_zero, List.set_cons_succ]
                    refine wpAnyH_take (i := 10) (v := ?_) (by simp only [List.getElem?_toArray, List.getElem?_cons_succ, List.getElem?_cons_zero] <;> exact rfl) (by kernel_rfl) (by kernel_rfl) (by kernel_rfl) (fun _ _ _ h => h) (Or.inl ⟨by rfl, ?_⟩) hS ?_
                    rotate_left
                    focus (intro w' hw'; have hh := HE1.out; have hh0 := HE0.out; go_simp; all_goals with_reducible rfl)
                    try simp only [Act.put, List.setIfInBounds_toArray, List.set_cons_zero, List.set_cons_succ]
                    refine wpAnyH_ready (rs := [5]) (by kernel_rfl) (by simp) ?_
                    refine AllReadyH.cons (o := _) (by simp only [List.getElem?_toArray, List.getElem?_cons_succ, List.getElem?_cons_zero] <;> exact rfl) (fun K hK => ?_) ?_
                    focus (
                      go_simp
                      go_at_call 16
                      refine (HLN.out _ (HVQ.out.ql.keep hS)).mono ?_
                      rintro e wc2 ⟨rfl, hb⟩
                      have hS := hS.trans (hb.mono hS.size)
                      clear hb
                      go_wp2_with fail
                      refine hK.out _ _ hS (fun _ => ?_)
                      clear hK K
                      try simp only [Act.put, List.setIfInBounds_toArray, List.set_cons_zero, List.set_cons_succ]
                      refine wpAnyH_take (i := 11) (v := ?_) (by simp only [List.getElem?_toArray, List.getElem?_cons_succ, List.getElem?_cons_zero] <;> exact rfl) (by kernel_rfl) (by kernel_rfl) (by kernel_rfl) (fun _ _ _ h => h) (Or.inl ⟨by rfl, ?_⟩) hS ?_
                      rotate_left
                      focus (intro w' hw'; go_simp; all_goals with_reducible rfl)
                      try simp only [Act.put, List.setIfInBounds_toArray, List.set_cons_zero, List.set_cons_succ]
                      refine wpAnyH_take (i := 12) (v := ?_) (by simp only [List.getElem?_toArray, List.getElem?_cons_succ, List.getElem?_cons_zero] <;> exact rfl) (by kernel_rfl) (by kernel_rfl) (by kernel_rfl) (fun _ _ _ h => h) (Or.inl ⟨by rfl, ?_⟩) hS ?_
                      rotate_left
                      focus (intro w' hw'; go_simp; all_goals with_reducible rfl)
                      try simp only [Act.put, List.setIfInBounds_toArray, List.set_cons_zero, List.set_cons_succ]
                      refine wpAnyH_take (i := 13) (v := ?_) (by simp only [List.getElem?_toArray, List.getElem?_cons_succ, List.getElem?_cons_zero] <;> exact rfl) (by kernel_rfl) (by kernel_rfl) (by kernel_rfl) (fun _ _ _ h => h) (Or.inl ⟨by rfl, ?_⟩) hS ?_
                      rotate_left
                      focus (intro w' hw'; go_simp; all_goals with_reducible rfl)
                      try simp only [Act.put, List.setIfInBounds_toArray, List.set_cons_zero, List.set_cons_succ]
                      refine wpAnyH_take (i := 14) (v := ?_) (by simp only [List.getElem?_toArray, List.getElem?_cons_succ, List.getElem?_cons_zero] <;> exact rfl) (by kernel_rfl) (by kernel_rfl) (by kernel_rfl) (fun _ _ _ h => h) (Or.inl ⟨by rfl, ?_⟩) hS ?_
                      rotate_left
                      focus (intro w' hw'; obtain ⟨k0, k1, k2⟩ := qcells (HVQ.out.blk.keep hw'); go_simp; all_goals with_reducible rfl)
                      try simp only [Act.put, List.setIfInBounds_toArray, List.set_cons_zero, List.set_cons_succ]
                      refine wpAnyH_take (i := 16) (v := ?_) (by simp only [List.getElem?_toArray, List.getElem?_cons_succ, List.getElem?_cons_zero] <;> exact rfl) (by kernel_rfl) (by kernel_rfl) (by kernel_rfl) (fun _ _ _ h => h) (Or.inl ⟨by rfl, ?_⟩) hS ?_
                      rotate_left
                      focus (intro w' hw'; obtain ⟨k0, k1, k2⟩ := qcells (HVQ.out.blk.keep hw'); go_simp; all_goals with_reducible rfl)
                      try simp only [Act.put, List.setIfInBounds_toArray, List.set_cons_zero, List.set_cons_succ]
                      refine wpAnyH_ready (rs := [15]) (by kernel_rfl) (by simp) ?_
                      refine AllReadyH.cons (o := _) (by simp only [List.getElem?_toArray, List.getElem?_cons_succ, List.getElem?_cons_zero] <;> exact rfl) (fun K hK => ?_) ?_
                      focus (
                        go_simp
                        go_at_call 18
                        refine (HRM.out _ (HVQ.out.ql.keep hS)).mono ?_
                        rintro e wc3 ⟨rfl, hb⟩
                        have hS := hS.trans (hb.mono hS.size)
                        clear hb
                        go_wp2_with fail
                        refine hK.out _ _ hS (fun _ => ?_)
                        clear hK K
                        try simp only [Act.put, List.setIfInBounds_toArray, List.set_cons_zero, List.set_cons_succ]
                        refine wpAnyH_ready (rs := [17]) (by kernel_rfl) (by simp) ?_
                        refine AllReadyH.cons (o := _) (by simp only [List.getElem?_toArray, List.getElem?_cons_succ, List.getElem?_cons_zero] <;> exact rfl) (fun K hK => ?_) ?_
                        focus (
                          go_simp
                          go_at_call 16
                          refine (HLN.out _ (HVQ.out.ql.keep hS)).mono ?_
                          rintro e wc4 ⟨rfl, hb⟩
                          have hS := hS.trans (hb.mono hS.size)
                          clear hb
                          go_wp2_with fail
                          refine hK.out _ _ hS (fun _ => ?_)
                          clear hK K
                          try simp only [Act.put, List.setIfInBounds_toArray, List.set_cons_zero, List.set_cons_succ]
                          refine wpAnyH_take (i := 18) (v := ?_) (by simp only [List.getElem?_toArray, List.getElem?_cons_succ, List.getElem?_cons_zero] <;> exact rfl) (by kernel_rfl) (by kernel_rfl) (by kernel_rfl) (fun _ _ _ h => h) (Or.inl ⟨by rfl, ?_⟩) hS ?_
                          rotate_left
                          focus (intro w' hw'; have hh := HE2.out; go_simp; all_goals with_reducible rfl)
                          try simp only [Act.put, List.setIfInBounds_toArray, List.set_cons_zero, List.set_cons_succ]
                          refine wpAnyH_take (i := 19) (v := ?_) (by simp only [List.getElem?_toArray, List.getElem?_cons_succ, List.getElem?_cons_zero] <;> exact rfl) (by kernel_rfl) (by kernel_rfl) (by kernel_rfl) (fun _ _ _ h => h) (Or.inl ⟨by rfl, ?_⟩) hS ?_
                          rotate_left
                          focus (intro w' hw'; go_simp; all_goals with_reducible rfl)
                          try simp only [Act.put, List.setIfInBounds_toArray, List.set_cons_zero, List.set_cons_succ]
                          refine wpAnyH_take (i := 20) (v := ?_) (by simp only [List.getElem?_toArray, List.getElem?_cons_succ, List.getElem?_cons_zero] <;> exact rfl) (by kernel_rfl) (by kernel_rfl) (by kernel_rfl) (fun _ _ _ h => h) (Or.inl ⟨by rfl, ?_⟩) hS ?_
                          rotate_left
                          focus (intro w' hw'; go_simp; all_goals with_reducible rfl)
                          try simp only [Act.put, List.setIfInBounds_toArray, List.set_cons_zero, List.set_cons_succ]
                          refine wpAnyH_take (i := 21) (v := ?_) (by simp only [List.getElem?_toArray, List.getElem?_cons_succ, List.getElem?_cons_zero] <;> exact rfl) (by kernel_rfl) (by kernel_rfl) (by kernel_rfl) (fun _ _ _ h => h) (Or.inl ⟨by rfl, ?_⟩) hS ?_
                          rotate_left
                          focus (intro w' hw'; go_simp; all_goals with_reducible rfl)
                          try simp only [Act.put, List.setIfInBounds_toArray, List.set_cons_zero, List.set_cons_succ]
                          refine wpAnyH_take (i := 22) (v := ?_) (by simp only [List.getElem?_toArray, List.getElem?_cons_succ, List.getElem?_cons_zero] <;> exact rfl) (by kernel_rfl) (by kernel_rfl) (by kernel_rfl) (fun _ _ _ h => h) (Or.inl ⟨by rfl, ?_⟩) hS ?_
                          rotate_left
                          focus (intro w' hw'; go_simp; all_goals with_reducible rfl)
                          try simp only [Act.put, List.setIfInBounds_toArray, List.set_cons_zero, List.set_cons_succ]
                          refine wpAnyH_take (i := 23) (v := ?_) (by simp only [List.getElem?_toArray, List.getElem?_cons_succ, List.getElem?_cons_zero] <;> exact rfl) (by kernel_rfl) (by kernel_rfl) (by kernel_rfl) (fun _ _ _ h => h) (Or.inl ⟨by rfl, ?_⟩) hS ?_
                          rotate_left
                          focus (intro w' hw'; go_simp; all_goals with_reducible rfl)
                          try simp only [Act.put, List.setIfInBounds_toArray, List.set_cons_zero, List.set_cons_succ]
                          refine wpAnyH_take (i := 24) (v := ?_) (by simp only [List.getElem?_toArray, List.getElem?_cons_succ, List.getElem?_cons_zero] <;> exact rfl) (by kernel_rfl) (by kernel_rfl) (by kernel_rfl) (fun _ _ _ h => h) (Or.inl ⟨by rfl, ?_⟩) hS ?_
                          rotate_left
                          focus (intro w' hw'; go_simp; all_goals with_reducible rfl)
                          try simp only [Act.put, List.setIfInBounds_toArray, List.set_cons_zero, List.set_cons_succ]
                          refine wpAnyH_take (i := 25) (v := ?_) (by simp only [List.getElem?_toArray, List.getElem?_cons_succ, List.getElem?_cons_zero] <;> exact rfl) (by kernel_rfl) (by kernel_rfl) (by kernel_rfl) (fun _ _ _ h => h) (Or.inl ⟨by rfl, ?_⟩) hS ?_
                          rotate_left
                          focus (intro w' hw'; have hh := HE3.out; have hh2 := HE4.out; go_simp; all_goals with_reducible rfl)
                          try simp only [Act.put, List.setIfInBounds_toArray, List.set_cons_zero, List.set_cons_succ]
                          refine wpAnyH_take (i := 26) (v := ?_) (by simp only [List.getElem?_toArray, List.getElem?_cons_succ, List.getElem?_cons_zero] <;> exact rfl) (by kernel_rfl) (by kernel_rfl) (by kernel_rfl) (fun _ _ _ h => h) (Or.inl ⟨by rfl, ?_⟩) hS ?_
                          rotate_left
                          focus (intro w' hw'; go_simp; all_goals with_reducible rfl)
                          try simp only [Act.put, List.setIfInBounds_toArray, List.set_cons_zero, List.set_cons_succ]
                          refine wpAnyH_take (i := 27) (v := ?_) (by simp only [List.getElem?_toArray, List.getElem?_cons_succ, List.getElem?_cons_zero] <;> exact rfl) (by kernel_rfl) (by kernel_rfl) (by kernel_rfl) (fun _ _ _ h => h) (Or.inl ⟨by rfl, ?_⟩) hS ?_
                          rotate_left
                          focus (intro w' hw'; have hh := HE5.out; go_simp; all_goals with_reducible rfl)
                          try simp only [Act.put, List.setIfInBounds_toArray, List.set_cons_zero, List.set_cons_succ]
                          refine wpAnyH_take (i := 28) (v := ?_) (by simp only [List.getElem?_toArray, List.getElem?_cons_succ, List.getElem?_cons_zero] <;> exact rfl) (by kernel_rfl) (by kernel_rfl) (by kernel_rfl) (fun _ _ _ h => h) (Or.inl ⟨by rfl, ?_⟩) hS ?_
                          rotate_left
                          focus (intro w' hw'; go_simp; all_goals with_reducible rfl)
                          try simp only [Act.put, List.setIfInBounds_toArray, List.set_cons_zero, List.set_cons_succ]
                          refine wpAnyH_done (by kernel_rfl) ?_ _
                          refine NoPanic.normal ?_
                          go_wp2_with fail
                          go_meet
                          exact ⟨rfl, hS⟩)
                        exact AllReadyH.nil)
                      exact AllReadyH.nil)
                    exact AllReadyH.nil)
                  exact AllReadyH.nil
                case rest =>
                  obtain ⟨rfl, hb⟩ := hcut
                  have HVQ := hide (HVQ.out.keep hb)
                  have HBL := hide (HBL.out.trans (hb.mono HBL.out.size))
                  clear hb HCK HLN HRM HE0 HE1 HE2 HE3 HE4 HE5
                  go_wp2
                  go_roundw
                  case rel => exact ⟨i + 1, q, C, W, k, Aq, nq, cq, by omega, by go_num, rfl, rfl, rfl, by omega, HOR.out, HVQ.out, HBL.out⟩
                  case measure => simp [intOf]; omega
          · have h200' : (200 : Int) < (s.size : Int) := by omega
            clear h200
            go_wp2_with fail
            refine (HAW.out _).mono ?_
            rintro e w4 ⟨rfl, hb⟩
            have HBL := hide (HBL.out.trans (hb.mono HBL.out.size))
            clear hb
            go_wp2
            go_ret
            exact ⟨rfl, HBL.out⟩
        · obtain rfl : n = i := by omega
          have hge : ¬ (n : Int) < (n : Int) := by omega
          have HEN := hide (HOR.out.end_ (by omega))
          have HDR := hide (oq_Drain q Aq nq cq 65536 wr HVQ.out.ql)
          have HSZ := hide (show ¬ 9223372036854775807 < W.size + (strOfNums (drainB q 65536)).size by
            have h1 := HOR.out.size
            have h2 := HOR.out.sum
            have h3 := goes_le q 65536
            rw [strOfNums_size, drainB_len]
            omega)
          obtain ⟨S, hS⟩ : ∃ S, S = strOfNums (drainB q 65536) := ⟨_, rfl⟩
          have HST := hide (fun (w' : World) (B' : Option Addr) (k' d' : Nat) (h : RB w' B' k' (drainB q 65536)) => rb_string d' h)
          rw [← hS] at HEN HSZ HST
          generalize drainB q 65536 = db at *
          generalize drainQ q 65536 = q1 at *
          obtain ⟨k0, k1, k2⟩ := qcells HVQ.out.blk
          clear hS
          go_wp2_with fail
          refine HDR.out.mono ?_
          rintro e w2 ⟨⟨A1, n1, c1, C1, k1', d1, rfl, ht, hr⟩, hb⟩
          have HBL := hide (HBL.out.trans (hb.mono HBL.out.size))
          have HR2 := hide hr
          clear hb hr ht k0 k1 k2 HDR HVQ
          go_upto_region 26 with (refine wpList_q_blk 28 pq_size rfl (.tmp 14) (.tmp 126) w2.heap.size A1 n1 c1 q1.m q1.g _ _ _ rfl (BlkIs.new w2 28 #[.slice none 0 0, .int .i64 0, .int .i64 0]) rfl rfl ?_; intro wv hk kb; have hb := below_kbq (bel1 w2 (.cells #[.slice none 0 0, .int .i64 0, .int .i64 0] 28)) kb (Nat.le_refl _) (Nat.le_refl _); have HBL := hide (HBL.out.trans (hb.mono HBL.out.size)); have HR3 := hide (HR2.out.below hb); clear hk kb hb)
          have hst := HST.out _ _ _ d1 HR3.out
          have hsz := HSZ.out
          have hen := HEN.out
          have he := str_same (a := C) (b := C) rfl
          clear HST HSZ HEN HR2 HR3
          go_wp2_with fail
          refine (HAW.out _).mono ?_
          rintro e w4 ⟨rfl, hb⟩
          have HBL := hide (HBL.out.trans (hb.mono HBL.out.size))
          clear hb hst hsz hen he
          go_wp2
          go_ret
          exact ⟨rfl, HBL.out⟩
    · have hnb' : (60 : Int) < (nb : Int) := by omega
      have hn' : ¬ (60 : Int) < (n : Int) := by omega
      clear hnb hn
      go_enter Try.func5, Try.ntmps5
      go_wp2_with fail
      refine (HAW.out _).mono ?_
      rintro e w4 ⟨rfl, hb⟩
      have HBL := hide (HBL.out.trans (hb.mono HBL.out.size))
      clear hb
      go_wp2
      go_ret
      exact ⟨rfl, HBL.out⟩
  · have hn' : (60 : Int) < (n : Int) := by omega
    clear hn
    go_enter Try.func5, Try.ntmps5
    go_wp2_with fail
    refine (HAW.out _).mono ?_
    rintro e w4 ⟨rfl, hb⟩
    have HBL := hide (HBL.out.trans (hb.mono HBL.out.size))
    clear hb
    go_wp2
    go_ret
    exact ⟨rfl, HBL.out⟩
end Go.Proofs.Ytfcokhdkjoimmaa.outqOrder
