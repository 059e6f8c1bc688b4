/-
  Layer 24: take.
-/
import Derived.Test.YtofnpmmbfcnlgaaHpOf
import Derived.Test.YtofnpmmbfcnlgaaResMore
namespace Go.Proofs.Ytofnpmmbfcnlgaa
set_option linter.unusedSimpArgs false
set_option linter.unusedVariables false
open Go.RowKit

set_option maxRecDepth 100000 in
set_option maxHeartbeats 1600000 in
theorem hp_takeAt (g n c B : Nat) (l : List It) (i : Nat) (w : World) (ho : w.ownsRow B 38 2 (.slice (some ⟨g, 0, none⟩) n c) n (ics l)) (hi : i < n) (hn : (n : Int) ≤ 1000) :
    Calls Try.prog 26 #[.slice (some ⟨g, 0, none⟩) n c, .int .i64 (i : Int)] w fun e w' => e = .returned (.tuple #[.slice (some ⟨g, 0, none⟩) (n - 1) c, .agg #[.int .i64 (gt l i).k, .int .i64 (gt l i).d]]) ∧ w'.ownsRow B 38 2 (.slice (some ⟨g, 0, none⟩) (n - 1) c) (n - 1) (ics (takeL l i)) ∧ KB (· = g) w w' := by
  have HO := hide ho
  have HLN := hide (own_len ho)
  have hnc : n ≤ c := by
    rcases ho.2 with ⟨he, _⟩ | ⟨g', cap, cur, he, hb, hg, hn, _⟩
    · cases he
    · injection he with e1 e2 e3; omega
  have HLT := hide (own_lt2 ho)
  clear ho
  obtain ⟨p, hp⟩ : ∃ p, n - 1 = p := ⟨_, rfl⟩
  rw [hp]
  have hpn : p < n := by omega
  have hpe : (n : Int) - 1 = (p : Int) := by omega
  have HPN := hide (show n = p + 1 by omega)
  clear hp
  have HIX := hide (gt_get (l := l) (i := i) (by rw [HLN.out]; exact hi))
  have HDX := hide (gt_get (l := l) (i := p) (by rw [HLN.out]; exact hpn))
  obtain ⟨x, hx⟩ : ∃ x, gt l i = x := ⟨_, rfl⟩
  obtain ⟨y, hy⟩ : ∃ y, gt l p = y := ⟨_, rfl⟩
  rw [hx] at HIX ⊢
  rw [hy] at HDX
  have HX := hide hx
  have HY := hide hy
  clear hx hy
  have hii : (i : Int) < (n : Int) := by omega
  have hpp : (p : Int) < (n : Int) := by omega
  obtain ⟨q0, q1⟩ := ics_get l i x HIX.out
  have c0 := HO.out.cells (g := g) rfl _ _ q0
  have c1 := HO.out.cells (g := g) rfl _ _ q1
  simp only [Addr.add_lit, Nat.zero_add] at c0 c1
  have hbl : g < w.heap.size := HLT.out.2
  clear q0 q1
  go_enter Try.func26, Try.ntmps26
  go_upto_region 2 with (fail)
  have K0 := hide (new2' w #[.int .i64 0, .int .i64 0] 38 #[.int .i64 x.k, .int .i64 x.d] 38)
  have K1 := hide (new2 w (.cells #[.int .i64 0, .int .i64 0] 38) 38 #[.int .i64 x.k, .int .i64 x.d])
  have HO2 := hide (own_low HO.out (bel2 w (.cells #[.int .i64 0, .int .i64 0] 38) (.cells #[.int .i64 x.k, .int .i64 x.d] 38)))
  have HK2 := hide (KB.of_below (· = g) (bel2 w (.cells #[.int .i64 0, .int .i64 0] 38) (.cells #[.int .i64 x.k, .int .i64 x.d] 38)))
  generalize ((w.alloc (.cells #[.int .i64 0, .int .i64 0] 38)).alloc (.cells #[.int .i64 x.k, .int .i64 x.d] 38)) = w2 at K0 K1 HO2 HK2 ⊢
  have hg0 : g ≠ w.heap.size := by omega
  have hg1 : g ≠ w.heap.size + 1 := by omega
  obtain ⟨h0, hh0⟩ : ∃ h0, w.heap.size = h0 := ⟨_, rfl⟩
  rw [hh0] at K0 K1 hg0 hg1 ⊢
  have HH0 := hide hh0
  clear hh0
  have HG0 := hide hg0
  have HG1 := hide hg1
  obtain ⟨q0, q1⟩ := ics_get l i x HIX.out
  obtain ⟨q2, q3⟩ := ics_get l p y HDX.out
  have c0 := HO2.out.cells (g := g) rfl _ _ q0
  have c1 := HO2.out.cells (g := g) rfl _ _ q1
  have d0 := HO2.out.cells (g := g) rfl _ _ q2
  have d1 := HO2.out.cells (g := g) rfl _ _ q3
  simp only [Addr.add_lit, Nat.zero_add] at c0 c1 d0 d1
  have f0 := own_frozen2 HO2.out (i * 2)
  have f1 := own_frozen2 HO2.out (i * 2 + 1)
  have hsl := fun w => run_head isH (some ⟨g, 0, none⟩) n c p (by omega) w
  clear q0 q1 q2 q3 hbl hg0 hg1
  go_upto_region 4 with (fail)
  have HO3 := hide (own_item HO2.out i hi y)
  have HK3 := hide (kb_item HK2.out (i * 2) (i * 2 + 1) (.int .i64 y.k) (.int .i64 y.d))
  have K03 := hide ((K0.out.far (p := ⟨g, i * 2, none⟩) (Ne.symm HG0.out) (.int .i64 y.k)).far (p := ⟨g, i * 2 + 1, none⟩) (Ne.symm HG0.out) (.int .i64 y.d))
  have K13 := hide ((K1.out.far (p := ⟨g, i * 2, none⟩) (Ne.symm HG1.out) (.int .i64 y.k)).far (p := ⟨g, i * 2 + 1, none⟩) (Ne.symm HG1.out) (.int .i64 y.d))
  clear c0 c1 d0 d1 f0 f1 hsl
  generalize ((w2.setCell ⟨g, i * 2, none⟩ (.int .i64 y.k)).setCell ⟨g, i * 2 + 1, none⟩ (.int .i64 y.d)) = w3 at HO3 HK3 K03 K13 ⊢
  clear HO2 HK2 K0 K1
  have HO4 := hide (own_cut2 HO3.out (i := p) (by omega))
  have ecut : (l.set i y).take p = cutL l i := by
    unfold cutL
    rw [HLN.out, show n - 1 = p by have := HPN.out; omega, HY.out]
  rw [ecut] at HO4
  clear ecut HO3 hpe
  by_cases hip : i < p
  · have hip' : (i : Int) < (p : Int) := by omega
    have etk : takeL l i = settleL (cutL l i) i := by
      unfold takeL
      rw [if_pos (by rw [HLN.out]; have := HPN.out; omega)]
    have HET := hide etk
    clear etk
    have HS := hide (hp_settle g p c B (cutL l i) i w3 HO4.out hip (by omega))
    go_upto_region 6 with (go_at_call 30; (with_reducible refine HS.out.mono ?_); rintro e w5 ⟨rfl, ho5, hk5⟩; have HO5 := hide ho5; have HK5 := hide hk5; clear ho5 hk5)
    have K05 := hide (HK5.out.blk K03.out (Ne.symm HG0.out))
    have K15 := hide (HK5.out.blk K13.out (Ne.symm HG1.out))
    have HK6 := hide (HK3.out.trans' HK5.out (fun _ _ h => h))
    obtain ⟨t0, t1, -, -⟩ := it_facts K15.out
    obtain ⟨r0, r1, r2, r3⟩ := it_facts K05.out
    clear c0 c1
    go_region
    have K8 := hide (blk_put2 K05.out (.int .i64 x.k) (.int .i64 x.d))
    have HO8 := hide (own_new2 HO5.out HG0.out 0 1 (.int .i64 x.k) (.int .i64 x.d))
    have HK8 := hide (kb_new2 HK6.out (Nat.le_of_eq HH0.out) 0 1 (.int .i64 x.k) (.int .i64 x.d))
    clear t0 t1 r0 r1 r2 r3
    generalize ((w5.setCell ⟨h0, 0, none⟩ (.int .i64 x.k)).setCell ⟨h0, 1, none⟩ (.int .i64 x.d)) = w8 at K8 HO8 HK8 ⊢
    go_wp2_with fail
    exact bodyPost_ret (results_tmp_cell_blk rfl _ _ h0 38 #[.int .i64 x.k, .int .i64 x.d] _ rfl K8.out.drew Try.underlying38 rfl it_size _ rfl) rfl ⟨rfl, by rw [HET.out]; exact HO8.out, HK8.out.drew⟩
  · have hip' : ¬ (i : Int) < (p : Int) := by omega
    have etk : takeL l i = cutL l i := by
      unfold takeL
      rw [if_neg (by rw [HLN.out]; have := HPN.out; omega)]
    have HET := hide etk
    obtain ⟨t0, t1, -, -⟩ := it_facts K13.out
    obtain ⟨r0, r1, r2, r3⟩ := it_facts K03.out
    clear c0 c1 etk
    go_upto_region 6 with (fail)
    go_region
    have K8 := hide (blk_put2 K03.out (.int .i64 x.k) (.int .i64 x.d))
    have HO8 := hide (own_new2 HO4.out HG0.out 0 1 (.int .i64 x.k) (.int .i64 x.d))
    have HK8 := hide (kb_new2 HK3.out (Nat.le_of_eq HH0.out) 0 1 (.int .i64 x.k) (.int .i64 x.d))
    clear t0 t1 r0 r1 r2 r3
    generalize ((w3.setCell ⟨h0, 0, none⟩ (.int .i64 x.k)).setCell ⟨h0, 1, none⟩ (.int .i64 x.d)) = w8 at K8 HO8 HK8 ⊢
    go_wp2_with fail
    exact bodyPost_ret (results_tmp_cell_blk rfl _ _ h0 38 #[.int .i64 x.k, .int .i64 x.d] _ rfl K8.out.drew Try.underlying38 rfl it_size _ rfl) rfl ⟨rfl, by rw [HET.out]; exact HO8.out, HK8.out.drew⟩
end Go.Proofs.Ytofnpmmbfcnlgaa
