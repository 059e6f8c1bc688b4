/-
  Layer 24: Pop, Fix, Drop.
-/
import Derived.Test.YtofnpmmbfcnlgaaHpTake
namespace Go.Proofs.Ytofnpmmbfcnlgaa
set_option linter.unusedSimpArgs false
set_option linter.unusedVariables false
open Go.RowKit

/-- What Pop answers: what is left, the least one, and whether there is one. -/
def popR (l : List It) : List It × It × Bool := if l.length = 0 then ([], ⟨0, 0⟩, false) else (takeL (ofL l) 0, gt (ofL l) 0, true)
def GivesPop (l : List It) (w : World) (e : Ending) (w' : World) : Prop :=
  ∃ A c, e = .returned (.tuple #[.slice A (popR l).1.length c, .agg #[.int .i64 (popR l).2.1.k, .int .i64 (popR l).2.1.d], .bool (popR l).2.2]) ∧ w'.ownsRow w.heap.size 38 2 (.slice A (popR l).1.length c) (popR l).1.length (ics (popR l).1) ∧ Below w.heap.size w w'
set_option maxRecDepth 100000 in
set_option maxHeartbeats 1600000 in
theorem hp_Pop (A : Option Addr) (n c : Nat) (l : List It) (w : World) (hl : IL w A n c l) (hn : (n : Int) ≤ 900) :
    Calls Try.prog 18 #[.slice A n c] w (GivesPop l w) := by
  have HL := hide hl
  have hln := hl.len
  subst hln
  clear hl
  obtain ⟨N, hN⟩ : ∃ N, l.length = N := ⟨_, rfl⟩
  rw [hN] at hn HL ⊢
  have HNN := hide hN
  clear hN
  by_cases h0 : N = 0
  · have HR := hide (show popR l = ([], ⟨0, 0⟩, false) from if_pos (by rw [HNN.out]; exact h0))
    subst h0
    have K0 := hide (BlkIs.new w 38 #[.int .i64 0, .int .i64 0])
    have HB0 := hide (bel1 w (.cells #[.int .i64 0, .int .i64 0] 38))
    go_enter Try.func18, Try.ntmps18
    go_wp2_with fail
    exact bodyPost_ret (results_tmp_cell_tmp_blk rfl _ _ w.heap.size 38 #[.int .i64 0, .int .i64 0] _ rfl K0.out Try.underlying38 rfl it_size _ rfl _ rfl) rfl ⟨none, 0, by rw [HR.out]; rfl, by rw [HR.out]; exact World.ownsRow_nil _ _ _ _, HB0.out⟩
  · have HR := hide (show popR l = (takeL (ofL l) 0, gt (ofL l) 0, true) from if_neg (by rw [HNN.out]; exact h0))
    have hpos : 0 < N := by omega
    have hne : ((N : Int) == 0) = false := by simpa using h0
    have K0 := hide (BlkIs.new w 38 #[.int .i64 0, .int .i64 0])
    have HB0 := hide (bel1 w (.cells #[.int .i64 0, .int .i64 0] 38))
    have HOF := hide (fun w' (hb : Below w.heap.size w w') => (hp_Of A N c l w' (HL.out.keep hb) (by omega)).mono fun e w2 h => gives_n (N := N) (by rw [of_len, HNN.out]) h)
    obtain ⟨x, hx⟩ : ∃ x, gt (ofL l) 0 = x := ⟨_, rfl⟩
    rw [hx] at HR
    have HX := hide hx
    have HP := hide hpos
    clear hx h0
    go_enter Try.func18, Try.ntmps18
    go_upto_region 3 with (fail)
    clear hne
    obtain ⟨g0, hg0⟩ : ∃ g0, w.heap.size = g0 := ⟨_, rfl⟩
    rw [hg0] at K0 HB0 HOF ⊢
    have HG0 := hide hg0
    clear hg0
    generalize (w.alloc (.cells #[.int .i64 0, .int .i64 0] 38)) = w1 at K0 HB0 ⊢
    go_wp2_with fail
    refine (HOF.out _ HB0.out).mono ?_
    rintro e w3 ⟨A3, c3, rfl, ho3, hb3⟩
    obtain ⟨g3, rfl⟩ := own_some ho3 HP.out
    have HG3 := hide (own_lt2 ho3)
    have HT := hide (hp_takeAt g3 N c3 w1.heap.size (ofL l) 0 w3 ho3 HP.out (by omega))
    rw [HX.out, show ((0 : Nat) : Int) = 0 from rfl] at HT
    have HB3 := hide (HB0.out.trans (hb3.mono (by rw [← HG0.out]; exact HB0.out.size)))
    have K3 := hide (K0.out.keep hb3)
    have HZ1 := hide (show g0 < w1.heap.size from K0.out.lt)
    have HNE := hide (show g0 ≠ g3 by have := HG3.out.1; have := HZ1.out; omega)
    clear ho3 hb3 HOF
    go_wp2_with fail
    refine HT.out.mono ?_
    rintro e w5 ⟨rfl, ho5, hk5⟩
    have K5 := hide (hk5.blk K3.out HNE.out)
    have HB5 := hide (kb_belowB HB3.out (by have := HG3.out.1; have := HZ1.out; omega) hk5 (by rw [← HG0.out]; have := HB3.out.size; exact this))
    have HO5 := hide ho5
    clear ho5 hk5 HT
    go_upto_region 4 with (fail)
    have K6 := hide (K5.out.alloc (.cells #[.int .i64 x.k, .int .i64 x.d] 38))
    have KX := hide (BlkIs.new w5 38 #[.int .i64 x.k, .int .i64 x.d])
    have HO6 := hide (HO5.out.alloc (.cells #[.int .i64 x.k, .int .i64 x.d] 38))
    have HB6 := hide (HB5.out.alloc (by rw [← HG0.out]; exact HB5.out.size) (.cells #[.int .i64 x.k, .int .i64 x.d] 38))
    obtain ⟨t0, t1, -, -⟩ := it_facts KX.out
    obtain ⟨r0, r1, r2, r3⟩ := it_facts K6.out
    generalize (w5.alloc (.cells #[.int .i64 x.k, .int .i64 x.d] 38)) = w6 at K6 HO6 HB6 t0 t1 r0 r1 r2 r3 ⊢
    go_region
    have K8 := hide (blk_put2 K6.out (.int .i64 x.k) (.int .i64 x.d))
    have HO8 := hide (own_new2 HO6.out (Ne.symm HNE.out) 0 1 (.int .i64 x.k) (.int .i64 x.d))
    have HB8 := hide (show Below g0 w ((w6.setCell ⟨g0, 0, none⟩ (.int .i64 x.k)).setCell ⟨g0, 1, none⟩ (.int .i64 x.d)) from (HB6.out.setCell (Nat.le_refl _) _).setCell (Nat.le_refl _) _)
    clear t0 t1 r0 r1 r2 r3
    generalize ((w6.setCell ⟨g0, 0, none⟩ (.int .i64 x.k)).setCell ⟨g0, 1, none⟩ (.int .i64 x.d)) = w8 at K8 HO8 HB8 ⊢
    go_wp2_with fail
    have hlen : (takeL (ofL l) 0).length = N - 1 := by rw [take_len, of_len, HNN.out]
    refine bodyPost_ret (results_tmp_cell_tmp_blk rfl _ _ g0 38 #[.int .i64 x.k, .int .i64 x.d] _ rfl K8.out.drew Try.underlying38 rfl it_size _ rfl _ rfl) rfl ⟨some ⟨g3, 0, none⟩, c3, by rw [HR.out]; simp only; rw [hlen]; rfl, ?_, by rw [HG0.out]; exact HB8.out.drew⟩
    rw [HR.out]
    simp only
    rw [hlen]
    exact own_base HO8.out (by rw [HG0.out]; exact Nat.le_of_lt HZ1.out)
end Go.Proofs.Ytofnpmmbfcnlgaa
