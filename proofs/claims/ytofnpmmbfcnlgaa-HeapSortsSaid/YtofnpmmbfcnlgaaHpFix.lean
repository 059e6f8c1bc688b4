/-
  Layer 24: Fix, Drop.
-/
import Derived.Test.YtofnpmmbfcnlgaaHpTake
import Derived.Test.YtofnpmmbfcnlgaaHpPlace
namespace Go.Proofs.Ytofnpmmbfcnlgaa
set_option linter.unusedSimpArgs false
set_option linter.unusedVariables false
open Go.RowKit

/-- What Fix answers. -/
def fixR (l : List It) (id key : Int) : List It × Bool := if fstI (ofL l) id < 0 then (ofL l, false) else (fixL (ofL l) (plc (ofL l) id) key, true)
def dropR (l : List It) (id : Int) : List It × Bool := if fstI (ofL l) id < 0 then (ofL l, false) else (takeL (ofL l) (plc (ofL l) id), true)
theorem fix_len (l : List It) (i : Nat) (k : Int) : (fixL l i k).length = l.length := by rw [fixL, settle_len]; simp
def GivesB (r : List It × Bool) (w : World) (e : Ending) (w' : World) : Prop :=
  ∃ A c, e = .returned (.tuple #[.slice A r.1.length c, .bool r.2]) ∧ w'.ownsRow w.heap.size 38 2 (.slice A r.1.length c) r.1.length (ics r.1) ∧ Below w.heap.size w w'
/-- One item's key is stored. -/
theorem own_key {w : World} {B n c g : Nat} {e : TypeId} {l : List It} (h : w.ownsRow B e 2 (.slice (some ⟨g, 0, none⟩) n c) n (ics l)) (i : Nat) (hi : i < n) (k : Int) :
    (w.setCell ⟨g, i * 2, none⟩ (.int .i64 k)).ownsRow B e 2 (.slice (some ⟨g, 0, none⟩) n c) n (ics (l.set i ⟨k, (gt l i).d⟩)) := by
  have hl := own_len h
  have h1 := own_set2 h (i * 2) (by omega) (.int .i64 k)
  rw [ics_set l i _ (by omega)]
  have q := (ics_get l i _ (gt_get (by omega))).2
  have e1 : ((ics l).set (i * 2) (.int .i64 k)).set (i * 2 + 1) (.int .i64 (gt l i).d) = (ics l).set (i * 2) (.int .i64 k) := by
    apply List.ext_getElem?
    intro j
    rw [List.getElem?_set]
    split
    · next e =>
      subst e
      rw [List.getElem?_set_ne (by omega), q]
      have := (List.getElem?_eq_some_iff.1 q).1
      rw [List.length_set, if_pos this]
    · rfl
  simp only [e1]
  exact h1

set_option maxRecDepth 100000 in
set_option maxHeartbeats 1600000 in
theorem hp_Fix (A : Option Addr) (n c : Nat) (l : List It) (id key : Int) (w : World) (hl : IL w A n c l) (hn : (n : Int) ≤ 900) :
    Calls Try.prog 19 #[.slice A n c, .int .i64 id, .int .i64 key] w (GivesB (fixR l id key) w) := by
  have hln := hl.len
  subst hln
  obtain ⟨N, hN⟩ : ∃ N, l.length = N := ⟨_, rfl⟩
  rw [hN] at hn hl ⊢
  have HNN := hide hN
  have HOF := hide ((hp_Of A N c l w hl (by omega)).mono fun e w2 h => gives_n (N := N) (by rw [of_len, hN]) h)
  clear hN hl
  have HLN := hide (show (ofL l).length = N by rw [of_len, HNN.out])
  rcases fst_or (ofL l) id with hf | ⟨k, hf, hp, hk, hd⟩
  · have HR := hide (show fixR l id key = (ofL l, false) from if_pos (by rw [hf]; omega))
    have HF := hide hf
    clear hf
    go_enter Try.func19, Try.ntmps19
    go_wp2_with fail
    refine HOF.out.mono ?_
    rintro e w1 ⟨A1, c1, rfl, ho1, hb1⟩
    have HP := hide (hp_place A1 N c1 (ofL l) id w1 (own_ils ho1) (by omega))
    rw [HF.out] at HP
    have HO1 := hide ho1
    have HB1 := hide hb1
    clear ho1 hb1 HOF
    go_wp2_with fail
    refine HP.out.mono ?_
    rintro e w2 ⟨rfl, hb2⟩
    have HO2 := hide (own_low HO1.out hb2)
    have HB2 := hide (HB1.out.trans (hb2.mono HB1.out.size))
    clear hb2 HP
    go_wp2_with fail
    go_ret2
    exact ⟨A1, c1, by rw [HR.out]; simp only; rw [HLN.out]; rfl, by rw [HR.out]; simp only; rw [HLN.out]; exact HO2.out, HB2.out⟩
  · have HR := hide (show fixR l id key = (fixL (ofL l) k key, true) by rw [fixR, if_neg (by rw [hf]; omega), hp])
    have HF := hide hf
    have hkn : k < N := by rw [← HLN.out]; exact hk
    clear hf hp hd hk
    go_enter Try.func19, Try.ntmps19
    go_wp2_with fail
    refine HOF.out.mono ?_
    rintro e w1 ⟨A1, c1, rfl, ho1, hb1⟩
    have HP := hide (hp_place A1 N c1 (ofL l) id w1 (own_ils ho1) (by omega))
    rw [HF.out] at HP
    obtain ⟨g1, rfl⟩ := own_some ho1 (by omega)
    have HO1 := hide ho1
    have HB1 := hide hb1
    clear ho1 hb1 HOF
    go_wp2_with fail
    refine HP.out.mono ?_
    rintro e w2 ⟨rfl, hb2⟩
    have HO2 := hide (own_low HO1.out hb2)
    have HB2 := hide (HB1.out.trans (hb2.mono HB1.out.size))
    have HG := hide (own_lt2 HO2.out)
    clear hb2 HP
    obtain ⟨x, hx⟩ : ∃ x, (ofL l)[k]? = some x := ⟨_, gt_get (by rw [HLN.out]; exact hkn)⟩
    have c0 := HO2.out.cells (g := g1) rfl _ _ (ics_get _ k x hx).1
    simp only [Addr.add_lit, Nat.zero_add] at c0
    have f0 := own_frozen2 HO2.out (k * 2)
    have hkn' : (k : Int) < (N : Int) := by omega
    clear hx
    go_upto_region 6 with (fail)
    have HO3 := hide (own_key HO2.out k hkn key)
    have HB3 := hide (HB2.out.setCell (p := ⟨g1, k * 2, none⟩) HG.out.1 (.int .i64 key))
    clear c0 f0
    generalize (w2.setCell ⟨g1, k * 2, none⟩ (.int .i64 key)) = w3 at HO3 HB3 ⊢
    have HS := hide (hp_settle g1 N c1 w.heap.size _ k w3 HO3.out hkn (by omega))
    go_wp2_with fail
    refine HS.out.mono ?_
    rintro e w5 ⟨rfl, ho5, hk5⟩
    have HO5 := hide ho5
    have HB5 := hide (kb_belowB HB3.out HG.out.1 hk5 HB3.out.size)
    clear ho5 hk5 HS
    go_wp2_with fail
    go_ret2
    have hlen : (fixL (ofL l) k key).length = N := by rw [fix_len, HLN.out]
    exact ⟨some ⟨g1, 0, none⟩, c1, by rw [HR.out]; simp only; rw [hlen]; rfl, by rw [HR.out]; simp only; rw [hlen]; exact HO5.out, HB5.out⟩

set_option maxRecDepth 100000 in
set_option maxHeartbeats 1600000 in
theorem hp_Drop (A : Option Addr) (n c : Nat) (l : List It) (id : Int) (w : World) (hl : IL w A n c l) (hn : (n : Int) ≤ 900) :
    Calls Try.prog 20 #[.slice A n c, .int .i64 id] w (GivesB (dropR l id) w) := by
  have hln := hl.len
  subst hln
  obtain ⟨N, hN⟩ : ∃ N, l.length = N := ⟨_, rfl⟩
  rw [hN] at hn hl ⊢
  have HNN := hide hN
  have HOF := hide ((hp_Of A N c l w hl (by omega)).mono fun e w2 h => gives_n (N := N) (by rw [of_len, hN]) h)
  clear hN hl
  have HLN := hide (show (ofL l).length = N by rw [of_len, HNN.out])
  rcases fst_or (ofL l) id with hf | ⟨k, hf, hp, hk, hd⟩
  · have HR := hide (show dropR l id = (ofL l, false) from if_pos (by rw [hf]; omega))
    have HF := hide hf
    clear hf
    go_enter Try.func20, Try.ntmps20
    go_wp2_with fail
    refine HOF.out.mono ?_
    rintro e w1 ⟨A1, c1, rfl, ho1, hb1⟩
    have HP := hide (hp_place A1 N c1 (ofL l) id w1 (own_ils ho1) (by omega))
    rw [HF.out] at HP
    have HO1 := hide ho1
    have HB1 := hide hb1
    clear ho1 hb1 HOF
    go_wp2_with fail
    refine HP.out.mono ?_
    rintro e w2 ⟨rfl, hb2⟩
    have HO2 := hide (own_low HO1.out hb2)
    have HB2 := hide (HB1.out.trans (hb2.mono HB1.out.size))
    clear hb2 HP
    go_wp2_with fail
    go_ret2
    exact ⟨A1, c1, by rw [HR.out]; simp only; rw [HLN.out]; rfl, by rw [HR.out]; simp only; rw [HLN.out]; exact HO2.out, HB2.out⟩
  · have HR := hide (show dropR l id = (takeL (ofL l) k, true) by rw [dropR, if_neg (by rw [hf]; omega), hp])
    have HF := hide hf
    have hkn : k < N := by rw [← HLN.out]; exact hk
    clear hf hp hd hk
    go_enter Try.func20, Try.ntmps20
    go_wp2_with fail
    refine HOF.out.mono ?_
    rintro e w1 ⟨A1, c1, rfl, ho1, hb1⟩
    have HP := hide (hp_place A1 N c1 (ofL l) id w1 (own_ils ho1) (by omega))
    rw [HF.out] at HP
    obtain ⟨g1, rfl⟩ := own_some ho1 (by omega)
    have HO1 := hide ho1
    have HB1 := hide hb1
    clear ho1 hb1 HOF
    go_wp2_with fail
    refine HP.out.mono ?_
    rintro e w2 ⟨rfl, hb2⟩
    have HO2 := hide (own_low HO1.out hb2)
    have HB2 := hide (HB1.out.trans (hb2.mono HB1.out.size))
    have HG := hide (own_lt2 HO2.out)
    clear hb2 HP
    have HS := hide (hp_takeAt g1 N c1 w.heap.size (ofL l) k w2 HO2.out hkn (by omega))
    go_wp2_with fail
    refine HS.out.mono ?_
    rintro e w5 ⟨rfl, ho5, hk5⟩
    have HO5 := hide ho5
    have HB5 := hide (kb_belowB HB2.out HG.out.1 hk5 HB2.out.size)
    clear ho5 hk5 HS
    go_wp2_with fail
    go_ret2
    have hlen : (takeL (ofL l) k).length = N - 1 := by rw [take_len, HLN.out]
    exact ⟨some ⟨g1, 0, none⟩, c1, by rw [HR.out]; simp only; rw [hlen]; rfl, by rw [HR.out]; simp only; rw [hlen]; exact HO5.out, HB5.out⟩
end Go.Proofs.Ytofnpmmbfcnlgaa
