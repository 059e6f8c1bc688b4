/-
  Layer 24: the document's With, Without.
-/
import Derived.Test.YtofnpmmbfcnlgaaHpSort
namespace Go.Proofs.Ytofnpmmbfcnlgaa
set_option linter.unusedSimpArgs false
set_option linter.unusedVariables false
open Go.RowKit

def withL (l : List It) (x : It) : List It := sortR (l ++ [x])
def woL (l : List It) (i : Nat) : List It := l.take i ++ l.drop (i + 1)
set_option maxRecDepth 100000 in
set_option maxHeartbeats 1600000 in
theorem rh_With (A : Option Addr) (n c : Nat) (l : List It) (x : It) (w : World) (hl : IL w A n c l) (hn : (n : Int) ≤ 900) :
    Calls Try.prog 21 #[.slice A n c, .agg #[.int .i64 x.k, .int .i64 x.d]] w (GivesIt 24 (withL l x) w) := by
  have HL := hide hl
  have hln := hl.len
  subst hln
  clear hl
  obtain ⟨N, hN⟩ : ∃ N, l.length = N := ⟨_, rfl⟩
  rw [hN] at hn HL ⊢
  have HNN := hide hN
  clear hN
  go_enter Try.func21, Try.ntmps21
  go_upto_region 2 with (fail)
  have K0 := hide (BlkIs.new w 24 #[.int .i64 x.k, .int .i64 x.d])
  have HW0 := hide (bel1 w (.cells #[.int .i64 x.k, .int .i64 x.d] 24))
  obtain ⟨g0, hg0⟩ : ∃ g0, w.heap.size = g0 := ⟨_, rfl⟩
  rw [hg0] at K0 ⊢
  clear hg0
  have HL1 := hide (HL.out.keep HW0.out)
  generalize (w.alloc (.cells #[.int .i64 x.k, .int .i64 x.d] 24)) = wk at K0 HW0 HL1 ⊢
  have hbl2 : g0 < wk.heap.size := K0.out.lt
  obtain ⟨e0, e1⟩ := it_two K0.out
  have HNO := hide hn
  have HB0 := hide (show Below wk.heap.size wk wk.drew from (Below.refl _ _).drew)
  have HBX := hide (show Below wk.heap.size wk (wk.alloc (.cells #[.int .i64 x.k, .int .i64 x.d] 24)).drew from (bel1 wk _).drew)
  have HSO := hide (fun A7 c7 w7 (h : w7.ownsRow wk.heap.size 24 2 (.slice A7 (N + 1) c7) (N + 1) (ics (l ++ [x]))) => rh_Sorted A7 (N + 1) c7 (l ++ [x]) w7 (own_ils h) (by have := HNO.out; omega))
  clear HL hn
  go_region_held3 (fun w' => w'.cell? ⟨g0, 0, none⟩ = some (.int .i64 x.k) ∧ w'.cell? ⟨g0, 0 + 1, none⟩ = some (.int .i64 x.d))
    (first | exact held2 HB0.out hbl2 e0 e1 | exact held2 HBX.out hbl2 e0 e1 | exact held2 HB5.out hbl2 e0 e1 | exact held2 HB6.out hbl2 e0 e1 | exact held2 HB7.out hbl2 e0 e1 | exact held2 HB8.out hbl2 e0 e1)
    (first
      | (refine step_append_to isR _ (by rfl) (.tmp 6) (.tmp 7) (by rfl) wk.heap.size (.slice none 0 0) 0 [] (by rfl) (World.ownsRow_nil _ _ _ _) A N c l (by rfl) (HL1.out.keep HB0.out) (by have := HNO.out; omega) HB0.out.size N (by omega) _ rfl ?_; intro A5 c5 w5 ho5 hg5; have HB5 := hide (own_bel (World.ownsRow_nil wk.drew wk.heap.size 24 2) HB0.out (Nat.le_refl _) (Nat.le_refl _) hg5); have HO6 := hide (own_alloc2 ho5 (.cells #[.int .i64 x.k, .int .i64 x.d] 24)); have HB6 := hide (HB5.out.alloc HB5.out.size (.cells #[.int .i64 x.k, .int .i64 x.d] 24)); have KX := hide (BlkIs.new w5 24 #[.int .i64 x.k, .int .i64 x.d]); clear ho5 hg5)
      | (refine step_append_to isR _ (by rfl) (.tmp 6) (.tmp 7) (by rfl) wk.heap.size (.slice none 0 0) 0 [] (by rfl) (World.ownsRow_nil _ _ _ _) A N c l (by rfl) (HL1.out.keep HBX.out) (by have := HNO.out; omega) HBX.out.size N (by omega) _ rfl ?_; intro A5 c5 w5 ho5 hg5; have HB6 := hide (own_bel (World.ownsRow_nil (wk.alloc (.cells #[.int .i64 x.k, .int .i64 x.d] 24)).drew wk.heap.size 24 2) HBX.out (Nat.le_refl _) (Nat.le_refl _) hg5); have HO6 := hide ho5; have KX := hide ((BlkIs.new wk 24 #[.int .i64 x.k, .int .i64 x.d]).drew.grown hg5 (by simp [Value.ownBlock])); clear ho5 hg5)
      | (refine step_append_to isR _ (by rfl) (.tmp 8) (.tmp 10) (by rfl) wk.heap.size _ N l (by rfl) HO6.out (some ⟨w5.heap.size, 0, none⟩) 1 1 [x] (by rfl) (il_new1 KX.out) (by have := HNO.out; omega) HB6.out.size (N + 1) (by omega) _ rfl ?_; intro A7 c7 w7 ho7 hg7; have HB7 := hide (own_bel HO6.out HB6.out (Nat.le_refl _) (Nat.le_refl _) hg7); have HO7 := hide ho7; clear ho7 hg7)
      | (refine step_append_to isR _ (by rfl) (.tmp 8) (.tmp 10) (by rfl) wk.heap.size _ N l (by rfl) HO6.out (some ⟨wk.heap.size, 0, none⟩) 1 1 [x] (by rfl) (il_new1 KX.out) (by have := HNO.out; omega) HB6.out.size (N + 1) (by omega) _ rfl ?_; intro A7 c7 w7 ho7 hg7; have HB7 := hide (own_bel HO6.out HB6.out (Nat.le_refl _) (Nat.le_refl _) hg7); have HO7 := hide ho7; clear ho7 hg7)
      | (go_at_call 12; ((with_reducible refine (HSO.out _ _ _ HO7.out).mono ?_); rintro e w8 ⟨A8, c8, rfl, ho8, hb8⟩; have HB8 := hide (HB7.out.trans (hb8.mono HB7.out.size)); have HO8 := hide (own_base ho8 (Nat.le_trans HW0.out.size HB7.out.size)); clear ho8 hb8)))
  all_goals
    clear e0 e1
    go_wp2_with fail
    go_ret
    exact ⟨A8, c8, rfl, HO8.out, HW0.out.trans (HB8.out.mono HW0.out.size)⟩

set_option maxRecDepth 100000 in
set_option maxHeartbeats 1600000 in
theorem rh_Without (A : Option Addr) (n c : Nat) (l : List It) (i : Nat) (w : World) (hl : IL w A n c l) (hi : i < n) (hn : (n : Int) ≤ 900) :
    Calls Try.prog 23 #[.slice A n c, .int .i64 (i : Int)] w (GivesIt 24 (woL l i) w) := by
  have hic : i ≤ c := by have := hl.le; omega
  have hsl := fun w => run_head isR A n c i hic w
  obtain ⟨AT, cT, htl, hIT⟩ := il_tail isR hl (i + 1) (by omega)
  have hie : (i : Int) + 1 = ((i + 1 : Nat) : Int) := by omega
  have hiw : IntKind.i64.wrap ((i : Int) + 1) = (i : Int) + 1 := IntWalk.i64_in _ (by omega)
  rw [← hie] at htl
  have HIT := hide hIT
  have HIH := hide (hl.take (Nat.le_of_lt hi))
  have HLN := hide (show (woL l i).length = n - 1 by unfold woL; simp [hl.len]; omega)
  have HNO := hide hn
  have HII := hide hi
  have HB0 := hide (show Below w.heap.size w w.drew from (Below.refl _ _).drew)
  clear hl hIT hie hic
  go_enter Try.func23, Try.ntmps23
  go_upto_region 2 with (fail)
  go_region_held3 (fun w' => True) (exact trivial)
    (first
      | (refine step_append_to isR _ (by rfl) (.tmp 6) (.tmp 9) (by rfl) w.heap.size (.slice none 0 0) 0 [] (by rfl) (World.ownsRow_nil _ _ _ _) A i c (l.take i) (by rfl) (HIH.out.keep HB0.out) (by have := HNO.out; have := HII.out; omega) HB0.out.size i (by omega) _ rfl ?_; intro A5 c5 w5 ho5 hg5; have HB5 := hide (own_bel (World.ownsRow_nil w.drew w.heap.size 24 2) HB0.out (Nat.le_refl _) (Nat.le_refl _) hg5); have HO5 := hide ho5; clear ho5 hg5)
      | (refine step_append_to isR _ (by rfl) (.tmp 10) (.tmp 14) (by rfl) w.heap.size _ i (l.take i) (by rfl) HO5.out AT (n - (i + 1)) cT (l.drop (i + 1)) (by rfl) (HIT.out.keep HB5.out) (by have := HNO.out; have := HII.out; omega) HB5.out.size (n - 1) (by have := HII.out; omega) _ rfl ?_; intro A8 c8 w8 ho8 hg8; have HB8 := hide (own_bel HO5.out HB5.out (Nat.le_refl _) (Nat.le_refl _) hg8); have HO8 := hide ho8; clear ho8 hg8))
  clear hsl htl hiw
  go_wp2_with fail
  go_ret
  exact ⟨A8, c8, by rw [HLN.out]; rfl, by rw [HLN.out]; exact HO8.out, HB8.out⟩
end Go.Proofs.Ytofnpmmbfcnlgaa
