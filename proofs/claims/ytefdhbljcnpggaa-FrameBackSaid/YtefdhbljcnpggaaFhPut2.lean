/-
  Layer 8: the document's Put.
-/
import Derived.Test.YtefdhbljcnpggaaFhPut
import Derived.Deep.RegionHeld3
import Derived.Deep.AppendLies
namespace Go.Proofs.Ytefdhbljcnpggaa
open Go.RowKit

theorem hd_cells {w : World} {g : Nat} {t : TypeId} {a b c d : Value} (h : BlkIs w g t #[a, b, c, d]) :
    w.cell? ⟨g, 0, none⟩ = some a ∧ w.cell? ⟨g, 1, none⟩ = some b ∧ w.cell? ⟨g, 2, none⟩ = some c ∧ w.cell? ⟨g, 3, none⟩ = some d :=
  ⟨h.cell 0, h.cell 1, h.cell 2, h.cell 3⟩

theorem row_z {w : World} {B : Nat} {v : Value} {l t f : Int} (h : w.ownsRow B 5 1 v ((wideL l 3).length + 2) (u8s (wideL l 3) ++ [.int .u8 t, .int .u8 f])) :
    w.ownsRow B 5 1 v (wideL l 3 ++ [t, f]).length (u8s (wideL l 3 ++ [t, f])) := by
  have e : u8s (wideL l 3 ++ [t, f]) = u8s (wideL l 3) ++ [.int .u8 t, .int .u8 f] := by simp [u8s]
  rw [e, show (wideL l 3 ++ [t, f]).length = (wideL l 3).length + 2 by simp]
  exact h
theorem wideL_all (k : Nat) : ∀ n, AllB (wideL n k) := by
  induction k with
  | zero => intro n x hx; simp [wideL] at hx
  | succ k ih =>
    intro n x hx
    rcases List.mem_append.1 hx with hx | hx
    · exact ih _ x hx
    · simp at hx; omega

theorem hdB_wide (l t f s : Int) : wideL l 3 ++ [t, f] ++ wideL s 4 = hdB l t f s := by
  simp [wideL, hdB]
  omega

set_option maxRecDepth 100000 in
set_option maxHeartbeats 1600000 in
theorem rf_Put_yes (l t f s : Int) (h1 : 0 ≤ l) (h2 : l ≤ 16777215) (h3 : 0 ≤ s) (h4 : s ≤ 2147483647) (w : World) :
    Calls Try.prog 41 #[.agg #[.int .i64 l, .int .u8 t, .int .u8 f, .int .i64 s]] w (GivesPut w.heap.size (hdB l t f s) 0 w) := by
  obtain ⟨i0, hi0, hz0, hz1, hz2⟩ := info_parts u8_info
  have HC := hide (fun w => rf_Check l t f s w)
  have HK := hide (chkH_yes ((okH_iff l s).2 ⟨h1, h2, h3, h4⟩))
  have W3 := hide (fun (w' : World) => rf_Wide l 3 3 rfl h1 (by omega) (by omega) w'.heap.size w' (Nat.le_refl _))
  have W4 := hide (fun (w' : World) => rf_Wide s 4 4 rfl h3 h4 (by omega) w'.heap.size w' (Nat.le_refl _))
  go_enter Try.func41, Try.ntmps41
  go_wp2_with fail
  refine (HC.out _).mono ?_
  rintro e w1 ⟨rfl, hb1⟩
  rw [HK.out]
  have K1 := hide ((BlkIs.new w 23 #[.int .i64 l, .int .u8 t, .int .u8 f, .int .i64 s]).keep hb1)
  have B1 := hide (((Below.refl _ _).alloc (Nat.le_refl _) _).trans (hb1.mono (by simp)))
  obtain ⟨g, hg⟩ : ∃ g, g = w.heap.size := ⟨_, rfl⟩
  rw [← hg] at K1 B1 ⊢
  have HG := hide hg
  have L1 : g ≤ w1.heap.size := Nat.le_of_lt K1.out.lt
  clear hb1 hg
  obtain ⟨q0, q1, q2, q3⟩ := hd_cells K1.out.drew
  go_wp2_with fail
  go_region_held3 (fun w' => w'.cell? ⟨g, 0, none⟩ = some (.int .i64 l) ∧ w'.cell? ⟨g, 1, none⟩ = some (.int .u8 t) ∧ w'.cell? ⟨g, 2, none⟩ = some (.int .u8 f) ∧ w'.cell? ⟨g, 3, none⟩ = some (.int .i64 s))
    (first | exact ⟨q0, q1, q2, q3⟩ | exact hd_cells K3.out | exact hd_cells (K3.out.alloc _) | exact hd_cells K4.out | exact hd_cells (K1.out.drew.alloc _) | exact hd_cells (K1.out.alloc _).drew)
    (first
      | (go_at_call 59; ((with_reducible refine (W3.out _).mono ?_); rintro e w3 ⟨v3, rfl, hown3, hb3⟩; have K3 := hide (K1.out.drew.keep hb3); have B3 := hide (B1.out.drew.trans (hb3.mono L1)); have O3 := hide (own_base hown3 (B' := g) L1); have N3 := hide (own_ne hown3 K1.out.drew.lt); have L3 : g ≤ w3.heap.size := Nat.le_of_lt K3.out.lt; clear hown3 hb3))
      | (go_at_call 59; ((with_reducible refine (W3.out _).mono ?_); rintro e w3 ⟨v3, rfl, hown3, hb3⟩; have K3 := hide ((K1.out.alloc _).drew.keep hb3); have B3 := hide (((B1.out.alloc L1 _).drew).trans (hb3.mono (Nat.le_trans L1 (by simp)))); have O3 := hide (own_base hown3 (B' := g) (Nat.le_trans L1 (by simp))); have N3 := hide (own_ne hown3 (K1.out.alloc _).drew.lt); have R3 := hide ((BlkIs.new w1 5 #[.int .u8 t, .int .u8 f]).drew.keep hb3); have L3 : g ≤ w3.heap.size := Nat.le_of_lt K3.out.lt; clear hown3 hb3))
      | (refine step_append_lies _ (by rfl) (.tmp 13) (.tmp 18) 44 (by rfl) g 5 i0 (.int .u8 0) 1 1 Try.underlying44 hi0 hz0 hz1 hz2 rfl (by decide) v3 (wideL l 3).length (u8s (wideL l 3)) (by rfl) (O3.out.alloc _) ⟨w3.heap.size, 0, none⟩ 2 2 [.int .u8 t, .int .u8 f] (by rfl) (by rfl) (World.news_of_block (cs := #[.int .u8 t, .int .u8 f]) (t := 5) (fr := (0, 0)) (heap_alloc_new w3 _)) (by simp [Value.oneCell']) (by omega) (by rw [wideL_len]; unfold maxLen; omega) (by rw [wideL_len]; omega) (Nat.le_trans L3 (by simp)) _ rfl ?_; intro gg cap w4 hown4 hgrow4 hat4 hlt4; have K4 := hide ((K3.out.alloc _).grown hgrow4 N3.out); have O4 := hide hown4; have B4 := hide (own_below (O3.out.alloc _) (B3.out.alloc L3 _) (Nat.le_of_eq HG.out) hgrow4); clear hown4 hgrow4 hat4 hlt4)
      | (refine step_append_lies _ (by rfl) (.tmp 13) (.tmp 18) 44 (by rfl) g 5 i0 (.int .u8 0) 1 1 Try.underlying44 hi0 hz0 hz1 hz2 rfl (by decide) v3 (wideL l 3).length (u8s (wideL l 3)) (by rfl) O3.out ⟨w1.heap.size, 0, none⟩ 2 2 [.int .u8 t, .int .u8 f] (by rfl) (by rfl) (World.news_of_block (cs := #[.int .u8 t, .int .u8 f]) (t := 5) (fr := (0, 0)) R3.out) (by simp [Value.oneCell']) (by omega) (by rw [wideL_len]; unfold maxLen; omega) (by rw [wideL_len]; omega) L3 _ rfl ?_; intro gg cap w4 hown4 hgrow4 hat4 hlt4; have K4 := hide (K3.out.grown hgrow4 N3.out); have O4 := hide hown4; have B4 := hide (own_below O3.out B3.out (Nat.le_of_eq HG.out) hgrow4); clear hown4 hgrow4 hat4 hlt4))
  all_goals
    have O4' := hide (row_z O4.out)
    have q3' : w4.cell? ⟨g, 3, none⟩ = some (.int .i64 s) := (hd_cells K4.out).2.2.2
    clear O4 q0 q1 q2 q3 N3 O3 K3 K1 B1 B3
    go_wp2_with fail
    refine (W4.out _).mono ?_
    rintro e w5 ⟨v5, rfl, hown5, hb5⟩
    have O5 := hide (own_keep O4'.out hb5)
    have B5 := hide (B4.out.trans (hb5.mono (Nat.le_of_lt K4.out.lt)))
    have L5 : g ≤ w5.heap.size := Nat.le_trans (Nat.le_of_lt K4.out.lt) hb5.size
    obtain ⟨A5, c5, rfl⟩ := own_form hown5
    have R5 := hide (rb_of_own hown5 (wideL_all 4 s))
    have hnil := hide (own_nil hown5)
    clear hown5 hb5 q3' O4' B4 K4
    have HLN := hide (wideL_len 4 s)
    go_wp2_with (at_builtin; refine wpList_append_rb _ rfl (.tmp 20) (.tmp 23) 44 rfl g 5 i0 Try.underlying44 hi0 hz0 hz1 hz2 _ (wideL l 3 ++ [t, f]) rfl O5.out A5 (wideL s 4).length c5 (wideL s 4) rfl R5.out.1 hnil.out (by simp [wideL_len]) L5 ?_; intro v6 w6 hown6 hg6; have HB6 := hide (own_below O5.out B5.out (Nat.le_of_eq HG.out) hg6); have O6 := hide hown6; clear hown6 hg6)
    go_ret2
    refine ⟨_, rfl, ?_, ?_⟩
    · have := O6.out
      rw [hdB_wide] at this
      rw [← HG.out]; exact this
    · have := HB6.out
      rwa [HG.out] at this

theorem rf_Put_no (l t f s : Int) (h : okH l s = false) (w : World) :
    Calls Try.prog 41 #[.agg #[.int .i64 l, .int .u8 t, .int .u8 f, .int .i64 s]] w (GivesPut w.heap.size [] 8 w) := by
  have HC := hide (fun w => rf_Check l t f s w)
  have HK := hide (chkH_no h)
  clear h
  go_enter Try.func41, Try.ntmps41
  go_wp2_with fail
  refine (HC.out _).mono ?_
  rintro e w1 ⟨rfl, hb1⟩
  rw [HK.out]
  have HB := hide (((Below.refl _ _).alloc (Nat.le_refl _) _).trans (hb1.mono (by simp)))
  clear hb1
  go_wp2
  go_ret2
  exact ⟨_, rfl, World.ownsRow_nil _ _ _ _, HB.out⟩

theorem rf_Put (l t f s : Int) (w : World) :
    Calls Try.prog 41 #[.agg #[.int .i64 l, .int .u8 t, .int .u8 f, .int .i64 s]] w (GivesPut w.heap.size (putH l t f s) (chkH l s) w) := by
  cases h : okH l s with
  | true =>
    rw [putH_yes t f h, chkH_yes h]
    obtain ⟨h1, h2, h3, h4⟩ := (okH_iff l s).1 h
    exact rf_Put_yes l t f s h1 h2 h3 h4 w
  | false =>
    rw [putH_no t f h, chkH_no h]
    exact rf_Put_no l t f s h w
end Go.Proofs.Ytefdhbljcnpggaa
