/-
  Layer 9: which fields a payload has (shapeOf), how many bytes they have (fixed), whether a payload may have its length (rightSize).
-/
import Derived.Test.YtighhdgaaelcdaaFrSmall
namespace Go.Proofs.Ytighhdgaaelcdaa
set_option linter.unusedSimpArgs false
set_option linter.unusedVariables false
open Go.RowKit

theorem sh_three {w w1 : World} {As : Array Value} {tA : TypeId} {cs cs' : Array Value} {t t' : TypeId} (hb : Below (((w.alloc (.cells As tA)).alloc (.cells cs t)).alloc (.cells cs' t')).heap.size (((w.alloc (.cells As tA)).alloc (.cells cs t)).alloc (.cells cs' t')) w1) :
    BlkIs w1 (w.heap.size + 1) t cs ∧ BlkIs w1 (w.heap.size + 1 + 1) t' cs' ∧ Below w.heap.size w w1 ∧ BlkIs w1 w.heap.size tA As := by
  have h0 := (((BlkIs.new w tA As).alloc (.cells cs t)).alloc (.cells cs' t')).keep hb
  have h1 := ((BlkIs.new (w.alloc (.cells As tA)) t cs).alloc (.cells cs' t')).keep hb
  have h2 := (BlkIs.new ((w.alloc (.cells As tA)).alloc (.cells cs t)) t' cs').keep hb
  have h3 := ((((Below.refl w.heap.size w).alloc (Nat.le_refl _) (.cells As tA)).alloc (by simp) (.cells cs t)).alloc (by simp; omega) (.cells cs' t')).trans (hb.mono (by simp; omega))
  simp only [World.size_alloc] at h1 h2
  exact ⟨h1, h2, h3, h0⟩
theorem sh_cells {w : World} {g : Nat} {t : TypeId} {a b c d x y z : Value} (h : BlkIs w g t #[a, b, c, d, x, y, z]) :
    w.cell? ⟨g, 0, none⟩ = some a ∧ w.cell? ⟨g, 1, none⟩ = some b ∧ w.cell? ⟨g, 2, none⟩ = some c ∧ w.cell? ⟨g, 3, none⟩ = some d ∧ w.cell? ⟨g, 4, none⟩ = some x ∧ w.cell? ⟨g, 5, none⟩ = some y ∧ w.cell? ⟨g, 6, none⟩ = some z :=
  ⟨h.cell 0, h.cell 1, h.cell 2, h.cell 3, h.cell 4, h.cell 5, h.cell 6⟩
theorem below_setCell' {B : Nat} {a w : World} (h : Below B a w) {p : Addr} (hp : B ≤ p.block) (u : Value) : Below B a (w.setCell p u) := h.setCell hp u

theorem blk_mid {w : World} {As cs cs' : Array Value} {tA t t' : TypeId} : BlkIs (((w.alloc (.cells As tA)).alloc (.cells cs t)).alloc (.cells cs' t')) (w.heap.size + 1) t cs := (blk_two (w := w) (t := tA) (cs := As)).alloc _
theorem below_three {w : World} {o o' o'' : Obj} : Below w.heap.size w (((w.alloc o).alloc o').alloc o'') := below_two.alloc (by simp; omega) _
theorem shV_rest {t f : Int} (h : 9 < t) : shV t f = #[.bool false, .bool false, .bool false, .bool false, .bool false, .bool false, .bool true] := by
  have e : ∀ k : Int, k ≤ 9 → decide (t = k) = false := fun k hk => by simp; omega
  simp [shV, shP, shD, shL, shC, shI, shR, shX, e 0 (by omega), e 1 (by omega), e 2 (by omega), e 3 (by omega), e 4 (by omega), e 7 (by omega), e 8 (by omega)]

set_option maxHeartbeats 1600000 in
theorem fr_shapeOf (l t f s : Int) (h0 : 0 ≤ t) (w : World) :
    Calls Try.prog 25 #[.agg #[.int .i64 l, .int .u8 t, .int .u8 f, .int .i64 s]] w fun e w' => e = .returned (.agg (shV t f)) ∧ Below w.heap.size w w' := by
  have H8 := hide (fun w t => fh_Has l t f s 8 w)
  have H32 := hide (fun w t => fh_Has l t f s 32 w)
  have H1 := hide (fun w t => fh_Has l t f s 1 w)
  obtain ⟨b8, hb8⟩ : ∃ b, b = hasB f 8 := ⟨_, rfl⟩
  obtain ⟨b32, hb32⟩ : ∃ b, b = hasB f 32 := ⟨_, rfl⟩
  obtain ⟨b1, hb1⟩ : ∃ b, b = hasB f 1 := ⟨_, rfl⟩
  rw [← hb8] at H8
  rw [← hb32] at H32
  rw [← hb1] at H1
  have E8 := hide hb8
  have E32 := hide hb32
  have E1 := hide hb1
  clear hb8 hb32 hb1
  rcases t_cases h0 with rfl | rfl | rfl | rfl | rfl | rfl | rfl | rfl | rfl | rfl | h
  · go_enter Try.func25, Try.ntmps25
    go_wp2_with fail
    refine (H8.out _ _).mono ?_
    rintro e w1 ⟨rfl, hb1⟩
    obtain ⟨K1, K2, B1, K0⟩ := sh_three hb1
    obtain ⟨p0, p1, p2, p3⟩ := hd_cells K0
    have HK := hide K1
    have HB := hide B1
    have z0 := K2.frozen 0
    have z1 := K2.frozen 1
    have z5 := K2.frozen 5
    have z6 := K2.frozen 6
    obtain ⟨c0, c1, c2, c3, c4, c5, c6⟩ := sh_cells K2
    clear hb1 K1 K2 B1 K0
    go_wp2_with (refine wpList_store_blk rfl 65 (.tmp 2) (.tmp 37) rfl (w.heap.size + 1) _ #[.bool false, .bool false, .bool false, .bool false, .bool false, .bool false, .bool false] 65 rfl rfl (by repeat (first | exact HK.out | refine BlkIs.far ?_ (by simp) _)) sh_size rfl (by simp [Value.oneCell']) ?_)
    refine bodyPost_ret (results_sh1 _ _ rfl (w.heap.size + 1) (.bool b8) (.bool false) (.bool false) (.bool false) (.bool false) (.bool false) (.bool true) rfl ?_) rfl (And.intro ?_ ?_)
    · refine BlkIs.row (cs := #[.bool false, .bool false, .bool false, .bool false, .bool false, .bool false, .bool false]) ?_ _
      repeat (first | exact HK.out | refine BlkIs.far ?_ (by simp) _)
    · rw [E8.out]
      rfl
    · refine below_setRow ?_ (by simp) _
      repeat (first | exact HB.out | refine Below.setCell ?_ (by simp; omega) _)
  · go_enter Try.func25, Try.ntmps25
    go_wp2_with fail
    refine (H32.out _ _).mono ?_
    rintro e w1 ⟨rfl, hb1⟩
    obtain ⟨K1, K2, B1, K0⟩ := sh_three hb1
    obtain ⟨p0, p1, p2, p3⟩ := hd_cells K0
    have HK := hide K1
    have HB := hide B1
    clear hb1 K1 B1 K0
    have HK2 := hide K2
    have z1 := K2.frozen 1
    have c1 := K2.cell 1
    simp only [List.getElem?_toArray, List.getElem?_cons_zero, List.getElem?_cons_succ] at c1
    clear K2
    go_wp2_with fail
    refine (H8.out _ _).mono ?_
    rintro e w2 ⟨rfl, hb2⟩
    have K2 := (HK2.out.put 1 (.bool b32)).keep hb2
    have K1 := hide ((HK.out.far (p := ⟨w.heap.size + 1 + 1, 1, none⟩) (by simp) (.bool b32)).keep hb2)
    have B2 := hide ((HB.out.setCell (p := ⟨w.heap.size + 1 + 1, 1, none⟩) (by simp; omega) (.bool b32)).trans (hb2.mono (by have := HB.out.size; simp only [World.size_setCell]; omega)))
    clear HK HB hb2 HK2 z1 c1 p0 p1 p2 p3
    have HK := K1
    have HB := B2
    clear K1 B2
    simp only [List.setIfInBounds_toArray, List.set_cons_zero, List.set_cons_succ] at K2
    have z0 := K2.frozen 0
    have z6 := K2.frozen 6
    obtain ⟨c0, c1, c2, c3, c4, c5, c6⟩ := sh_cells K2
    clear K2
    go_wp2_with (refine wpList_store_blk rfl 65 (.tmp 2) (.tmp 37) rfl (w.heap.size + 1) _ #[.bool false, .bool false, .bool false, .bool false, .bool false, .bool false, .bool false] 65 rfl rfl (by repeat (first | exact HK.out | refine BlkIs.far ?_ (by simp) _)) sh_size rfl (by simp [Value.oneCell']) ?_)
    refine bodyPost_ret (results_sh1 _ _ rfl (w.heap.size + 1) (.bool b8) (.bool b32) (.bool false) (.bool false) (.bool false) (.bool false) (.bool true) rfl ?_) rfl (And.intro ?_ ?_)
    · refine BlkIs.row (cs := #[.bool false, .bool false, .bool false, .bool false, .bool false, .bool false, .bool false]) ?_ _
      repeat (first | exact HK.out | refine BlkIs.far ?_ (by simp) _)
    · rw [E8.out, E32.out]
      rfl
    · refine below_setRow ?_ (by simp) _
      repeat (first | exact HB.out | refine Below.setCell ?_ (by simp; omega) _)
  · go_enter Try.func25, Try.ntmps25
    go_wp2
    exact bodyPost_ret (results_sh1 _ _ rfl (w.heap.size + 1) (.bool false) (.bool true) (.bool false) (.bool false) (.bool false) (.bool false) (.bool false) rfl blk_mid) rfl (And.intro rfl below_three)
  · go_enter Try.func25, Try.ntmps25
    go_wp2
    exact bodyPost_ret (results_sh1 _ _ rfl (w.heap.size + 1) (.bool false) (.bool false) (.bool false) (.bool true) (.bool false) (.bool false) (.bool false) rfl blk_mid) rfl (And.intro rfl below_three)
  · go_enter Try.func25, Try.ntmps25
    go_wp2_with fail
    refine (H1.out _ _).mono ?_
    rintro e w1 ⟨rfl, hb1⟩
    obtain ⟨K1, K2, B1, K0⟩ := sh_three hb1
    obtain ⟨p0, p1, p2, p3⟩ := hd_cells K0
    have HK := hide K1
    have HB := hide B1
    have z0 := K2.frozen 0
    have z1 := K2.frozen 1
    have z5 := K2.frozen 5
    have z6 := K2.frozen 6
    obtain ⟨c0, c1, c2, c3, c4, c5, c6⟩ := sh_cells K2
    clear hb1 K1 K2 B1 K0
    go_wp2_with (refine wpList_store_blk rfl 65 (.tmp 2) (.tmp 37) rfl (w.heap.size + 1) _ #[.bool false, .bool false, .bool false, .bool false, .bool false, .bool false, .bool false] 65 rfl rfl (by repeat (first | exact HK.out | refine BlkIs.far ?_ (by simp) _)) sh_size rfl (by simp [Value.oneCell']) ?_)
    refine bodyPost_ret (results_sh1 _ _ rfl (w.heap.size + 1) (.bool false) (.bool false) (.bool false) (.bool false) (.bool false) (.bool (!b1)) (.bool false) rfl ?_) rfl (And.intro ?_ ?_)
    · refine BlkIs.row (cs := #[.bool false, .bool false, .bool false, .bool false, .bool false, .bool false, .bool false]) ?_ _
      repeat (first | exact HK.out | refine BlkIs.far ?_ (by simp) _)
    · rw [E1.out]
      rfl
    · refine below_setRow ?_ (by simp) _
      repeat (first | exact HB.out | refine Below.setCell ?_ (by simp; omega) _)
  · go_enter Try.func25, Try.ntmps25
    go_wp2
    exact bodyPost_ret (results_sh1 _ _ rfl (w.heap.size + 1) (.bool false) (.bool false) (.bool false) (.bool false) (.bool false) (.bool false) (.bool true) rfl blk_mid) rfl (And.intro rfl below_three)
  · go_enter Try.func25, Try.ntmps25
    go_wp2
    exact bodyPost_ret (results_sh1 _ _ rfl (w.heap.size + 1) (.bool false) (.bool false) (.bool false) (.bool false) (.bool false) (.bool false) (.bool true) rfl blk_mid) rfl (And.intro rfl below_three)
  · go_enter Try.func25, Try.ntmps25
    go_wp2
    exact bodyPost_ret (results_sh1 _ _ rfl (w.heap.size + 1) (.bool false) (.bool false) (.bool true) (.bool true) (.bool false) (.bool false) (.bool true) rfl blk_mid) rfl (And.intro rfl below_three)
  · go_enter Try.func25, Try.ntmps25
    go_wp2
    exact bodyPost_ret (results_sh1 _ _ rfl (w.heap.size + 1) (.bool false) (.bool false) (.bool false) (.bool false) (.bool true) (.bool false) (.bool false) rfl blk_mid) rfl (And.intro rfl below_three)
  · go_enter Try.func25, Try.ntmps25
    go_wp2
    exact bodyPost_ret (results_sh1 _ _ rfl (w.heap.size + 1) (.bool false) (.bool false) (.bool false) (.bool false) (.bool false) (.bool false) (.bool true) rfl blk_mid) rfl (And.intro rfl below_three)
  · go_enter Try.func25, Try.ntmps25
    go_wp2
    exact bodyPost_ret (results_sh1 _ _ rfl (w.heap.size + 1) (.bool false) (.bool false) (.bool false) (.bool false) (.bool false) (.bool false) (.bool true) rfl blk_mid) rfl (And.intro (by rw [shV_rest h]) below_three)

end Go.Proofs.Ytighhdgaaelcdaa
