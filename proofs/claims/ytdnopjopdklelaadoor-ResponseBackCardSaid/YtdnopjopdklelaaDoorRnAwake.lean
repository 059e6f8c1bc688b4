/-
  Layer 18: awake.
-/
import Derived.Test.YtdnopjopdklelaaDoorRnAwMath
import Derived.Test.YtdnopjopdklelaaDoorRnRead
import Derived.Test.YtdnopjopdklelaaDoorFdKeep
import Derived.Laws.StructEq
import Derived.Lib.SlBytesConst
import Derived.Lib.SmallJoins
namespace Go.Proofs.YtdnopjopdklelaaDoor
set_option linter.unusedSimpArgs false
set_option linter.unusedVariables false
open Go.RowKit

/-- What stands all through awake: the list; the answer that was read. -/
structure AwS (w0 : World) (G c : Nat) (w : World) : Prop where
  l : FL w (some ⟨G, 0, none⟩) 3 c awL
  b : Below w0.heap.size w0 w
theorem AwS.keep {w0 w w' : World} {G c : Nat} (h : AwS w0 G c w) (hb : Below w.heap.size w w') : AwS w0 G c w' := ⟨h.l.keep hb, h.b.trans (hb.mono h.b.size)⟩
structure AwT (w0 : World) (G c Q : Nat) (w : World) : Prop where
  s : AwS w0 G c w
  q : BlkIs w Q 28 #[.int .i64 503, .int .i64 0, .int .i64 2]
theorem AwT.keep {w0 w w' : World} {G c Q : Nat} (h : AwT w0 G c Q w) (hb : Below w.heap.size w w') : AwT w0 G c Q w' := ⟨h.s.keep hb, h.q.keep hb⟩
/-- The cells of the list. -/
theorem AwS.cells {w0 w : World} {G c : Nat} (h : AwS w0 G c w) : w.cell? ⟨G, 0, none⟩ = some (.string nStat) ∧ w.cell? ⟨G, 1, none⟩ = some (.string aw503) ∧ w.cell? ⟨G, 2, none⟩ = some (.bool false) ∧
    w.cell? ⟨G, 6, none⟩ = some (.string nRetry) ∧ w.cell? ⟨G, 7, none⟩ = some (.string ⟨#[50]⟩) ∧ w.cell? ⟨G, 8, none⟩ = some (.bool false) := by
  obtain ⟨b, off, e, -, c0, c1, c2⟩ := h.l.at_ 0 _ (show awL[0]? = some _ from rfl)
  obtain ⟨b', off', e', -, d0, d1, d2⟩ := h.l.at_ 2 _ (show awL[2]? = some _ from rfl)
  injection e with e
  injection e with e1 e2
  injection e' with e'
  injection e' with e3 e4
  subst e1 e2 e3 e4
  exact ⟨c0, c1, c2, d0, d1, d2⟩

theorem aw_two (w : World) (a b : Int) (fr : Nat × Nat) (ha : 0 ≤ a ∧ a ≤ 255) (hb : 0 ≤ b ∧ b ≤ 255) : RB (w.alloc (.cells #[.int .u8 a, .int .u8 b] 5 fr)) (some ⟨w.heap.size, 0, none⟩) 2 [a, b] := by
  refine ⟨rfl, fun _ => ⟨w.heap.size, 0, rfl, by simp, fun i hi => ?_⟩, fun i => ?_⟩
  · rw [Nat.zero_add, World.cell?_alloc_mark]
    match i, hi with
    | 0, _ => rfl
    | 1, _ => rfl
  · match i with
    | 0 => exact ha
    | 1 => exact hb
    | i + 2 => simp

set_option maxRecDepth 100000 in
set_option maxHeartbeats 3200000 in
theorem aw_awake (w : World) (ht : TabOk w) :
    Calls Tryd.prog 13 #[] w fun e w' => e = .returned (.bool true) ∧ Below w.heap.size w w' := by
  have HT := hide ht
  clear ht
  go_enter Tryd.func13, Tryd.ntmps13
  go_wp2_with fail
  refine (rn_Fields 503 0 2 w HT.out).mono ?_
  rintro e w1 ⟨v, rfl, hown, hb1⟩
  rw [aw_flds] at hown
  rw [chkP_yes aw_ok]
  obtain ⟨G, c, rfl, -⟩ := own_some_f hown (show 0 < awL.length by decide)
  have HS1 := hide (show AwS w G c w1 from ⟨FL.of_own hown, hb1⟩)
  clear hown hb1
  rw [show awL.length = 3 from rfl]
  go_wp2_with fail
  refine (rn_Read _ _ _ awL w1 HS1.out.l aw_mod).mono ?_
  rintro e w2 ⟨rfl, hb2⟩
  have HS2 := hide (HS1.out.keep hb2)
  rw [show ansP (readP awL) = .tuple #[.agg #[.int .i64 503, .int .i64 0, .int .i64 2], .bool true] by rw [aw_read]; rfl]
  clear hb2 HS1
  go_upto_region 3 with (fail)
  have HX := hide (show AwT w G c w2.heap.size (w2.alloc (.cells #[.int .i64 503, .int .i64 0, .int .i64 2] 28)) from ⟨HS2.out.keep (bel1 _ _), BlkIs.new w2 _ _⟩)
  obtain ⟨Q, hQ⟩ : ∃ Q, Q = w2.heap.size := ⟨_, rfl⟩
  obtain ⟨W, hW⟩ : ∃ W, W = w2.alloc (.cells #[.int .i64 503, .int .i64 0, .int .i64 2] 28) := ⟨_, rfl⟩
  rw [← hW, ← hQ] at HX
  rw [← hW, ← hQ]
  clear hW hQ HS2
  go_wp2_with fail
  refine (rn_Fields 99 0 0 W (HT.out.keep HX.out.s.b)).mono ?_
  rintro e w3 ⟨v, rfl, -, hb3⟩
  rw [chkP_no aw_not]
  have HX3 := hide (HX.out.keep hb3)
  clear hb3 HX
  go_wp2_with fail
  refine (rn_Read none 0 0 [] w3 (FL.none_ _) ⟨by decide, fun f hf => by cases hf⟩).mono ?_
  rintro e w4 ⟨rfl, hb4⟩
  have HX4 := hide (HX3.out.keep (hb4.trans ((bel1 w4 (.cells #[.int .i64 0, .int .i64 0, .int .i64 0] 28)).mono hb4.size)))
  rw [show ansP (readP []) = .tuple #[.agg #[.int .i64 0, .int .i64 0, .int .i64 0], .bool false] from rfl]
  clear hb4 HX3
  obtain ⟨c0, c1, c2, d0, d1, d2⟩ := HX4.out.s.cells
  simp only [nStat, nRetry, aw503] at c0 c1 c2 d0 d1 d2
  have q0 := HX4.out.q.cell 0
  have q1 := HX4.out.q.cell 1
  have q2 := HX4.out.q.cell 2
  simp only [List.getElem?_toArray, List.getElem?_cons_zero, List.getElem?_cons_succ] at q0 q1 q2
  have hbt := fd_built
  go_wp2_with fail
  refine (rn_Body 25 3 _).mono ?_
  rintro e w5 ⟨v5, rfl, hown, hb5⟩
  obtain ⟨A5, n5, rfl, hrb⟩ := gives_rb (body_bd 25 3) hown
  have HX5 := hide (HX4.out.keep hb5)
  have hst := rb_string n5 hrb
  rw [aw_zab] at hst
  generalize (bodyL 25 3).length = k5 at hst ⊢
  clear hown hb5 hrb HX4 c0 c1 c2 d0 d1 d2 q0 q1 q2
  have kc := Lib.run_convert_bytes_const (P := Tryd.prog) w5 42 5 #[.int .u8 98, .int .u8 99] 2 2 Tryd.underlying42 Tryd.underlying5
  rw [show (#[Value.int .u8 98, .int .u8 99]).size = 2 from rfl] at kc
  go_wp2_with fail
  clear hst kc
  have HX6 := hide (HX5.out.keep (bel1 w5 (.cells #[.int .u8 98, .int .u8 99] 5 (2, 3))))
  refine (rn_Whole _ 2 2 [98, 99] 27 _ (aw_two w5 98 99 (2, 3) (by omega) (by omega))).mono ?_
  rintro e w6 ⟨rfl, hb6⟩
  have HX7 := hide (HX6.out.keep hb6)
  rw [aw_bc]
  clear hb6 HX6 HX5
  have kc := Lib.run_convert_bytes_const (P := Tryd.prog) w6 42 5 #[.int .u8 98, .int .u8 100] 2 2 Tryd.underlying42 Tryd.underlying5
  rw [show (#[Value.int .u8 98, .int .u8 100]).size = 2 from rfl] at kc
  go_wp2_with fail
  clear kc
  have HX8 := hide (HX7.out.keep (bel1 w6 (.cells #[.int .u8 98, .int .u8 100] 5 (2, 3))))
  refine (rn_Whole _ 2 2 [98, 100] 27 _ (aw_two w6 98 100 (2, 3) (by omega) (by omega))).mono ?_
  rintro e w7 ⟨rfl, hb7⟩
  have HX9 := hide (HX8.out.keep hb7)
  rw [aw_bd]
  clear hb7 HX7 HX8
  go_wp2_with fail
  refine (rn_Wait 11 10 (by omega) _).mono ?_
  rintro e w8 ⟨rfl, rfl⟩
  rw [aw_wait.1]
  go_wp2_with fail
  refine (rn_Wait 0 10 (by omega) _).mono ?_
  rintro e w8 ⟨rfl, rfl⟩
  rw [aw_wait.2]
  have q0 := HX9.out.q.cell 0
  have q1 := HX9.out.q.cell 1
  have q2 := HX9.out.q.cell 2
  simp only [List.getElem?_toArray, List.getElem?_cons_zero, List.getElem?_cons_succ] at q0 q1 q2
  go_wp2_with fail
  refine (rn_Check 503 0 2 _).mono ?_
  rintro e w9 ⟨rfl, hb9⟩
  have HX10 := hide (HX9.out.keep hb9)
  rw [chkP_yes aw_ok]
  clear hb9 HX9 q0 q1 q2
  go_wp2_with fail
  go_ret
  exact ⟨rfl, HX10.out.s.b⟩
end Go.Proofs.YtdnopjopdklelaaDoor
