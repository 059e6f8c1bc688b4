/-
  Layer 17: awake (written by gen17aw.py).
-/
import Derived.Test.YtlbhnbloanamfaaDoorRqAwMath
import Derived.Test.YtlbhnbloanamfaaDoorRqRead
import Derived.Test.YtlbhnbloanamfaaDoorRqFields
import Derived.Laws.StructEq
namespace Go.Proofs.YtlbhnbloanamfaaDoor
set_option linter.unusedSimpArgs false
set_option linter.unusedVariables false
open Go.RowKit

/-- What stands all through awake: the list, the request that was read, the table. -/
structure AwS (w0 : World) (G : Nat) (w : World) : Prop where
  l : FL w (some ⟨G, 0, none⟩) 5 5 awL
  b : Below w0.heap.size w0 w
theorem AwS.keep {w0 w w' : World} {G : Nat} (h : AwS w0 G w) (hb : Below w.heap.size w w') : AwS w0 G w' := ⟨h.l.keep hb, h.b.trans (hb.mono h.b.size)⟩
theorem aw_new (w : World) : AwS w w.heap.size (w.alloc (.cells (fcs awL).toArray 42)) := ⟨fl_blk rfl (by omega) (BlkIs.new w _ _), bel1 _ _⟩
theorem aw_tail {w : World} {G : Nat} (h : FL w (some ⟨G, 0, none⟩) 5 5 awL) (k : Nat) (hk : k < 5) : (∀ w', (Instr.slice 22 (.slice (some ⟨G, 0, none⟩) 5 5) (some (.int .i64 (k : Int))) none none).run Tryd.prog w' = .ok (.slice (some ⟨G, k * 3, none⟩) (5 - k) (5 - k)) w') ∧ FL w (some ⟨G, k * 3, none⟩) (5 - k) (5 - k) (awL.drop k) := by
  have hr : ∀ w', (Instr.slice 22 (.slice (some ⟨G, 0, none⟩) 5 5) (some (.int .i64 (k : Int))) none none).run Tryd.prog w' = .ok (sliced (some ⟨G, 0, none⟩) k 5 5 3) w' := by
    intro w'
    rw [run_slice_l w' 22 _ 5 5 fd_under .i64 (k : Int) (by omega) (by omega), run_size_is fd_size3]
    rfl
  have hcm : ¬ 5 = k := by omega
  refine ⟨fun w' => by rw [hr w']; simp only [sliced, hcm, if_false, Addr.add, Nat.zero_add]; by_cases e : k * 3 = 0 <;> simp [e], ⟨by rw [List.length_drop]; rfl, Nat.le_refl _, by unfold maxLen; omega, (fun e => by cases e), fun j p hp => ?_⟩⟩
  rw [List.getElem?_drop] at hp
  obtain ⟨b', off', e, hlt, q0, q1, q2⟩ := h.at_ (k + j) p hp
  injection e with e
  injection e with e1 e2
  subst e1 e2
  refine ⟨G, k * 3, rfl, hlt, ?_, ?_, ?_⟩
  · rw [← q0]; congr 2; omega
  · rw [← q1]; congr 2; omega
  · rw [← q2]; congr 2; omega
/-- The request that was read. -/
def awC : Array Value := #[.string ⟨#[71, 69, 84]⟩, .string ⟨#[104, 116, 116, 112, 115]⟩, .string ⟨#[47]⟩, .string ⟨#[97]⟩, .int .i64 (-1), .int .i64 1]
theorem ansV_none {l : List Fd} {e : Bool} (h : readR l e = none) : ansV (readR l e) = .tuple #[.agg rq0, .bool false] := by rw [h]; rfl
theorem ansV_aw : ansV (readR awL true) = .tuple #[.agg awC, .bool true] := by rw [aw_read]; rfl

set_option maxRecDepth 100000 in
set_option maxHeartbeats 3200000 in
theorem aw_awake (w : World) (ht : TabOk w) :
    Calls Tryd.prog 9 #[] w fun e w' => e = .returned (.bool true) ∧ Below w.heap.size w w' := by
  have HT := hide ht
  have HS0 := hide (aw_new w)
  have HM := hide aw_mod
  have hbt := fd_built
  simp only [awL, fcs, nM, nS, nP, nHost, nPrio, bHttps, bSlash] at HS0
  clear ht
  go_enter Tryd.func9, Tryd.ntmps9
  go_wp2_with fail
  obtain ⟨G, hG⟩ : ∃ G, G = w.heap.size := ⟨_, rfl⟩
  have HS := hide (show AwS w G (w.alloc (.cells (fcs awL).toArray 42)) by rw [hG]; exact aw_new w)
  simp only [awL, fcs, nM, nS, nP, nHost, nPrio, bHttps, bSlash] at HS
  rw [← hG]
  clear hG HS0
  obtain ⟨W0, hW0⟩ : ∃ W, W = w.alloc (.cells #[.string ⟨#[58, 109, 101, 116, 104, 111, 100]⟩, .string ⟨#[71, 69, 84]⟩, .bool false, .string ⟨#[58, 115, 99, 104, 101, 109, 101]⟩, .string ⟨#[104, 116, 116, 112, 115]⟩, .bool false, .string ⟨#[58, 112, 97, 116, 104]⟩, .string ⟨#[47]⟩, .bool false, .string ⟨#[104, 111, 115, 116]⟩, .string ⟨#[97]⟩, .bool false, .string ⟨#[112, 114, 105, 111, 114, 105, 116, 121]⟩, .string ⟨#[117, 61, 49, 44, 32, 105]⟩, .bool false] 42) := ⟨_, rfl⟩
  have H0 := hide (show AwS w G W0 by rw [hW0]; exact HS.out)
  rw [← hW0]
  clear hW0 HS
  have HR0 := hide (rq_Read (some ⟨G, 0, none⟩) 5 5 awL true W0 H0.out.l HM.out.2.2)
  rw [ansV_aw] at HR0
  refine HR0.out.mono ?_
  rintro e w1 ⟨rfl, hb1⟩
  have H1 := hide (H0.out.keep hb1)
  clear hb1 HR0 H0
  have H1a := hide (H1.out.keep (bel1 w1 (.cells awC 26)))
  have KQ1 := hide (BlkIs.new w1 26 awC)
  simp only [awC] at H1a KQ1 ⊢
  obtain ⟨Q, hQ⟩ : ∃ Q, Q = w1.heap.size := ⟨_, rfl⟩
  obtain ⟨b0, off0, e0, _, c0, c1, c2⟩ := H1a.out.l.at_ 0 _ (show awL[0]? = some _ from rfl)
  obtain ⟨rfl, rfl⟩ : G = b0 ∧ 0 = off0 := by injection e0 with e0; injection e0 with e1 e2; exact ⟨e1, e2⟩
  simp only [nM] at c0 c1 c2
  clear e0
  go_upto_region 3 with (fail)
  obtain ⟨W1, hW1⟩ : ∃ W, W = w1.alloc (.cells #[.string ⟨#[71, 69, 84]⟩, .string ⟨#[104, 116, 116, 112, 115]⟩, .string ⟨#[47]⟩, .string ⟨#[97]⟩, .int .i64 (-1), .int .i64 1] 26) := ⟨_, rfl⟩
  rw [← hW1] at H1a KQ1 c0 c1 c2 ⊢
  rw [← hQ] at KQ1 ⊢
  clear hW1 hQ H1
  have HA2 := hide (H1a.out.keep (bel1 W1 (.cells #[.string ⟨#[58, 109, 101, 116, 104, 111, 100]⟩, .string ⟨#[71, 69, 84]⟩, .bool false] 42)))
  have HF2 := hide (fl_new1 W1 ⟨#[58, 109, 101, 116, 104, 111, 100]⟩ ⟨#[71, 69, 84]⟩ false)
  have KQ2 := hide (KQ1.out.keep (bel1 W1 (.cells #[.string ⟨#[58, 109, 101, 116, 104, 111, 100]⟩, .string ⟨#[71, 69, 84]⟩, .bool false] 42)))
  go_wp2_with (at_builtin; refine wpList_append_flgrows _ rfl (.tmp 26) (.tmp 30) rfl ⟨G, 0, none⟩ 5 5 awL rfl HA2.out.l ⟨W1.heap.size, 0, none⟩ 1 1 [⟨⟨#[58, 109, 101, 116, 104, 111, 100]⟩, ⟨#[71, 69, 84]⟩, false⟩] rfl HF2.out (by omega) (by omega) ?_; intro v2 w2 hown2 hb2; obtain ⟨A2, n2, rfl, hfl2⟩ := own_fields hown2; have HFL2 := hide hfl2; have HA3 := hide (HA2.out.keep hb2); have KQ3 := hide (KQ2.out.keep hb2); clear hown2 hb2 hfl2)
  refine (rq_Read A2 6 n2 _ true w2 HFL2.out HM.out.2.1).mono ?_
  rintro e w3 ⟨rfl, hb3⟩
  have HA4 := hide (HA3.out.keep hb3)
  have KQ4 := hide (KQ3.out.keep hb3)
  rw [show ansV (readR (awL ++ [⟨⟨#[58, 109, 101, 116, 104, 111, 100]⟩, ⟨#[71, 69, 84]⟩, false⟩]) true) = _ from ansV_none aw_twice]
  clear hb3 HFL2 HA3 KQ3 HA2 KQ2 HF2 c0 c1 c2 H1a KQ1
  simp only [rq0]
  go_upto_region 4 with (fail)
  have HA5 := hide (HA4.out.keep (bel1 w3 (.cells #[.string ⟨#[]⟩, .string ⟨#[]⟩, .string ⟨#[]⟩, .string ⟨#[]⟩, .int .i64 0, .int .i64 0] 26)))
  have KQ5 := hide (KQ4.out.keep (bel1 w3 (.cells #[.string ⟨#[]⟩, .string ⟨#[]⟩, .string ⟨#[]⟩, .string ⟨#[]⟩, .int .i64 0, .int .i64 0] 26)))
  obtain ⟨W3, hWn⟩ : ∃ W, W = w3.alloc (.cells #[.string ⟨#[]⟩, .string ⟨#[]⟩, .string ⟨#[]⟩, .string ⟨#[]⟩, .int .i64 0, .int .i64 0] 26) := ⟨_, rfl⟩
  rw [← hWn] at HA5 KQ5 ⊢
  clear hWn HA4 KQ4
  have HA6 := hide (HA5.out.keep (bel1 W3 (.cells #[.string ⟨#[88]⟩, .string ⟨#[121]⟩, .bool false] 42)))
  have HF6 := hide (fl_new1 W3 ⟨#[88]⟩ ⟨#[121]⟩ false)
  have KQ6 := hide (KQ5.out.keep (bel1 W3 (.cells #[.string ⟨#[88]⟩, .string ⟨#[121]⟩, .bool false] 42)))
  go_wp2_with (at_builtin; refine wpList_append_flgrows _ rfl (.tmp 36) (.tmp 38) rfl ⟨G, 0, none⟩ 5 5 awL rfl HA6.out.l ⟨W3.heap.size, 0, none⟩ 1 1 [⟨⟨#[88]⟩, ⟨#[121]⟩, false⟩] rfl HF6.out (by omega) (by omega) ?_; intro v4 w4 hown4 hb4; obtain ⟨A4, n4, rfl, hfl4⟩ := own_fields hown4; have HFL4 := hide hfl4; have HA7 := hide (HA6.out.keep hb4); have KQ7 := hide (KQ6.out.keep hb4); clear hown4 hb4 hfl4)
  refine (rq_Read A4 6 n4 _ true w4 HFL4.out HM.out.1).mono ?_
  rintro e w5 ⟨rfl, hb5⟩
  have HA8 := hide (HA7.out.keep hb5)
  have KQ8 := hide (KQ7.out.keep hb5)
  rw [show ansV (readR (awL ++ [⟨⟨#[88]⟩, ⟨#[121]⟩, false⟩]) true) = _ from ansV_none aw_up]
  clear hb5 HFL4 HA7 KQ7 HA6 KQ6 HF6 HA5 KQ5
  simp only [rq0]
  go_upto_region 5 with (fail)
  have HA9 := hide (HA8.out.keep (bel1 w5 (.cells #[.string ⟨#[]⟩, .string ⟨#[]⟩, .string ⟨#[]⟩, .string ⟨#[]⟩, .int .i64 0, .int .i64 0] 26)))
  have KQ9 := hide (KQ8.out.keep (bel1 w5 (.cells #[.string ⟨#[]⟩, .string ⟨#[]⟩, .string ⟨#[]⟩, .string ⟨#[]⟩, .int .i64 0, .int .i64 0] 26)))
  obtain ⟨W5, hWn⟩ : ∃ W, W = w5.alloc (.cells #[.string ⟨#[]⟩, .string ⟨#[]⟩, .string ⟨#[]⟩, .string ⟨#[]⟩, .int .i64 0, .int .i64 0] 26) := ⟨_, rfl⟩
  rw [← hWn] at HA9 KQ9 ⊢
  clear hWn HA8 KQ8
  have hs1 : ∀ w', (Instr.slice 22 (.slice (some ⟨G, 0, none⟩) 5 5) (some (.int .i64 1)) none none).run Tryd.prog w' = .ok (.slice (some ⟨G, 3, none⟩) 4 4) w' := (aw_tail HA9.out.l 1 (by omega)).1
  have HF1 := hide (show FL W5 (some ⟨G, 3, none⟩) 4 4 (awL.drop 1) from (aw_tail HA9.out.l 1 (by omega)).2)
  go_wp2_with fail
  clear hs1
  refine (rq_Read _ _ _ _ true _ HF1.out (HM.out.2.2.drop 1)).mono ?_
  rintro e w6 ⟨rfl, hb6⟩
  have HA10 := hide (HA9.out.keep hb6)
  have KQ10 := hide (KQ9.out.keep hb6)
  rw [ansV_none aw_none]
  clear hb6 HF1 HA9 KQ9
  simp only [rq0]
  go_upto_region 6 with (fail)
  have HA11 := hide (HA10.out.keep (bel1 w6 (.cells #[.string ⟨#[]⟩, .string ⟨#[]⟩, .string ⟨#[]⟩, .string ⟨#[]⟩, .int .i64 0, .int .i64 0] 26)))
  have KQ11 := hide (KQ10.out.keep (bel1 w6 (.cells #[.string ⟨#[]⟩, .string ⟨#[]⟩, .string ⟨#[]⟩, .string ⟨#[]⟩, .int .i64 0, .int .i64 0] 26)))
  obtain ⟨W6, hWn⟩ : ∃ W, W = w6.alloc (.cells #[.string ⟨#[]⟩, .string ⟨#[]⟩, .string ⟨#[]⟩, .string ⟨#[]⟩, .int .i64 0, .int .i64 0] 26) := ⟨_, rfl⟩
  rw [← hWn] at HA11 KQ11 ⊢
  clear hWn HA10 KQ10
  go_wp2_with fail
  refine (rq_Number _ (by decide) _).mono ?_
  rintro e w7 ⟨rfl, hb7⟩
  have HA12 := hide (HA11.out.keep hb7)
  have KQ12 := hide (KQ11.out.keep hb7)
  rw [show numEnd ⟨#[49, 50, 48]⟩ = .returned (.tuple #[.int .i64 120, .bool true]) by unfold numEnd; rw [aw_num.1, aw_num.2]]
  clear hb7 HA11 KQ11
  go_wp2_with fail
  refine (rq_Number _ (by decide) _).mono ?_
  rintro e w8 ⟨rfl, hb8⟩
  have HA13 := hide (HA12.out.keep hb8)
  have KQ13 := hide (KQ12.out.keep hb8)
  rw [numEnd_no aw_num0]
  clear hb8 HA12 KQ12
  have k0 := KQ13.out.cell 0
  have k1 := KQ13.out.cell 1
  have k2 := KQ13.out.cell 2
  have k3 := KQ13.out.cell 3
  have k4 := KQ13.out.cell 4
  have k5 := KQ13.out.cell 5
  simp only [List.getElem?_toArray, List.getElem?_cons_zero, List.getElem?_cons_succ] at k0 k1 k2 k3 k4 k5
  go_wp2_with fail
  clear k0 k1 k2 k3 k4 k5
  refine (rq_Token _ (by decide) _).mono ?_
  rintro e v1 ⟨rfl, hb⟩
  have HB1 := hide (HA13.out.keep hb)
  have KB1 := hide (KQ13.out.keep hb)
  rw [aw_tok]
  clear hb HA13 KQ13
  go_wp2_with fail
  refine (rq_Token _ (by decide) _).mono ?_
  rintro e v2 ⟨rfl, hb⟩
  have HB2 := hide (HB1.out.keep hb)
  have KB2 := hide (KB1.out.keep hb)
  rw [aw_tokX]
  clear hb HB1 KB1
  go_wp2_with fail
  refine (rq_Rank _ (by decide) _).mono ?_
  rintro e v3 ⟨rfl, hb⟩
  have HB3 := hide (HB2.out.keep hb)
  have KB3 := hide (KB2.out.keep hb)
  rw [aw_rank]
  clear hb HB2 KB2
  go_wp2_with fail
  refine (rq_Rank _ (by decide) _).mono ?_
  rintro e v4 ⟨rfl, hb⟩
  have HB4 := hide (HB3.out.keep hb)
  have KB4 := hide (KB3.out.keep hb)
  rw [aw_rank8]
  clear hb HB3 KB3
  have hs3 : ∀ w', (Instr.slice 22 (.slice (some ⟨G, 0, none⟩) 5 5) (some (.int .i64 3)) none none).run Tryd.prog w' = .ok (.slice (some ⟨G, 9, none⟩) 2 2) w' := (aw_tail HB4.out.l 3 (by omega)).1
  have HF3 := hide (show FL v4 (some ⟨G, 9, none⟩) 2 2 (awL.drop 3) from (aw_tail HB4.out.l 3 (by omega)).2)
  go_wp2_with fail
  clear hs3
  refine (rq_Trailers _ _ _ _ _ HF3.out (HM.out.2.2.drop 3)).mono ?_
  rintro e v5 ⟨rfl, hb⟩
  have HB5 := hide (HB4.out.keep hb)
  have KB5 := hide (KB4.out.keep hb)
  rw [aw_trail]
  clear hb HB4 KB4
  have hs1 : ∀ w', (Instr.slice 22 (.slice (some ⟨G, 0, none⟩) 5 5) none (some (.int .i64 1)) none).run Tryd.prog w' = .ok (.slice (some ⟨G, 0, none⟩) 1 5) w' := (fl_head HB5.out.l 1 (by omega)).1
  have HF4 := hide (show FL v5 (some ⟨G, 0, none⟩) 1 5 (awL.take 1) from (fl_head HB5.out.l 1 (by omega)).2)
  go_wp2_with fail
  clear hs1
  refine (rq_Trailers _ _ _ _ _ HF4.out (HM.out.2.2.take 1)).mono ?_
  rintro e v6 ⟨rfl, hb⟩
  have HB6 := hide (HB5.out.keep hb)
  have KB6 := hide (KB5.out.keep hb)
  rw [aw_trail1]
  clear hb HB5 KB5
  have k0 := KB6.out.cell 0
  have k1 := KB6.out.cell 1
  have k2 := KB6.out.cell 2
  have k3 := KB6.out.cell 3
  have k4 := KB6.out.cell 4
  have k5 := KB6.out.cell 5
  simp only [List.getElem?_toArray, List.getElem?_cons_zero, List.getElem?_cons_succ] at k0 k1 k2 k3 k4 k5
  go_wp2_with fail
  refine (rq_Fields awQ _ (HT.out.keep HB6.out.b) (by decide) (by decide) (by decide) (by decide)).mono ?_
  rintro e v7 ⟨r, rfl, hown, hb⟩
  rw [aw_len] at hown
  obtain ⟨A7, c7, rfl, -⟩ := own_fields hown
  have HB7 := hide (HB6.out.b.trans (hb.mono HB6.out.b.size))
  clear hb hown k0 k1 k2 k3 k4 k5
  go_wp2_with fail
  go_ret
  exact ⟨rfl, HB7.out⟩
end Go.Proofs.YtlbhnbloanamfaaDoor
