/-
  Layer 17: Fields, the program's (written by gen17fields.py).
-/
import Derived.Test.YtlbhnbloanamfaaDoorRqShow
import Derived.Test.YtlbhnbloanamfaaDoorFdNew
import Derived.Test.YtlbhnbloanamfaaDoorStrSame
import Derived.Test.YtlbhnbloanamfaaDoorOwnRow
import Derived.Deep.CutRange
import Derived.BigGuardPart
import Derived.Test.YtlbhnbloanamfaaDoorLbItoa
import Derived.Lib.ItoaLen
namespace Go.Proofs.YtlbhnbloanamfaaDoor
set_option linter.unusedSimpArgs false
set_option linter.unusedVariables false
open Go.RowKit

theorem rq_Itoa (n : Int) (h0 : -9223372036854775808 ≤ n) (h1 : n ≤ 9223372036854775807) (w : World) (ht : TabOk w) :
    Calls Tryd.prog 44 #[.int .i64 n] w fun e w' => e = .returned (.string (itoaB n)) ∧ Below w.heap.size w w' := lb_Itoa n h0 h1 w ht

/-- What stands all through Fields: the box, and the row so far. -/
structure rq_FieldsS (w0 : World) (q : Rq) (L : List Fd) (v : Value) (n : Nat) (w : World) : Prop where
  own : w.ownsRow (w0.heap.size + 1) 42 3 v n (fcs L)
  len : L.length = n
  box : BlkIs w w0.heap.size 26 #[.string q.m, .string q.s, .string q.p, .string q.h, .int .i64 q.n, .int .i64 q.r]
  b : Below w0.heap.size w0 w
theorem rq_FieldsS.low {w0 w w' : World} {q : Rq} {L : List Fd} {v : Value} {n : Nat} (h : rq_FieldsS w0 q L v n w) (hb : Below w.heap.size w w') : rq_FieldsS w0 q L v n w' :=
  ⟨own_lowF h.own hb, h.len, h.box.keep hb, h.b.trans (hb.mono h.b.size)⟩
theorem rq_FieldsS.more {w0 w w' : World} {q : Rq} {L : List Fd} {v v' : Value} {n : Nat} (h : rq_FieldsS w0 q L v n w) (f : Fd) (ho : w'.ownsRow (w0.heap.size + 1) 42 3 v' (n + 1) (fcs (L ++ [f]))) (hg : w.grownBy w' v.ownBlock) : rq_FieldsS w0 q (L ++ [f]) v' (n + 1) w' :=
  ⟨ho, by rw [List.length_append, h.len]; rfl, h.box.grown hg (own_neF h.own (by omega)), own_bel h.own h.b (by omega) (Nat.le_refl _) hg⟩
theorem rq_Fields_new {q : Rq} {L : List Fd} {n : Nat} {w : World} (hl : L.length = n) (hn : n ≤ 1000) : rq_FieldsS w q L (.slice (some ⟨w.heap.size + 1, 0, none⟩) n n) n ((w.alloc (.cells #[.string q.m, .string q.s, .string q.p, .string q.h, .int .i64 q.n, .int .i64 q.r] 26)).alloc (.cells (fcs L).toArray 42)) :=
  ⟨own_newF _ L n hl hn (new2 _ _ _ _) (Nat.le_refl _), hl, (BlkIs.new w _ _).alloc _, bel2 _ _ _⟩

theorem rq_Fields_str (s : ByteArray) : (s = bNil ∧ s.toList = [] ∧ (s.toList == []) = true ∧ s.toList.isEmpty = true) ∨ (s ≠ bNil ∧ (s.toList == []) = false ∧ s.toList.isEmpty = false) := by
  by_cases e : s = bNil
  · subst e
    exact .inl ⟨rfl, by rw [ByteArray.toList_eq]; rfl, lit_same rfl, by rw [is_empty]; rfl⟩
  · refine .inr ⟨e, lit_not e, ?_⟩
    rw [is_empty, decide_eq_false]
    intro h0
    exact e (ba_empty h0)

set_option maxRecDepth 100000 in
set_option maxHeartbeats 3200000 in
theorem rq_Fields (q : Rq) (w : World) (ht : TabOk w) (h0 : -9223372036854775808 ≤ q.n) (h1 : q.n ≤ 9223372036854775807) (h2 : -9223372036854775808 ≤ q.r) (h3 : q.r ≤ 9223372036854775807) :
    Calls Tryd.prog 21 #[.agg #[.string q.m, .string q.s, .string q.p, .string q.h, .int .i64 q.n, .int .i64 q.r]] w (GivesFl w (fieldsL q)) := by
  have hbt := fd_built
  have HS := hide (rq_Fields_new (q := q) (w := w) (L := [⟨nM, q.m, false⟩, ⟨nS, q.s, false⟩, ⟨nP, q.p, false⟩]) (n := 3) rfl (by omega))
  simp only [fcs, nM, nS, nP] at HS
  have HQ := hide (show fieldsL q = _ from rfl)
  obtain ⟨L0, hL0⟩ : ∃ L, L = [(⟨nM, q.m, false⟩ : Fd), ⟨nS, q.s, false⟩, ⟨nP, q.p, false⟩] := ⟨_, rfl⟩
  obtain ⟨F1, hF1⟩ : ∃ F, F = (if q.h = bNil then ([] : List Fd) else [⟨nA, q.h, false⟩]) := ⟨_, rfl⟩
  obtain ⟨F2, hF2⟩ : ∃ F, F = (if q.n < 0 then ([] : List Fd) else [⟨nLen, itoaB q.n, false⟩]) := ⟨_, rfl⟩
  obtain ⟨F3, hF3⟩ : ∃ F, F = (if q.r = 3 then ([] : List Fd) else [⟨nPrio, uEq ++ itoaB q.r, false⟩]) := ⟨_, rfl⟩
  have HQ := hide (show fieldsL q = L0 ++ (F1 ++ (F2 ++ F3)) by rw [hL0, hF1, hF2, hF3]; rfl)
  rw [show [(⟨⟨#[58, 109, 101, 116, 104, 111, 100]⟩, q.m, false⟩ : Fd), ⟨⟨#[58, 115, 99, 104, 101, 109, 101]⟩, q.s, false⟩, ⟨⟨#[58, 112, 97, 116, 104]⟩, q.p, false⟩] = L0 from hL0.symm] at HS
  have H1 := hide hF1
  have H2 := hide hF2
  have H3 := hide hF3
  clear hL0 hF1 hF2 hF3
  have HC1 := hide (fun w' (hb : Below w.heap.size w w') (_ : 0 ≤ q.n) => rq_Itoa q.n h0 h1 w' (ht.keep hb))
  have HC2 := hide (fun w' (hb : Below w.heap.size w w') => rq_Itoa q.r h2 h3 w' (ht.keep hb))
  have HZ2 := hide (show (itoaB q.r).size ≤ 1000 by
    have := Lib.itoa_length_le q.r h2 h3
    unfold itoaB
    simp [ByteArray.size]
    omega)
  clear ht h0 h1 h2 h3
  go_enter Tryd.func21, Tryd.ntmps21
  go_upto_region 2 with (fail)
  obtain ⟨W, hW⟩ : ∃ W, W = ((w.alloc (.cells #[.string q.m, .string q.s, .string q.p, .string q.h, .int .i64 q.n, .int .i64 q.r] 26)).alloc (.cells #[.string ⟨#[58, 109, 101, 116, 104, 111, 100]⟩, .string q.m, .bool false, .string ⟨#[58, 115, 99, 104, 101, 109, 101]⟩, .string q.s, .bool false, .string ⟨#[58, 112, 97, 116, 104]⟩, .string q.p, .bool false] 42)) := ⟨_, rfl⟩
  have HS0 := hide (show rq_FieldsS w q L0 (.slice (some ⟨w.heap.size + 1, 0, none⟩) 3 3) 3 W by rw [hW]; exact HS.out)
  rw [← hW]
  clear hW HS
  obtain ⟨v, hv⟩ : ∃ v, v = Value.slice (some ⟨w.heap.size + 1, 0, none⟩) 3 3 := ⟨_, rfl⟩
  rw [← hv] at HS0 ⊢
  clear hv
  have k3 := HS0.out.box.cell 3
  simp only [List.getElem?_toArray, List.getElem?_cons_zero, List.getElem?_cons_succ] at k3
  have HNB := hide (rq_Fields_str q.h)
  go_upto_if 16 with (fail)
  go_cut [3] from 16 to 22 (fun s3 wx => ∃ n, Hid (n ≤ 4) ∧ Hid (rq_FieldsS w q (L0 ++ F1) s3 n wx))
  case first =>
    rcases HNB.out with ⟨e1, e2, e3, e4⟩ | ⟨e1, e2, e3⟩
    · obtain rfl : F1 = [] := by rw [H1.out, if_pos e1]
      clear e1
      simp only [e4, Bool.not_true]
      go_wp2_with fail
      all_goals (go_meet; exact ⟨3, by simp [Hid], by rw [List.append_nil]; exact HS0.out⟩)
    · have HF := hide (show F1 = [⟨nA, q.h, false⟩] by rw [H1.out, if_neg e1])
      have HSA := hide (HS0.out.low (bel1 W (.cells #[.string nA, .string q.h, .bool false] 42)))
      have HFA := hide (fl_new1 W nA q.h false)
      have HBS := hide (show w.heap.size + 1 ≤ W.heap.size from HS0.out.box.lt)
      simp only [nA] at HSA HFA
      clear e1
      simp only [e3, Bool.not_false]
      go_wp2_with (at_builtin; refine wpList_append_fl _ rfl (.tmp 17) (.tmp 21) rfl (w.heap.size + 1) v 3 L0 rfl HSA.out.own (some ⟨W.heap.size, 0, none⟩) 1 1 [⟨⟨#[58, 97, 117, 116, 104, 111, 114, 105, 116, 121]⟩, q.h, false⟩] rfl HFA.out (by omega) (by have := HBS.out; simp; omega) ?_; intro v1 w1 hown1 hg1; have HO1 := hide hown1; have HG1 := hide hg1; clear hown1 hg1)
      all_goals (go_meet; exact ⟨4, by simp [Hid], by rw [HF.out]; exact HSA.out.more _ HO1.out HG1.out⟩)
  case rest =>
    obtain ⟨n, HN, HS1⟩ := hcut
    clear HS0 k3 HNB H1
    have HBW1 := hide (HS1.out.box.lt)
    have k4 := HS1.out.box.cell 4
    simp only [List.getElem?_toArray, List.getElem?_cons_zero, List.getElem?_cons_succ] at k4
    obtain ⟨L1, hL1⟩ : ∃ L, L = L0 ++ F1 := ⟨_, rfl⟩
    rw [← hL1] at HS1
    have HL1 := hide hL1
    have hn4 : n ≤ 4 := HN.out
    clear hL1 HN
    go_upto_if 25 with (fail)
    obtain ⟨W1, hW1⟩ : ∃ W1, W1 = wc := ⟨_, rfl⟩
    go_cut [3] from 25 to 32 (fun s3 wx => ∃ n', Hid (n' ≤ 5) ∧ Hid (rq_FieldsS w q (L1 ++ F2) s3 n' wx))
    case first =>
      by_cases hneg : q.n < 0
      · obtain rfl : F2 = [] := by rw [H2.out, if_pos hneg]
        simp only [decide_eq_false (show ¬ (0 : Int) ≤ q.n by omega)]
        go_wp2_with fail
        all_goals (go_meet; exact ⟨n, by have := hn4; simp only [Hid]; omega, by rw [List.append_nil]; exact HS1.out⟩)
      · have HF := hide (show F2 = [⟨nLen, itoaB q.n, false⟩] by rw [H2.out, if_neg hneg])
        simp only [decide_eq_true (show (0 : Int) ≤ q.n by omega)]
        have HCN := hide (HC1.out _ HS1.out.b (by omega))
        clear hneg
        obtain ⟨X, hX⟩ : ∃ X, X = itoaB q.n := ⟨_, rfl⟩
        rw [← hX] at HCN HF
        clear hX
        go_wp2_with fail
        refine HCN.out.mono ?_
        rintro e w2 ⟨rfl, hb2⟩
        have HSB := hide (HS1.out.low hb2)
        have HSA := hide (HSB.out.low (bel1 w2 (.cells #[.string nLen, .string X, .bool false] 42)))
        have HFA := hide (fl_new1 w2 nLen X false)
        have HBS := hide (show w.heap.size + 1 ≤ w2.heap.size from HSB.out.box.lt)
        simp only [nLen] at HSA HFA
        clear hb2
        go_wp2_with (at_builtin; refine wpList_append_fl _ rfl (.tmp 26) (.tmp 31) rfl (w.heap.size + 1) u3 n L1 rfl HSA.out.own (some ⟨w2.heap.size, 0, none⟩) 1 1 [⟨⟨#[99, 111, 110, 116, 101, 110, 116, 45, 108, 101, 110, 103, 116, 104]⟩, X, false⟩] rfl HFA.out (by omega) (by have := HBS.out; simp; omega) ?_; intro v1 w1 hown1 hg1; have HO1 := hide hown1; have HG1 := hide hg1; clear hown1 hg1)
        all_goals (go_meet; exact ⟨n + 1, by have := hn4; simp only [Hid]; omega, by rw [HF.out]; exact HSA.out.more _ HO1.out HG1.out⟩)
    case rest =>
      obtain ⟨n2, HN2, HS2⟩ := hcut
      clear HS1 k4 H2 hW1
      have k5 := HS2.out.box.cell 5
      simp only [List.getElem?_toArray, List.getElem?_cons_zero, List.getElem?_cons_succ] at k5
      obtain ⟨L2, hL2⟩ : ∃ L, L = L1 ++ F2 := ⟨_, rfl⟩
      rw [← hL2] at HS2
      have HL2 := hide hL2
      have hn5 : n2 ≤ 5 := HN2.out
      clear hL2 HN2
      go_upto_if 35 with (fail)
      go_cut [3] from 35 to 43 (fun s3 wx => ∃ n', Hid (n' ≤ 6) ∧ Hid (rq_FieldsS w q (L2 ++ F3) s3 n' wx))
      case first =>
        by_cases h3 : q.r = 3
        · obtain rfl : F3 = [] := by rw [H3.out, if_pos h3]
          have d3 : (q.r != 3) = false := by simpa using h3
          clear h3
          simp only [d3]
          go_wp2_with fail
          all_goals (go_meet; exact ⟨n2, by have := hn5; simp only [Hid]; omega, by rw [List.append_nil]; exact HS2.out⟩)
        · have HF := hide (show F3 = [⟨nPrio, uEq ++ itoaB q.r, false⟩] by rw [H3.out, if_neg h3])
          have d3 : (q.r != 3) = true := by simpa using h3
          have HCN := hide (HC2.out _ HS2.out.b)
          clear h3
          simp only [d3]
          obtain ⟨X, hX⟩ : ∃ X, X = itoaB q.r := ⟨_, rfl⟩
          rw [← hX] at HCN HF HZ2
          clear hX
          have hz : X.size ≤ 1000 := HZ2.out
          have hzz : ¬ 9223372036854775807 < (⟨#[117, 61]⟩ : ByteArray).size + X.size := by
            have : (⟨#[117, 61]⟩ : ByteArray).size = 2 := rfl
            omega
          go_wp2_with fail
          refine HCN.out.mono ?_
          rintro e w3 ⟨rfl, hb3⟩
          have HSB := hide (HS2.out.low hb3)
          have HSA := hide (HSB.out.low (bel1 w3 (.cells #[.string nPrio, .string (uEq ++ X), .bool false] 42)))
          have HFA := hide (fl_new1 w3 nPrio (uEq ++ X) false)
          have HBS := hide (show w.heap.size + 1 ≤ w3.heap.size from HSB.out.box.lt)
          simp only [nPrio, uEq] at HSA HFA
          clear hb3
          go_wp2_with (at_builtin; refine wpList_append_fl _ rfl (.tmp 36) (.tmp 42) rfl (w.heap.size + 1) _ n2 L2 rfl HSA.out.own (some ⟨w3.heap.size, 0, none⟩) 1 1 [⟨⟨#[112, 114, 105, 111, 114, 105, 116, 121]⟩, ⟨#[117, 61]⟩ ++ X, false⟩] rfl HFA.out (by omega) (by have := HBS.out; simp; omega) ?_; intro v1 w1 hown1 hg1; have HO1 := hide hown1; have HG1 := hide hg1; clear hown1 hg1)
          all_goals (go_meet; exact ⟨n2 + 1, by have := hn5; simp only [Hid]; omega, by rw [HF.out]; exact HSA.out.more _ HO1.out HG1.out⟩)
      case rest =>
        obtain ⟨n3, HN3, HS3⟩ := hcut
        have HE := hide (show fieldsL q = L2 ++ F3 by rw [HQ.out, HL2.out, HL1.out]; simp only [List.append_assoc])
        clear HQ HL1 HL2 HN3 HBW1 HS2 k5
        go_wp2_with fail
        go_ret
        refine ⟨_, rfl, ?_, HS3.out.b⟩
        rw [HE.out, HS3.out.len]
        exact own_baseF HS3.out.own (by omega)
end Go.Proofs.YtlbhnbloanamfaaDoor
