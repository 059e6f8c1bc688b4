/-
  Layer 19: the document's Drain (written by gen19rdrain.py).
-/
import Derived.Test.YtfcokhdkjoimmaaOqNew
import Derived.Test.YtfcokhdkjoimmaaOqTake
import Derived.Test.YtfcokhdkjoimmaaRqLight
import Derived.Test.YtfcokhdkjoimmaaTxStep
import Derived.Test.YtfcokhdkjoimmaaRegW
namespace Go.Proofs.Ytfcokhdkjoimmaa
set_option linter.unusedSimpArgs false
set_option linter.unusedVariables false
open Go.RowKit
theorem dropP_min (N : Nat) (l : List ByteArray) : dropP N l = dropP (min N (lenL l)) l := by
  rcases Nat.le_total N (lenL l) with h | h
  · rw [Nat.min_eq_left h]
  · rw [Nat.min_eq_right h, dropP_all h, dropP_all (Nat.le_refl _)]
theorem take_min (N : Nat) (l : List ByteArray) : (flat l).take N = (flat l).take (min N (lenL l)) := by
  rcases Nat.le_total N (lenL l) with h | h
  · rw [Nat.min_eq_left h]
  · rw [Nat.min_eq_right h, List.take_of_length_le (by rw [flat_len]; exact h), List.take_of_length_le (by rw [flat_len]; exact Nat.le_refl _)]
/-- A part more, in the document's way: what goes, and what stays. -/
theorem part_out {l : List ByteArray} {i N k : Nat} {s : ByteArray} (hs : l[i]? = some s) (hk : k = min (N - min N (lenL (l.take i))) s.size) :
    (flat (l.take (i + 1))).take N = (flat (l.take i)).take N ++ bts (s.extract 0 k) ∧ min N (lenL (l.take (i + 1))) = min N (lenL (l.take i)) + (s.extract 0 k).size := by
  refine ⟨?_, ?_⟩
  · rw [take_next hs, flat_take_snoc, bts_extract, List.drop_zero, Nat.sub_zero]
    congr 1
    rcases Nat.le_total (N - min N (lenL (l.take i))) s.size with h | h
    · rw [hk, Nat.min_eq_left h]
    · rw [hk, Nat.min_eq_right h, List.take_of_length_le (l := bts s) (by rw [bts_len]; exact h), List.take_of_length_le (by rw [bts_len]; exact Nat.le_refl _)]
  · rw [lenL_next hs, ← bts_len (s.extract 0 k), bts_extract, List.drop_zero, List.length_take, bts_len]
    omega
theorem part_rest {l : List ByteArray} {i N k : Nat} {s : ByteArray} (hs : l[i]? = some s) (hk : k = min (N - min N (lenL (l.take i))) s.size) (h0 : s.size ≠ 0) (h : k < s.size) :
    dropP N (l.take (i + 1)) = dropP N (l.take i) ++ [s.extract k s.size] := by
  rw [take_next hs, dropP_snoc N _ s k h0 hk, if_pos h]
theorem part_whole {l : List ByteArray} {i N k : Nat} {s : ByteArray} (hs : l[i]? = some s) (hk : k = min (N - min N (lenL (l.take i))) s.size) (h0 : s.size ≠ 0) (h : ¬ k < s.size) :
    dropP N (l.take (i + 1)) = dropP N (l.take i) := by
  rw [take_next hs, dropP_snoc N _ s k h0 hk, if_neg h]
theorem dropP_few {N i n : Nat} {l : List ByteArray} (hl : l.length = n) (hi : i ≤ n) : (dropP N (l.take i)).length ≤ n := by
  have h1 := dropP_count N (l.take i)
  rw [List.length_take] at h1
  omega
/-- A row is kept where a row of another kind grows. -/
theorem own_two {w w' : World} {B B' : Nat} {e e' : TypeId} {v v' : Value} {n n' : Nat} {xs xs' : List Value} (hne : e ≠ e') (h : w.ownsRow B e 1 v n xs) (h' : w.ownsRow B' e' 1 v' n' xs') (hg : w.grownBy w' v'.ownBlock) : w'.ownsRow B e 1 v n xs := by
  refine h.kept (row := v'.ownBlock) hg ?_
  rcases h'.2 with ⟨rfl, _⟩ | ⟨g, cap, cur, rfl, _, hg', _⟩
  · cases v.ownBlock <;> simp [Value.ownBlock]
  · exact own_apartx h (show BlkIs w g e' cur from hg') (Ne.symm hne)
set_option maxRecDepth 100000 in
set_option maxHeartbeats 3200000 in
theorem rq_drain_bad (q : Qu) (A : Option Addr) (n c : Nat) (w : World) (hl : QL w q A n c) (x : Int) (hck : ¬ chkQ q = 0) :
    Calls Try.prog 12 #[.agg #[.slice A n c, .int .i64 q.m, .int .i64 q.g], .int .i64 x] w (GivesQB q [] w) := by
  have HQ := hide hl
  have HB2 := hide (bel2 w (.cells #[.slice A n c, .int .i64 q.m, .int .i64 q.g] 24) (.cells #[.slice none 0 0, .int .i64 0, .int .i64 0] 24))
  have HX := hide ((BlkIs.new w 24 #[.slice A n c, .int .i64 q.m, .int .i64 q.g]).alloc (.cells #[.slice none 0 0, .int .i64 0, .int .i64 0] 24))
  have HG := hide (new2 w (.cells #[.slice A n c, .int .i64 q.m, .int .i64 q.g] 24) 24 #[.slice none 0 0, .int .i64 0, .int .i64 0])
  have HCK := hide (rq_Check q A n c _ (hl.keep HB2.out))
  have hz := run_zero_is dq_zero
  unfold GivesQB
  generalize chkQ q = ck at *
  have hne : (ck == 0) = false := beq_eq_false_iff_ne.2 hck
  have hne2 : (ck != 0) = true := by simpa using hck
  generalize q.m = m at *
  generalize q.g = g at *
  clear hl hck
  go_enter Try.func12, Try.ntmps12
  go_wp2_with fail
  refine HCK.out.mono ?_
  rintro e w2 ⟨rfl, hb2⟩
  have HG2 := hide (HG.out.keep hb2)
  have HX2 := hide (HX.out.keep hb2)
  have HB3 := hide (HB2.out.trans (hb2.mono HB2.out.size))
  obtain ⟨k0, k1, k2⟩ := qcells HX2.out
  clear hb2 HCK HG HX HB2
  go_wp2_with (refine wpList_q_blk 24 dq_size rfl (.tmp 4) (.tmp 17) (w.heap.size + 1) A n c m g _ _ _ rfl HG2.out rfl rfl ?_; intro w9 hk9 kb9; have HK9 := hide hk9; have HB9 := hide (below_kbq HB3.out kb9 (Nat.le_refl _) (by omega)); clear hk9 kb9)
  exact bodyPost_ret (results_dq rfl _ _ (w.heap.size + 1) _ _ _ rfl HK9.out (.slice none 0 0) rfl) rfl ⟨⟨A, n, c, none, 0, 0, rfl, HQ.out.tx.keep HB9.out, RB.nothing _ _⟩, HB9.out⟩

set_option maxRecDepth 100000 in
set_option maxHeartbeats 3200000 in
theorem rq_drain_low (q : Qu) (A : Option Addr) (n c : Nat) (w : World) (hl : QL w q A n c) (x : Int) (hck : chkQ q = 0) (hx : x < 1) :
    Calls Try.prog 12 #[.agg #[.slice A n c, .int .i64 q.m, .int .i64 q.g], .int .i64 x] w (GivesQB q [] w) := by
  have HQ := hide hl
  have HB2 := hide (bel2 w (.cells #[.slice A n c, .int .i64 q.m, .int .i64 q.g] 24) (.cells #[.slice none 0 0, .int .i64 0, .int .i64 0] 24))
  have HX := hide ((BlkIs.new w 24 #[.slice A n c, .int .i64 q.m, .int .i64 q.g]).alloc (.cells #[.slice none 0 0, .int .i64 0, .int .i64 0] 24))
  have HG := hide (new2 w (.cells #[.slice A n c, .int .i64 q.m, .int .i64 q.g] 24) 24 #[.slice none 0 0, .int .i64 0, .int .i64 0])
  have HCK := hide (rq_Check q A n c _ (hl.keep HB2.out))
  have hz := run_zero_is dq_zero
  unfold GivesQB
  rw [hck] at HCK
  generalize q.m = m at *
  generalize q.g = g at *
  clear hl hck
  go_enter Try.func12, Try.ntmps12
  go_wp2_with fail
  refine HCK.out.mono ?_
  rintro e w2 ⟨rfl, hb2⟩
  have HG2 := hide (HG.out.keep hb2)
  have HX2 := hide (HX.out.keep hb2)
  have HB3 := hide (HB2.out.trans (hb2.mono HB2.out.size))
  obtain ⟨k0, k1, k2⟩ := qcells HX2.out
  clear hb2 HCK HG HX HB2
  go_wp2_with (refine wpList_q_blk 24 dq_size rfl (.tmp 4) (.tmp 17) (w.heap.size + 1) A n c m g _ _ _ rfl HG2.out rfl rfl ?_; intro w9 hk9 kb9; have HK9 := hide hk9; have HB9 := hide (below_kbq HB3.out kb9 (Nat.le_refl _) (by omega)); clear hk9 kb9)
  all_goals first | (exfalso; omega) | skip
  exact bodyPost_ret (results_dq rfl _ _ (w.heap.size + 1) _ _ _ rfl HK9.out (.slice none 0 0) rfl) rfl ⟨⟨A, n, c, none, 0, 0, rfl, HQ.out.tx.keep HB9.out, RB.nothing _ _⟩, HB9.out⟩

set_option maxRecDepth 100000 in
set_option maxHeartbeats 3200000 in
theorem rq_drain_go (q : Qu) (A : Option Addr) (n c : Nat) (w : World) (hl : QL w q A n c) (N : Nat) (hN : 1 ≤ N) (hNM : (N : Int) ≤ 9223372036854775807) (hck : chkQ q = 0) :
    Calls Try.prog 12 #[.agg #[.slice A n c, .int .i64 q.m, .int .i64 q.g], .int .i64 (N : Int)] w (GivesQB ⟨dropP (min N (lenL q.ps)) q.ps, q.m, q.g + (min N (lenL q.ps) : Nat)⟩ ((flat q.ps).take (min N (lenL q.ps))) w) := by
  have HQ := hide hl
  have HB2 := hide (bel2 w (.cells #[.slice A n c, .int .i64 q.m, .int .i64 q.g] 24) (.cells #[.slice none 0 0, .int .i64 0, .int .i64 0] 24))
  have HX := hide ((BlkIs.new w 24 #[.slice A n c, .int .i64 q.m, .int .i64 q.g]).alloc (.cells #[.slice none 0 0, .int .i64 0, .int .i64 0] 24))
  have HG := hide (new2 w (.cells #[.slice A n c, .int .i64 q.m, .int .i64 q.g] 24) 24 #[.slice none 0 0, .int .i64 0, .int .i64 0])
  have HCK := hide (rq_Check q A n c _ (hl.keep HB2.out))
  have hz := run_zero_is dq_zero
  have hok := (chk_ok q).1 hck
  have HLN := hide hl.tx.len
  have HFW := hide hl.few
  have HTL := hide hl.tx
  have HSM := hide hl.sum
  have HNO := hide hok.no
  have HG0 := hide hok.g0
  have HG1 := hide hok.g1
  have H65 := hide hok.len
  have HMN := hide (dropP_min N q.ps)
  have HMT := hide (take_min N q.ps)
  have HFB := hide (show ∀ z ∈ (flat q.ps).take N, 0 ≤ z ∧ z ≤ 255 from fun z hz => flat_all q.ps z (List.mem_of_mem_take hz))
  obtain ⟨i0, hi0, hz0, hz1, hz2⟩ := info_parts u8_info
  unfold GivesQB
  rw [hck] at HCK
  generalize q.m = m at *
  generalize q.g = g at *
  rw [← HMN.out, ← HMT.out]
  generalize q.ps = l at *
  clear hl hck hok HMN HMT
  go_enter Try.func12, Try.ntmps12
  go_wp2_with fail
  refine HCK.out.mono ?_
  rintro e w2 ⟨rfl, hb2⟩
  have HG2 := hide (HG.out.keep hb2)
  have HX2 := hide (HX.out.keep hb2)
  have HB3 := hide (HB2.out.trans (hb2.mono HB2.out.size))
  obtain ⟨k0, k1, k2⟩ := qcells HX2.out
  clear hb2 HCK HG HX HB2
  have hbt := dq_built2
  have hN' : (1 : Int) ≤ (N : Int) := by omega
  go_wp2_with (refine wpList_q_blk 24 dq_size rfl (.tmp 6) (.tmp 22) w2.heap.size none 0 0 m g _ _ _ rfl (BlkIs.new w2 24 #[.slice none 0 0, .int .i64 0, .int .i64 0]) rfl rfl ?_; intro w3 hk3 kb3; have HX3 := hide hk3; have HK3 := hide kb3; clear hk3 kb3 k0 k1 k2)
  all_goals first | (exfalso; omega) | skip
  obtain ⟨x, hx⟩ : ∃ x, x = w2.heap.size := ⟨_, rfl⟩
  rw [← hx] at HX3 HK3 ⊢
  have HXL := hide (show w.heap.size + 1 + 1 ≤ x by rw [hx]; exact HG2.out.lt)
  have HXG := HXL
  have HBW := hide (below_kbq (HB3.out.alloc HB3.out.size (.cells #[.slice none 0 0, .int .i64 0, .int .i64 0] 24)) HK3.out (Nat.le_refl _) (show w.heap.size ≤ x by have := HXL.out; omega))
  have HXB := hide (HK3.out.blk (HX2.out.alloc (.cells #[.slice none 0 0, .int .i64 0, .int .i64 0] 24)) (show ¬ w.heap.size = x by have := HXL.out; omega))
  have HRB := hide (HK3.out.blk (HG2.out.alloc (.cells #[.slice none 0 0, .int .i64 0, .int .i64 0] 24)) (show ¬ w.heap.size + 1 = x by have := HXL.out; omega))
  have HBZ3 := hide (show w.heap.size + 1 + 1 ≤ w3.heap.size from HRB.out.lt)
  have HBX0 := hide (HXB.out.cell 0)
  simp only [List.getElem?_toArray, List.getElem?_cons_zero] at HBX0
  clear HK3 HG2 HX2 HB3 hx hbt
  clear hN'
  go_loopw [7, 8] (fun s7 s8 wr => ∃ (i : Nat) (A1 : Option Addr) (n1 c1 : Nat), i ≤ n ∧ s8 = .int .i64 (i : Int) ∧ Hid (wr.ownsRow (w.heap.size + 1 + 1) 5 1 s7 (min N (lenL (l.take i))) (u8s ((flat (l.take i)).take N))) ∧ Hid (BlkIs wr x 24 #[.slice A1 n1 c1, .int .i64 m, .int .i64 g]) ∧ Hid (wr.ownsRow (w.heap.size + 1 + 1) 9 1 (.slice A1 n1 c1) n1 (tcs (dropP N (l.take i)))) ∧ Hid (Below (w.heap.size + 1 + 1) w3 wr)) (fun _ s8 _ => n - (intOf s8).toNat)
  case atStart =>
    refine ⟨0, none, 0, 0, by omega, rfl, ?_, HX3.out, World.ownsRow_nil _ _ _ _, Below.refl _ _⟩
    rw [show min N (lenL (l.take 0)) = 0 by simp [lenL], show (flat (l.take 0)).take N = [] by simp [flat]]
    exact hide (World.ownsRow_nil _ _ _ _)
  case round =>
    obtain ⟨i, A1, n1, c1, hi, rfl, HOB, HXX, HOW, HB⟩ := hrel
    have HBW1 := hide (show w.heap.size ≤ w.heap.size + 1 + 1 by omega)
    have HBWr := hide (HBW.out.trans (HB.out.mono HBW1.out))
    obtain ⟨O, hO⟩ : ∃ O, O = min N (lenL (l.take i)) := ⟨_, rfl⟩
    rw [← hO] at HOB
    have hO1 : (O : Int) ≤ (N : Int) := by omega
    have hO0 : (0 : Int) ≤ (O : Int) := by omega
    have HO65 := hide (show O ≤ 65536 by have h1 := lenL_take l i; have h2 := H65.out; omega)
    have k0 := (HB.out.cell (p := ⟨w.heap.size, 0, none⟩) (show w.heap.size < w.heap.size + 1 + 1 by omega)).trans HBX0.out
    obtain ⟨CO, dO, rfl⟩ := own_form HOB.out
    have hn1 : n ≤ 10000 := HFW.out
    by_cases hlt : i < n
    · have hlt' : (i : Int) < (n : Int) := by omega
      obtain ⟨s, b, off, hs, rfl, hbl, c0⟩ := (HTL.out.keep HBWr.out).round hlt
      have HS := hide hs
      have HNZ := hide (noneE_get HNO.out hs)
      have HPS := hide (show s.size ≤ 65536 by have h1 := lenL_get hs; have h2 := H65.out; omega)
      have HBS := hide (show w.heap.size + 1 + 1 ≤ wr.heap.size from Nat.le_trans HBZ3.out HB.out.size)
      have hs0 : (0 : Int) ≤ (s.size : Int) := by omega
      obtain ⟨R, hR⟩ : ∃ R, R = min (N - O) s.size := ⟨_, rfl⟩
      have HPO := hide (part_out (N := N) (k := R) hs (by rw [hR, hO]))
      rw [← hO] at HPO
      have HPR0 := hide (fun h => part_rest (N := N) (k := R) hs (by rw [hR, hO]) HNZ.out h)
      have HPW0 := hide (fun h => part_whole (N := N) (k := R) hs (by rw [hR, hO]) HNZ.out h)
      have HN1 := hide (show n1 ≤ 10000 by
        have h1 := HOW.out.1
        rw [tcs_len] at h1
        have h2 := dropP_few (N := N) HLN.out hi
        omega)
      clear hs hbl hO
      rcases Nat.lt_or_ge (N - O) s.size with h2 | h2
      · have hRi : (N : Int) - (O : Int) = (R : Int) := by omega
        have hRs : (R : Int) < (s.size : Int) := by omega
        have hR0 : (0 : Int) ≤ (R : Int) := by omega
        have HR2 := hide (show (R : Int) ≤ (s.size : Int) by omega)
        have HPS := hide (show (s.extract 0 R).size ≤ 65536 by
          have h3 := HPS.out
          rw [← bts_len, bts_extract, List.length_take, List.length_drop, bts_len]; omega)
        have HPR := hide (HPR0.out (by omega))
        clear HPR0 HPW0 h2 hR
        go_upto_region 11 with (at_builtin; refine Lib.wpList_append_own_string _ rfl (.tmp 41) (.tmp 48) 25 9 rfl (w.heap.size + 1 + 1) 5 i0 Try.underlying25 Try.underlying9 hi0 hz0 hz1 hz2 _ _ _ rfl HOB.out (s.extract 0 R) rfl (by have h1 := HO65.out; have h2 := HPS.out; unfold maxLen; omega) (by have h1 := HO65.out; have h2 := HPS.out; omega) HBS.out ?_; intro v1 w4 hown4 hg4 _; have HX4 := hide (blk_grown HXX.out hg4 (own_apartx HOB.out HXX.out (by decide))); have HL4 := hide (own_two (by decide) HOW.out HOB.out hg4); have HB4 := hide (own_bel HOB.out HB.out (Nat.le_refl _) HBZ3.out hg4); have HO4 := hide hown4; have ck1 := (((HB4.out.cell (p := ⟨w.heap.size, 0, none⟩) (show w.heap.size < w.heap.size + 1 + 1 by omega)).trans HBX0.out)); have ck2 := ((HTL.out.keep (HBW.out.trans (HB4.out.mono HBW1.out))).cells rfl i (.string s) (tcs_get HS.out)); rw [Addr.add_lit] at ck2; clear hown4 hg4 c0 k0)
        have HB4W := hide (HBW.out.trans (HB4.out.mono HBW1.out))
        have HBZ4 := hide (show w.heap.size + 1 + 1 ≤ w4.heap.size from Nat.le_trans HBZ3.out HB4.out.size)
        have HR3 := hide hR0
        obtain ⟨X, hX⟩ : ∃ X, s.extract R s.size = X := ⟨_, rfl⟩
        rw [hX] at HPR
        have HXE := hide hX
        have HBW2 := HBW1
        clear hX hRi hRs
        refine wp_region_noPanic ?_
        refine wp_region_held_drew (S := fun w' => Below (w.heap.size + 1 + 1) w4 w') (by kernel_rfl) (Below.refl _ _).drew (fun hS => ?_)
        have EX := HX4.out.drew
        have EO : w4.drew.ownsRow _ _ _ _ _ _ := HO4.out
        have EL : w4.drew.ownsRow _ _ _ _ _ _ := HL4.out
        have EZ : w.heap.size + 1 + 1 ≤ w4.drew.heap.size := HBZ4.out
        generalize hwd : w4.drew = wd at hS EX EO EL EZ ⊢
        refine wpAnyH_take (i := 0) (v := ?_) (by simp only [List.getElem?_toArray, List.getElem?_cons_succ, List.getElem?_cons_zero] <;> exact rfl) (by kernel_rfl) (by kernel_rfl) (by kernel_rfl) (fun _ _ _ h => h) (Or.inl ⟨by rfl, ?_⟩) hS ?_
        rotate_left
        focus (intro w' hw'; go_simp; all_goals with_reducible rfl)
        try simp only [Act.put, List.setIfInBounds_toArray, List.set_cons_zero, List.set_cons_succ]
        refine wpAnyH_take (i := 2) (v := ?_) (by simp only [List.getElem?_toArray, List.getElem?_cons_succ, List.getElem?_cons_zero] <;> exact rfl) (by kernel_rfl) (by kernel_rfl) (by kernel_rfl) (fun _ _ _ h => h) (Or.inl ⟨by rfl, ?_⟩) hS ?_
        rotate_left
        focus (intro w' hw'; go_simp; all_goals with_reducible rfl)
        try simp only [Act.put, List.setIfInBounds_toArray, List.set_cons_zero, List.set_cons_succ]
        refine wpAnyH_take (i := 3) (v := ?_) (by simp only [List.getElem?_toArray, List.getElem?_cons_succ, List.getElem?_cons_zero] <;> exact rfl) (by kernel_rfl) (by kernel_rfl) (by kernel_rfl) (fun _ _ _ h => h) (Or.inl ⟨by rfl, ?_⟩) hS ?_
        rotate_left
        focus (intro w' hw'; have kk := (hw'.cell (p := ⟨w.heap.size, 0, none⟩) (show w.heap.size < w.heap.size + 1 + 1 by omega)).trans ck1; go_simp; all_goals with_reducible rfl)
        try simp only [Act.put, List.setIfInBounds_toArray, List.set_cons_zero, List.set_cons_succ]
        refine wpAnyH_take (i := 4) (v := ?_) (by simp only [List.getElem?_toArray, List.getElem?_cons_succ, List.getElem?_cons_zero] <;> exact rfl) (by kernel_rfl) (by kernel_rfl) (by kernel_rfl) (fun _ _ _ h => h) (Or.inl ⟨by rfl, ?_⟩) hS ?_
        rotate_left
        focus (intro w' hw'; go_simp; all_goals with_reducible rfl)
        try simp only [Act.put, List.setIfInBounds_toArray, List.set_cons_zero, List.set_cons_succ]
        refine wpAnyH_take (i := 5) (v := ?_) (by simp only [List.getElem?_toArray, List.getElem?_cons_succ, List.getElem?_cons_zero] <;> exact rfl) (by kernel_rfl) (by kernel_rfl) (by kernel_rfl) (fun _ _ _ h => h) (Or.inl ⟨by rfl, ?_⟩) hS ?_
        rotate_left
        focus (intro w' hw'; go_simp; all_goals with_reducible rfl)
        try simp only [Act.put, List.setIfInBounds_toArray, List.set_cons_zero, List.set_cons_succ]
        refine wpAnyH_take (i := 6) (v := ?_) (by simp only [List.getElem?_toArray, List.getElem?_cons_succ, List.getElem?_cons_zero] <;> exact rfl) (by kernel_rfl) (by kernel_rfl) (by kernel_rfl) (fun _ _ _ h => h) (Or.inl ⟨by rfl, ?_⟩) hS ?_
        rotate_left
        focus (intro w' hw'; have kk := ((HTL.out.keep (HB4W.out.trans (hw'.mono HBW2.out))).cells rfl i (.string s) (tcs_get HS.out)); rw [Addr.add_lit] at kk; go_simp; all_goals with_reducible rfl)
        try simp only [Act.put, List.setIfInBounds_toArray, List.set_cons_zero, List.set_cons_succ]
        refine wpAnyH_take (i := 7) (v := ?_) (by simp only [List.getElem?_toArray, List.getElem?_cons_succ, List.getElem?_cons_zero] <;> exact rfl) (by kernel_rfl) (by kernel_rfl) (by kernel_rfl) (fun _ _ _ h => h) (Or.inl ⟨by rfl, ?_⟩) hS ?_
        rotate_left
        focus (intro w' hw'; go_simp; all_goals with_reducible rfl)
        try simp only [Act.put, List.setIfInBounds_toArray, List.set_cons_zero, List.set_cons_succ]
        refine wpAnyH_take (i := 8) (v := ?_) (by simp only [List.getElem?_toArray, List.getElem?_cons_succ, List.getElem?_cons_zero] <;> exact rfl) (by kernel_rfl) (by kernel_rfl) (by kernel_rfl) (fun _ _ _ h => h) (Or.inl ⟨by rfl, ?_⟩) hS ?_
        rotate_left
        focus (intro w' hw'; have hx1 := HXE.out; have hx2 := HR2.out; have hx3 := HR3.out; go_simp; all_goals with_reducible rfl)
        try simp only [Act.put, List.setIfInBounds_toArray, List.set_cons_zero, List.set_cons_succ]
        refine wpAnyH_ready (rs := [1, 9]) (by kernel_rfl) (by simp) ?_
        refine AllReadyH.cons (o := _) (by simp only [List.getElem?_toArray, List.getElem?_cons_succ, List.getElem?_cons_zero] <;> exact rfl) (fun K hK => ?_) ?_
        focus (
          have hc0 := EX.cell 0
          simp only [List.getElem?_toArray, List.getElem?_cons_zero] at hc0
          go_simp
          refine hK.out _ _ hS (fun _ => ?_)
          clear hK K hc0
          try simp only [Act.put, List.setIfInBounds_toArray, List.set_cons_zero, List.set_cons_succ]
          refine wpAnyH_ready (rs := [9]) (by kernel_rfl) (by simp) ?_
          refine AllReadyH.cons (o := _) (by simp only [List.getElem?_toArray, List.getElem?_cons_succ, List.getElem?_cons_zero] <;> exact rfl) (fun K hK => ?_) ?_
          focus (
            go_simp
            have hZ := hS.size
            have hS := hS.alloc EZ (.cells #[.string X] 9)
            have EX := EX.alloc (.cells #[.string X] 9)
            have ho1 := own_low EL (bel1 wd (.cells #[.string X] 9))
            have EO := own_low EO (bel1 wd (.cells #[.string X] 9))
            have htx := tx_new1 wd X
            have hZ2 : w.heap.size + 1 + 1 ≤ (wd.alloc (.cells #[.string X] 9)).heap.size := by simp; omega
            refine hK.out _ _ hS (fun _ => ?_)
            clear hK K
            try simp only [Act.put, List.setIfInBounds_toArray, List.set_cons_zero, List.set_cons_succ]
            refine wpAnyH_ready (rs := [10]) (by kernel_rfl) (by simp) ?_
            refine AllReadyH.cons (o := _) (by simp only [List.getElem?_toArray, List.getElem?_cons_succ, List.getElem?_cons_zero] <;> exact rfl) (fun K hK => ?_) ?_
            focus (
              refine step_append_tx (wd.alloc (.cells #[.string X] 9)) (by rfl) (.tmp 59) (.tmp 67) (by rfl) (w.heap.size + 1 + 1) (.slice A1 n1 c1) n1 (dropP N (l.take i)) (by rfl) ho1 (some ⟨wd.heap.size, 0, none⟩) 1 1 [X] (by rfl) htx (by have := HN1.out; omega) hZ2 ?_
              intro A2 c2 wq hown2 hg2
              have hS := own_bel ho1 hS (Nat.le_refl _) HBZ4.out hg2
              have EX := blk_grown EX hg2 (own_apartx ho1 EX (by decide))
              have EO := own_two (by decide) EO ho1 hg2
              refine hK.out _ _ hS (fun _ => ?_)
              clear hK K
              try simp only [Act.put, List.setIfInBounds_toArray, List.set_cons_zero, List.set_cons_succ]
              refine wpAnyH_take (i := 11) (v := ?_) (by simp only [List.getElem?_toArray, List.getElem?_cons_succ, List.getElem?_cons_zero] <;> exact rfl) (by kernel_rfl) (by kernel_rfl) (by kernel_rfl) (fun _ _ _ h => h) (Or.inl ⟨by rfl, ?_⟩) hS ?_
              rotate_left
              focus (intro w' hw'; go_simp; all_goals with_reducible rfl)
              try simp only [Act.put, List.setIfInBounds_toArray, List.set_cons_zero, List.set_cons_succ]
              refine wpAnyH_ready (rs := [12]) (by kernel_rfl) (by simp) ?_
              refine AllReadyH.cons (o := _) (by simp only [List.getElem?_toArray, List.getElem?_cons_succ, List.getElem?_cons_zero] <;> exact rfl) (fun K hK => ?_) ?_
              focus (
                have hf0 := EX.frozen 0
                have hc0 := EX.cell 0
                simp only [List.getElem?_toArray, List.getElem?_cons_zero] at hc0
                have kb := (KB.refl (· = x) wq).setCell (p := ⟨x, 0, none⟩) (fun _ => rfl) (.slice A2 (n1 + 1) c2)
                have hT := own_q hown2 EX (by decide) kb
                have EO := own_qb EO EX (by decide) kb
                have hS := below_kbq hS kb HBZ4.out HXG.out
                have EX := EX.put 0 (.slice A2 (n1 + 1) c2)
                go_simp
                refine hK.out _ _ hS (fun _ => ?_)
                generalize wq.setCell ⟨x, 0, none⟩ (.slice A2 (n1 + 1) c2) = ws at hS EX EO hT ⊢
                clear hK K hf0 hc0 kb
                try simp only [Act.put, List.setIfInBounds_toArray, List.set_cons_zero, List.set_cons_succ]
                refine wpAnyH_done (by kernel_rfl) ?_ _
                refine NoPanic.normal ?_
                clear hwd
                go_wp2_with fail
                go_roundw
                case rel => exact ⟨i + 1, A2, n1 + 1, c2, by omega, by go_num, by rw [HPO.out.1, HPO.out.2, u8s_app, ← strCells_bts]; exact EO, EX, by rw [HPR.out]; exact hT, HB4.out.trans hS⟩
                case measure => simp [intOf]; omega)
              exact AllReadyH.nil)
            exact AllReadyH.nil)
          exact AllReadyH.nil)
        refine AllReadyH.cons (o := _) (by simp only [List.getElem?_toArray, List.getElem?_cons_succ, List.getElem?_cons_zero] <;> exact rfl) (fun K hK => ?_) ?_
        focus (
          go_simp
          have hZ := hS.size
          have hS := hS.alloc EZ (.cells #[.string X] 9)
          have EX := EX.alloc (.cells #[.string X] 9)
          have ho1 := own_low EL (bel1 wd (.cells #[.string X] 9))
          have EO := own_low EO (bel1 wd (.cells #[.string X] 9))
          have htx := tx_new1 wd X
          have hZ2 : w.heap.size + 1 + 1 ≤ (wd.alloc (.cells #[.string X] 9)).heap.size := by simp; omega
          refine hK.out _ _ hS (fun _ => ?_)
          clear hK K
          try simp only [Act.put, List.setIfInBounds_toArray, List.set_cons_zero, List.set_cons_succ]
          refine wpAnyH_ready (rs := [1]) (by kernel_rfl) (by simp) ?_
          refine AllReadyH.cons (o := _) (by simp only [List.getElem?_toArray, List.getElem?_cons_succ, List.getElem?_cons_zero] <;> exact rfl) (fun K hK => ?_) ?_
          focus (
            have hc0 := EX.cell 0
            simp only [List.getElem?_toArray, List.getElem?_cons_zero] at hc0
            go_simp
            refine hK.out _ _ hS (fun _ => ?_)
            clear hK K hc0
            try simp only [Act.put, List.setIfInBounds_toArray, List.set_cons_zero, List.set_cons_succ]
            refine wpAnyH_ready (rs := [10]) (by kernel_rfl) (by simp) ?_
            refine AllReadyH.cons (o := _) (by simp only [List.getElem?_toArray, List.getElem?_cons_succ, List.getElem?_cons_zero] <;> exact rfl) (fun K hK => ?_) ?_
            focus (
              refine step_append_tx (wd.alloc (.cells #[.string X] 9)) (by rfl) (.tmp 59) (.tmp 67) (by rfl) (w.heap.size + 1 + 1) (.slice A1 n1 c1) n1 (dropP N (l.take i)) (by rfl) ho1 (some ⟨wd.heap.size, 0, none⟩) 1 1 [X] (by rfl) htx (by have := HN1.out; omega) hZ2 ?_
              intro A2 c2 wq hown2 hg2
              have hS := own_bel ho1 hS (Nat.le_refl _) HBZ4.out hg2
              have EX := blk_grown EX hg2 (own_apartx ho1 EX (by decide))
              have EO := own_two (by decide) EO ho1 hg2
              refine hK.out _ _ hS (fun _ => ?_)
              clear hK K
              try simp only [Act.put, List.setIfInBounds_toArray, List.set_cons_zero, List.set_cons_succ]
              refine wpAnyH_take (i := 11) (v := ?_) (by simp only [List.getElem?_toArray, List.getElem?_cons_succ, List.getElem?_cons_zero] <;> exact rfl) (by kernel_rfl) (by kernel_rfl) (by kernel_rfl) (fun _ _ _ h => h) (Or.inl ⟨by rfl, ?_⟩) hS ?_
              rotate_left
              focus (intro w' hw'; go_simp; all_goals with_reducible rfl)
              try simp only [Act.put, List.setIfInBounds_toArray, List.set_cons_zero, List.set_cons_succ]
              refine wpAnyH_ready (rs := [12]) (by kernel_rfl) (by simp) ?_
              refine AllReadyH.cons (o := _) (by simp only [List.getElem?_toArray, List.getElem?_cons_succ, List.getElem?_cons_zero] <;> exact rfl) (fun K hK => ?_) ?_
              focus (
                have hf0 := EX.frozen 0
                have hc0 := EX.cell 0
                simp only [List.getElem?_toArray, List.getElem?_cons_zero] at hc0
                have kb := (KB.refl (· = x) wq).setCell (p := ⟨x, 0, none⟩) (fun _ => rfl) (.slice A2 (n1 + 1) c2)
                have hT := own_q hown2 EX (by decide) kb
                have EO := own_qb EO EX (by decide) kb
                have hS := below_kbq hS kb HBZ4.out HXG.out
                have EX := EX.put 0 (.slice A2 (n1 + 1) c2)
                go_simp
                refine hK.out _ _ hS (fun _ => ?_)
                generalize wq.setCell ⟨x, 0, none⟩ (.slice A2 (n1 + 1) c2) = ws at hS EX EO hT ⊢
                clear hK K hf0 hc0 kb
                try simp only [Act.put, List.setIfInBounds_toArray, List.set_cons_zero, List.set_cons_succ]
                refine wpAnyH_done (by kernel_rfl) ?_ _
                refine NoPanic.normal ?_
                clear hwd
                go_wp2_with fail
                go_roundw
                case rel => exact ⟨i + 1, A2, n1 + 1, c2, by omega, by go_num, by rw [HPO.out.1, HPO.out.2, u8s_app, ← strCells_bts]; exact EO, EX, by rw [HPR.out]; exact hT, HB4.out.trans hS⟩
                case measure => simp [intOf]; omega)
              exact AllReadyH.nil)
            exact AllReadyH.nil)
          exact AllReadyH.nil)
        exact AllReadyH.nil
      · have hRs : R = s.size := by omega
        subst hRs
        have HPW := hide (HPW0.out (by omega))
        obtain ⟨hp1, hp2⟩ := HPO.out
        rw [cut_self] at hp1 hp2
        have HPO := hide (And.intro hp1 hp2)
        clear HPR0 HPW0 hR hp1 hp2
        by_cases heq : (N : Int) - (O : Int) = (s.size : Int)
        · clear h2
          go_wp2_with (at_builtin; refine Lib.wpList_append_own_string _ rfl (.tmp 41) (.tmp 48) 25 9 rfl (w.heap.size + 1 + 1) 5 i0 Try.underlying25 Try.underlying9 hi0 hz0 hz1 hz2 _ _ _ rfl HOB.out s rfl (by have h1 := HO65.out; have h2 := HPS.out; unfold maxLen; omega) (by have h1 := HO65.out; have h2 := HPS.out; omega) HBS.out ?_; intro v1 w4 hown4 hg4 _; have HX4 := hide (blk_grown HXX.out hg4 (own_apartx HOB.out HXX.out (by decide))); have HL4 := hide (own_two (by decide) HOW.out HOB.out hg4); have HB4 := hide (own_bel HOB.out HB.out (Nat.le_refl _) HBZ3.out hg4); have HO4 := hide hown4; have ck1 := (((HB4.out.cell (p := ⟨w.heap.size, 0, none⟩) (show w.heap.size < w.heap.size + 1 + 1 by omega)).trans HBX0.out)); have ck2 := ((HTL.out.keep (HBW.out.trans (HB4.out.mono HBW1.out))).cells rfl i (.string s) (tcs_get HS.out)); rw [Addr.add_lit] at ck2; clear hown4 hg4 c0 k0)
          go_roundw
          case rel => exact ⟨i + 1, A1, n1, c1, by omega, by go_num, by rw [HPO.out.1, HPO.out.2, u8s_app, ← strCells_bts]; exact HO4.out, HX4.out, by rw [HPW.out]; exact HL4.out, HB4.out⟩
          case measure => simp [intOf]; omega
        · have hgt : (s.size : Int) < (N : Int) - (O : Int) := by omega
          clear heq h2
          go_wp2_with (at_builtin; refine Lib.wpList_append_own_string _ rfl (.tmp 41) (.tmp 48) 25 9 rfl (w.heap.size + 1 + 1) 5 i0 Try.underlying25 Try.underlying9 hi0 hz0 hz1 hz2 _ _ _ rfl HOB.out s rfl (by have h1 := HO65.out; have h2 := HPS.out; unfold maxLen; omega) (by have h1 := HO65.out; have h2 := HPS.out; omega) HBS.out ?_; intro v1 w4 hown4 hg4 _; have HX4 := hide (blk_grown HXX.out hg4 (own_apartx HOB.out HXX.out (by decide))); have HL4 := hide (own_two (by decide) HOW.out HOB.out hg4); have HB4 := hide (own_bel HOB.out HB.out (Nat.le_refl _) HBZ3.out hg4); have HO4 := hide hown4; have ck1 := (((HB4.out.cell (p := ⟨w.heap.size, 0, none⟩) (show w.heap.size < w.heap.size + 1 + 1 by omega)).trans HBX0.out)); have ck2 := ((HTL.out.keep (HBW.out.trans (HB4.out.mono HBW1.out))).cells rfl i (.string s) (tcs_get HS.out)); rw [Addr.add_lit] at ck2; clear hown4 hg4 c0 k0)
          go_roundw
          case rel => exact ⟨i + 1, A1, n1, c1, by omega, by go_num, by rw [HPO.out.1, HPO.out.2, u8s_app, ← strCells_bts]; exact HO4.out, HX4.out, by rw [HPW.out]; exact HL4.out, HB4.out⟩
          case measure => simp [intOf]; omega
    · obtain rfl : n = i := by omega
      have hge : ¬ (n : Int) < (n : Int) := by omega
      have HQO := hide (show O = min N (lenL l) by rw [hO, List.take_of_length_le (by rw [HLN.out]; exact Nat.le_refl _)])
      have HFO := hide (show (flat (l.take n)).take N = (flat l).take N by rw [List.take_of_length_le (l := l) (by rw [HLN.out]; exact Nat.le_refl _)])
      have HDO := hide (show dropP N (l.take n) = dropP N l by rw [List.take_of_length_le (l := l) (by rw [HLN.out]; exact Nat.le_refl _)])
      obtain ⟨j0, j1, j2⟩ := qcells HXX.out
      have hf2 := HXX.out.frozen 2
      have hg0 := HG0.out
      have hg1 := HG1.out
      have hO65 : (O : Int) ≤ 65536 := by have := HO65.out; omega
      clear hO
      go_upto_region 13 with (fail)
      have kb := (KB.refl (· = x) wr).setCell (p := ⟨x, 2, none⟩) (fun _ => rfl) (.int .i64 (g + (O : Int)))
      have HT5 := hide (own_q HOW.out HXX.out (by decide) kb)
      have HO5 := hide (own_qb HOB.out HXX.out (by decide) kb)
      have HX5 := hide (show BlkIs _ x 24 #[.slice A1 n1 c1, .int .i64 m, .int .i64 (g + (O : Int))] from HXX.out.put 2 (.int .i64 (g + (O : Int))))
      have HB5 := hide (below_kbq HBWr.out kb (Nat.le_refl _) (show w.heap.size ≤ x by have := HXL.out; omega))
      have HR5 := hide (kb.blk (HRB.out.below HB.out (by omega)) (show ¬ w.heap.size + 1 = x by have := HXL.out; omega))
      generalize wr.setCell ⟨x, 2, none⟩ (.int .i64 (g + (O : Int))) = w5 at HT5 HO5 HX5 HB5 HR5 ⊢
      clear j0 j1 j2 hf2 kb k0
      obtain ⟨j0, j1, j2⟩ := qcells HX5.out
      go_wp2_with (refine wpList_q_blk 24 dq_size rfl (.tmp 4) (.tmp 76) (w.heap.size + 1) A1 n1 c1 m (g + (O : Int)) _ _ _ rfl HR5.out rfl rfl ?_; intro w9 hk9 kb9; have HK9 := hide hk9; have HB9 := hide (below_kbq HB5.out kb9 (Nat.le_refl _) (by omega)); have HO9 := hide (own_q HT5.out HR5.out (by decide) kb9); have HR9 := hide (own_qb HO5.out HR5.out (by decide) kb9); clear hk9 kb9)
      have hT := TX.of_own HO9.out
      rw [HDO.out] at hT
      have hR := HR9.out
      rw [HFO.out] at hR
      refine bodyPost_ret (results_dq rfl _ _ (w.heap.size + 1) _ _ _ rfl HK9.out (.slice CO O dO) rfl) rfl ?_
      rw [← HQO.out]
      exact ⟨⟨A1, n1, c1, CO, O, ⟨dO, rfl⟩, hT, (rb_of_own hR HFB.out).1⟩, HB9.out⟩

set_option maxRecDepth 100000 in
set_option maxHeartbeats 3200000 in
theorem rq_Drain (q : Qu) (A : Option Addr) (n c : Nat) (x : Int) (w : World) (hl : QL w q A n c) (hx : (Lit.int .i64 x).wf = true) :
    Calls Try.prog 12 #[.agg #[.slice A n c, .int .i64 q.m, .int .i64 q.g], .int .i64 x] w (GivesQB (drainQ q x) (drainB q x) w) := by
  have hxm : x ≤ 9223372036854775807 := by
    have h := hx
    simp [Lit.wf] at h
    omega
  by_cases hck : chkQ q = 0
  · by_cases hlow : x < 1
    · have hg : goesN q x = 0 := by unfold goesN; split <;> omega
      rw [show drainQ q x = q by unfold drainQ; rw [if_pos hg], show drainB q x = [] by unfold drainB; rw [hg]; rfl]
      exact rq_drain_low q A n c w hl x hck hlow
    · obtain ⟨N, rfl⟩ : ∃ N : Nat, x = (N : Int) := ⟨x.toNat, by omega⟩
      have hg : goesN q (N : Int) = min N (lenL q.ps) := by unfold goesN; rw [if_pos hck]; simp
      have h := rq_drain_go q A n c w hl N (by omega) hxm hck
      rw [← hg] at h
      by_cases h0 : goesN q (N : Int) = 0
      · have hnil : q.ps = [] := noneE_zero ((chk_ok q).1 hck).no (by omega)
        rw [show drainQ q (N : Int) = ⟨dropP (goesN q (N : Int)) q.ps, q.m, q.g + (goesN q (N : Int) : Nat)⟩ by
          unfold drainQ
          rw [if_pos h0, h0, hnil]
          obtain ⟨ps, m, g⟩ := q
          simp only at hnil
          subst hnil
          simp [dropP]]
        exact h
      · rw [show drainQ q (N : Int) = ⟨dropP (goesN q (N : Int)) q.ps, q.m, q.g + (goesN q (N : Int) : Nat)⟩ by unfold drainQ; rw [if_neg h0]]
        exact h
  · have hg : goesN q x = 0 := by unfold goesN; rw [if_neg hck]
    rw [show drainQ q x = q by unfold drainQ; rw [if_pos hg], show drainB q x = [] by unfold drainB; rw [hg]; rfl]
    exact rq_drain_bad q A n c w hl x hck
end Go.Proofs.Ytfcokhdkjoimmaa
