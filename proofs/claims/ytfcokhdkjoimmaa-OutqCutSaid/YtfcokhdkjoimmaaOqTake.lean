/-
  Layer 19: take, over a list that the call made.
-/
import Derived.Test.YtfcokhdkjoimmaaOqNew
import Derived.Test.YtfcokhdkjoimmaaOwnSet
import Derived.Lib.AppendStr
import Derived.Laws.CopyRow
import Derived.Deep.CutRange
namespace Go.Proofs.Ytfcokhdkjoimmaa
set_option linter.unusedSimpArgs false
set_option linter.unusedVariables false
open Go.RowKit

theorem strCells_bts (s : ByteArray) : Lib.strCells s = u8s (bts s) := by simp [Lib.strCells, u8s, bts]
theorem u8s_app (a b : List Int) : u8s (a ++ b) = u8s a ++ u8s b := by simp [u8s]
theorem str_info : (Try.prog.info? 9).map (fun i => (i.zero, i.size, i.bytes)) = some (some (.string ⟨#[]⟩), 1, 16) := by kernel_rfl
theorem str_zero (w : World) : (zeroValue 9).run Try.prog w = .ok (.string ⟨#[]⟩) w := run_zero_is (by kernel_rfl) w
/-- An empty row with room. -/
theorem own_room {w : World} {h N : Nat} (B : Nat) (hN : N ≤ 100000) (hk : BlkIs w h 5 (madeCells (Value.int .u8 0).cells N)) (hB : B ≤ h) : w.ownsRow B 5 1 (.slice (some ⟨h, 0, none⟩) 0 N) 0 (u8s []) :=
  ⟨rfl, .inr ⟨h, N, _, rfl, hB, hk, Nat.zero_le _, by unfold maxLen; omega, by simp [madeCells, Value.cells], by simp [u8s]⟩⟩
/-- clear of nothing. -/
theorem run_clear_none (w : World) (a : Option Addr) (c : Nat) (ty : TypeId) : (Builtin.clear_ #[22] ty #[.slice a 0 c]).run Try.prog w = .ok (.tuple #[]) w := by
  cases a <;> simp [Builtin.clear_, run_underlying Try.underlying22, str_zero, Builtin.zeroCells, storeCells]
theorem own_nil_some {w : World} {B n c g : Nat} {e : TypeId} {xs : List Value} (h : w.ownsRow B e 1 (.slice (some ⟨g, 0, none⟩) n c) n xs) : n ≤ c ∧ c ≤ 9223372036854775807 := by
  rcases h.2 with ⟨he, _⟩ | ⟨g', cap, cur, he, hb, hg, hn, hm, hs, ht⟩
  · cases he
  · injection he with e1 e2 e3
    subst e3
    exact ⟨hn, by unfold maxLen at hm; omega⟩
theorem dropP_rest {N i : Nat} {l : List ByteArray} (h1 : noneE l = true) (h2 : lenL (l.take i) = N) : dropP N l = l.drop i := by
  rw [dropP_skip i N l (by omega), h2, Nat.sub_self, dropP_zero]
  have := List.take_append_drop i l
  rw [← this] at h1
  exact ((noneE_app _ _).1 h1).2
theorem dropP_part {N i : Nat} {l : List ByteArray} {s : ByteArray} (h2 : lenL (l.take i) ≤ N) (hs : l[i]? = some s) (h3 : N - lenL (l.take i) < s.size) : dropP N l = (l.set i (s.extract (N - lenL (l.take i)) s.size)).drop i := by
  obtain ⟨hl, hv⟩ := List.getElem?_eq_some_iff.1 hs
  have h5 : (l.set i (s.extract (N - lenL (l.take i)) s.size)).drop i = s.extract (N - lenL (l.take i)) s.size :: l.drop (i + 1) := by
    rw [List.drop_eq_getElem_cons (l := l.set i _) (by rw [List.length_set]; exact hl), List.getElem_set_self, List.drop_set_of_lt (by omega)]
  rw [h5, dropP_skip i N l h2, List.drop_eq_getElem_cons hl, hv, dropP, if_neg (by omega)]
theorem flat_rest {N i : Nat} {l : List ByteArray} (h2 : lenL (l.take i) = N) : (flat l).take N = flat (l.take i) := by
  have h := flat_app (l.take i) (l.drop i)
  rw [List.take_append_drop] at h
  rw [h, ← h2, ← flat_len, List.take_left]
theorem flat_part {N i : Nat} {l : List ByteArray} {s : ByteArray} (h2 : lenL (l.take i) ≤ N) (hs : l[i]? = some s) (h3 : N - lenL (l.take i) < s.size) : (flat l).take N = flat (l.take i) ++ bts (s.extract 0 (N - lenL (l.take i))) := by
  have h := flat_app (l.take i) (l.drop i)
  rw [List.take_append_drop] at h
  obtain ⟨hl, hv⟩ := List.getElem?_eq_some_iff.1 hs
  rw [h, List.take_append, flat_len, List.take_of_length_le (by rw [flat_len]; omega), List.drop_eq_getElem_cons hl, hv, flat_cons, List.take_append, bts_len, show N - lenL (l.take i) - s.size = 0 by omega, List.take_zero, List.append_nil, bts_extract, List.drop_zero, Nat.sub_zero]

/-- The list that is slid to the front, and what stands behind it cleared. -/
def Slid (w : World) (B g n c : Nat) (l : List ByteArray) (i : Nat) (w' : World) : Prop := w'.ownsRow B 9 1 (.slice (some ⟨g, 0, none⟩) (n - i) c) (n - i) (tcs (l.drop i)) ∧ KB (· = g) w w'
theorem kb_setN {g : Nat} : ∀ (vs : List Value) (i : Nat) (a w : World), KB (· = g) a w → KB (· = g) a (w.setCells g i vs)
  | [], _, _, _, h => h
  | v :: r, i, a, w, h => kb_setN r (i + 1) a _ (h.setCell (fun _ => rfl) v)

/-- What take answers. -/
def GivesTake (B : Nat) (l : List ByteArray) (N : Nat) (w : World) (e : Ending) (w' : World) : Prop :=
  (∃ A n c C d, e = .returned (.tuple #[.slice A n c, .slice C N d]) ∧ w'.ownsRow B 9 1 (.slice A n c) n (tcs (dropP N l)) ∧ w'.ownsRow w.heap.size 5 1 (.slice C N d) N (u8s ((flat l).take N))) ∧ Below B w w'
set_option maxRecDepth 100000 in
set_option maxHeartbeats 3200000 in
theorem oq_take (g n c B N : Nat) (l : List ByteArray) (w : World) (ho : w.ownsRow B 9 1 (.slice (some ⟨g, 0, none⟩) n c) n (tcs l)) (hn : n ≤ 10000) (hN : 1 ≤ N) (hNl : N ≤ lenL l) (h65 : lenL l ≤ 65536) (hno : noneE l = true) :
    Calls Try.prog 23 #[.slice (some ⟨g, 0, none⟩) n c, .int .i64 (N : Int)] w (GivesTake B l N w) := by
  have HO := hide ho
  have HLN := hide (show l.length = n by have := ho.1; rw [tcs_len] at this; omega)
  have HNO := hide hno
  have HN1 := hide hN
  have HNL := hide hNl
  have HFW := hide hn
  have HLT := hide (own_lt ho)
  have HNC := hide (own_nil_some ho)
  have hN65 : N ≤ 65536 := by omega
  obtain ⟨i0, hi0, hz0, hz1, hz2⟩ := info_parts u8_info
  have hmk : ∀ w : World, (Instr.makeSlice 25 (.int .i64 0) (.int .i64 (N : Int))).run Try.prog w = .ok (.slice (some ⟨w.heap.size, 0, none⟩) 0 N) (w.alloc (.cells (madeCells (Value.int .u8 0).cells N) 5)) := fun w => by
    have h := run_make (P := Try.prog) w 25 5 i0 (.int .u8 0) Try.underlying25 hi0 hz0 .i64 .i64 0 (N : Int) (by omega) (by omega) (by rw [hz2]; omega) (by omega)
    rw [hz1, show ((N : Int).toNat * 1) = N by omega, show (N : Int).toNat = N by omega] at h
    exact h
  have HB0 := hide (bel1 w (.cells (madeCells (Value.int .u8 0).cells N) 5))
  have hz0' := hz0
  have hz1' := hz1
  have HBH := hide (show B ≤ w.heap.size from Nat.le_of_lt (Nat.lt_of_le_of_lt HLT.out.1 HLT.out.2))
  have HR0 := hide (own_room w.heap.size (by omega) (BlkIs.new w 5 (madeCells (Value.int .u8 0).cells N)) (Nat.le_refl _))
  clear ho hn hNl h65 hno
  go_enter Try.func23, Try.ntmps23
  go_wp2_with fail
  clear hmk hz0 hz1
  go_loopw [6, 7] (fun s6 s7 wr => ∃ i : Nat, i ≤ n ∧ s7 = .int .i64 (i : Int) ∧ lenL (l.take i) ≤ N ∧ Hid (wr.ownsRow w.heap.size 5 1 s6 (lenL (l.take i)) (u8s (flat (l.take i)))) ∧ Hid (Below w.heap.size w wr)) (fun _ s7 _ => n - (intOf s7).toNat)
  case atStart => exact ⟨0, by omega, rfl, by simp [lenL], HR0.out, HB0.out⟩
  case round =>
    obtain ⟨i, hi, rfl, hLi, HOB, HB⟩ := hrel
    obtain ⟨CB, dB, rfl⟩ := own_form HOB.out
    have HOW := hide (own_low HO.out HB.out)
    have HGW := hide HLT.out.2
    have hn1 : n ≤ 10000 := HFW.out
    by_cases hlt : i < n
    · have hlt' : (i : Int) < (n : Int) := by omega
      obtain ⟨s, hs⟩ : ∃ s, l[i]? = some s := ⟨_, List.getElem?_eq_getElem (by rw [HLN.out]; exact hlt)⟩
      have HS := hide hs
      have HLE := hide (lenL_get hs)
      have HNX := hide (lenL_next hs)
      have HFX := hide (flat_next hs)
      have c0 := HOW.out.cells (g := g) rfl i (.string s) (tcs_get hs)
      rw [Addr.add_lit, Nat.zero_add] at c0
      clear hs
      by_cases hz : s.size ≤ N - lenL (l.take i)
      · have hz1 : (s.size : Int) ≤ (N : Int) - (lenL (l.take i) : Int) := by omega
        have hz0 : (0 : Int) ≤ (s.size : Int) := by omega
        have HBS := hide HB.out.size
        clear hz
        go_wp2_with (at_builtin; refine Lib.wpList_append_own_string _ rfl (.tmp 28) (.tmp 32) 25 9 rfl w.heap.size 5 i0 Try.underlying25 Try.underlying9 hi0 hz0' hz1' hz2 _ _ _ rfl HOB.out s rfl (by unfold maxLen; omega) (by omega) HBS.out ?_; intro v1 w1 hown1 hg1 _; have HO1 := hide hown1; have HG1 := hide hg1; clear hown1 hg1)
        go_roundw
        case rel => exact ⟨i + 1, by omega, by go_num, by rw [HNX.out]; omega, by rw [HNX.out, HFX.out, u8s_app, ← strCells_bts]; exact HO1.out, own_bel HOB.out HB.out (Nat.le_refl _) (Nat.le_refl _) HG1.out⟩
        case measure => simp [intOf]; omega
      · have hz1 : (N : Int) - (lenL (l.take i) : Int) < (s.size : Int) := by omega
        have hz2' : ¬ (s.size : Int) ≤ (N : Int) - (lenL (l.take i) : Int) := by omega
        by_cases hLN : lenL (l.take i) = N
        · have hr0 : (N : Int) - (lenL (l.take i) : Int) = 0 := by omega
          have hi0 : 0 < i := by
            rcases Nat.eq_zero_or_pos i with rfl | h
            · simp only [List.take_zero, lenL] at hLN; omega
            · exact h
          clear hz
          have HL2 := hide HOW.out
          have hl2 := HLN.out
          have HFD := hide (show dropP N l = l.drop i from dropP_rest HNO.out hLN)
          have HOZ := hide (show wr.ownsRow w.heap.size 5 1 (.slice CB N dB) N (u8s ((flat l).take N)) by rw [flat_rest hLN]; have h := HOB.out; rw [hLN] at h; exact h)
          have HBZ := hide (HB.out.mono HBH.out)
          rw [hLN] at hr0 ⊢
          have hs0 : 0 < s.size := by omega
          have hs1 : ¬ s.size = 0 := by omega
          have hs2 : ¬ (s.size : Int) ≤ 0 := by omega
          have hs3 : ¬ s = ByteArray.empty := fun e => hs1 (by rw [e]; rfl)
          clear hz1 hz2'
          obtain ⟨K, hK⟩ : ∃ K, K = n - i := ⟨_, rfl⟩
          have hKn : K ≤ n := by omega
          have hVL : (tcs (l.drop i)).length = K := by rw [tcs_len, List.length_drop, hl2]; omega
          have hnc := HNC.out
          obtain ⟨ys, hy, hy1, hy2⟩ := own_puts (tcs (l.drop i)) 0 wr (tcs l) HL2.out (by rw [hVL]; omega)
          have kb1 := kb_setN (g := g) (tcs (l.drop i)) 0 wr wr (KB.refl _ _)
          have hcp : ∀ ty, (Builtin.copy_ #[22, 22] ty #[.slice (some ⟨g, 0, none⟩) n c, .slice (some ⟨g, i, none⟩) (n - i) (c - i)]).run Try.prog wr = .ok (.int .i64 (K : Int)) (wr.setCells g 0 (tcs (l.drop i))) := fun ty => by
            have h := run_copy_cells (P := Try.prog) wr 22 22 ty 9 g 0 n c ⟨g, i, none⟩ (n - i) (c - i) (tcs (l.drop i)) Try.underlying22 (by kernel_rfl) (by rw [hVL]; show K = min (n - i) n; omega) (fun j v hj => by
                have h2 := HL2.out.cells (g := g) rfl (i + j) v (by
                  rw [tcs, List.getElem?_map, List.getElem?_drop] at hj
                  rw [tcs, List.getElem?_map]; exact hj)
                rw [Addr.add_lit] at h2 ⊢
                rw [← h2]; congr 2; omega) (fun j hj => by
                have hjn : j < l.length := by rw [hVL] at hj; omega
                have h2 := HL2.out.cells (g := g) rfl j (.string l[j]) (by simp [tcs, hjn])
                rw [Addr.add_lit] at h2
                rw [h2]; rfl) (fun j hj => own_frozen HL2.out (0 + j)) (tcs_one _)
            rw [hVL] at h
            exact h
          generalize wr.setCells g 0 (tcs (l.drop i)) = w10 at hcp hy kb1
          have hyl : ys.length = n := by have := hy.1; omega
          obtain ⟨zs, hz, hz1, -⟩ := own_puts (List.replicate (n - K) (.string ⟨#[]⟩)) K w10 ys hy (by rw [List.length_replicate]; omega)
          have kb2 := kb_setN (g := g) (List.replicate (n - K) (.string ⟨#[]⟩)) K w10 w10 (KB.refl _ _)
          have hcl : ∀ ty, (Builtin.clear_ #[22] ty #[.slice (some ⟨g, K, none⟩) (n - K) (c - K)]).run Try.prog w10 = .ok (.tuple #[]) (w10.setCells g K (List.replicate (n - K) (.string ⟨#[]⟩))) := fun ty => by
            have h := Lib.run_clear_slice w10 _ _ ty _ Try.underlying22 str_zero rfl rfl g K (n - K) (c - K) (by omega) (fun t ht => by
                have h2 := hy.cells (g := g) rfl (K + t) (ys[K + t]'(by omega)) (List.getElem?_eq_getElem _)
                rw [Addr.add_lit, Nat.zero_add] at h2
                rw [h2]; rfl) (fun t ht => own_frozen hy (K + t))
            exact h
          generalize w10.setCells g K (List.replicate (n - K) (.string ⟨#[]⟩)) = w11 at hcl hz kb2
          have HFIN := hide (show w11.ownsRow B 9 1 (.slice (some ⟨g, 0, none⟩) K c) K (tcs (dropP N l)) by
            have h := own_cut hz hKn
            rw [hz1] at h
            have hv := hVL
            try simp only [List.drop_zero] at hv
            simp only [List.drop_zero] at hy2
            rw [hv] at hy2
            rw [hy2] at h
            rw [HFD.out]
            first | exact h | (rw [List.drop_zero]; exact h))
          have HBF := hide (own_kb HOZ.out (kb1.trans kb2) (fun k h1 h2 => by subst h2; have := HGW.out; omega))
          have HBB := hide (below_kbq HBZ.out (kb1.trans kb2) HBH.out HLT.out.1)
          have hin' : (i : Int) ≤ (n : Int) := by omega
          have hic' : (i : Int) ≤ (c : Int) := by omega
          have hnc' : (n : Int) ≤ (c : Int) := by omega
          have hKn' : (K : Int) ≤ (n : Int) := by omega
          have hKc' : (K : Int) ≤ (c : Int) := by omega
          have hci : ¬ c = i := by omega
          have hcK : ¬ c = K := by omega
          have hcmx : (c : Int) ≤ 9223372036854775807 := by omega
          clear hy hz hy2 hz1 kb1 kb2 hVL hyl HL2 HOZ hK
          go_wp2
          go_ret2
          exact ⟨⟨_, _, c, CB, dB, rfl, HFIN.out, HBF.out⟩, HBB.out⟩
        · obtain ⟨R, hR⟩ : ∃ R, R = N - lenL (l.take i) := ⟨_, rfl⟩
          have hRi : (N : Int) - (lenL (l.take i) : Int) = (R : Int) := by omega
          have hR1 : (0 : Int) < (R : Int) := by omega
          have hR2 : (R : Int) ≤ (s.size : Int) := by omega
          have hz0 : (0 : Int) ≤ (s.size : Int) := by omega
          have HBS := hide HB.out.size
          have HFP := hide (show (flat l).take N = flat (l.take i) ++ bts (s.extract 0 R) by rw [hR]; exact flat_part hLi HS.out (by omega))
          have HDP := hide (show dropP N l = (l.set i (s.extract R s.size)).drop i by rw [hR]; exact dropP_part hLi HS.out (by omega))
          have HLR := hide (show lenL (l.take i) + (s.extract 0 R).size = N by
            rw [← bts_len, bts_extract, List.drop_zero, List.length_take, bts_len]; omega)
          have HR65 := hide (show (s.extract 0 R).size ≤ 65536 by have := HLR.out; omega)
          clear hz hR
          go_upto_region 10 with (at_builtin; refine Lib.wpList_append_own_string _ rfl (.tmp 42) (.tmp 48) 25 9 rfl w.heap.size 5 i0 Try.underlying25 Try.underlying9 hi0 hz0' hz1' hz2 _ _ _ rfl HOB.out (s.extract 0 R) rfl (by have := HR65.out; unfold maxLen; omega) (by have := HR65.out; omega) HBS.out ?_; intro v1 w1 hown1 hg1 _; have HB1 := hide (own_bel HOB.out HB.out (Nat.le_refl _) (Nat.le_refl _) hg1); have HOW1 := hide (own_low HO.out HB1.out); have c1 := HOW1.out.cells (g := g) rfl i (.string s) (tcs_get HS.out); rw [Addr.add_lit, Nat.zero_add] at c1; have f1 := own_frozen HOW1.out i; rw [HLR.out] at hown1; obtain ⟨CB1, dB1, rfl⟩ := own_form hown1; have HO1 := hide hown1; clear hown1 hg1 c0)
          have HBZ := hide (HB1.out.mono HBH.out)
          obtain ⟨X, hX⟩ : ∃ X, X = s.extract R s.size := ⟨_, rfl⟩
          obtain ⟨l2, hl2e⟩ : ∃ l2, l2 = l.set i X := ⟨_, rfl⟩
          have hl2 : l2.length = n := by rw [hl2e, List.length_set]; exact HLN.out
          have HFD := hide (show dropP N l = l2.drop i by rw [HDP.out, hl2e, hX])
          have HL2 := hide (show (w1.setCell ⟨g, i, none⟩ (.string X)).ownsRow B 9 1 (.slice (some ⟨g, 0, none⟩) n c) n (tcs l2) by
            have h := own_set HOW1.out i hlt (.string X)
            rw [show (tcs l).set i (.string X) = tcs l2 by rw [hl2e, tcs, tcs, List.map_set]] at h
            exact h)
          have HKB := (KB.refl (· = g) w1).setCell (p := ⟨g, i, none⟩) (fun _ => rfl) (.string X)
          have HOZ := hide (show (w1.setCell ⟨g, i, none⟩ (.string X)).ownsRow w.heap.size 5 1 (.slice CB1 N dB1) N (u8s ((flat l).take N)) by
            rw [HFP.out, u8s_app, ← strCells_bts]
            exact own_kb HO1.out HKB (fun k h1 h2 => by subst h2; have := HGW.out; omega))
          have HBZ := hide (below_kbq (HB1.out.mono HBH.out) HKB HBH.out HLT.out.1)
          rw [← hX]
          generalize w1.setCell ⟨g, i, none⟩ (.string X) = wz at HL2 HKB HOZ HBZ ⊢
          clear hX hl2e HKB c1 f1 HO1 HB1 HOW1
          by_cases hi0 : 0 < i
          · obtain ⟨K, hK⟩ : ∃ K, K = n - i := ⟨_, rfl⟩
            have hKn : K ≤ n := by omega
            have hVL : (tcs (l2.drop i)).length = K := by rw [tcs_len, List.length_drop, hl2]; omega
            have hnc := HNC.out
            obtain ⟨ys, hy, hy1, hy2⟩ := own_puts (tcs (l2.drop i)) 0 wz (tcs l2) HL2.out (by rw [hVL]; omega)
            have kb1 := kb_setN (g := g) (tcs (l2.drop i)) 0 wz wz (KB.refl _ _)
            have hcp : ∀ ty, (Builtin.copy_ #[22, 22] ty #[.slice (some ⟨g, 0, none⟩) n c, .slice (some ⟨g, i, none⟩) (n - i) (c - i)]).run Try.prog wz = .ok (.int .i64 (K : Int)) (wz.setCells g 0 (tcs (l2.drop i))) := fun ty => by
              have h := run_copy_cells (P := Try.prog) wz 22 22 ty 9 g 0 n c ⟨g, i, none⟩ (n - i) (c - i) (tcs (l2.drop i)) Try.underlying22 (by kernel_rfl) (by rw [hVL]; show K = min (n - i) n; omega) (fun j v hj => by
                  have h2 := HL2.out.cells (g := g) rfl (i + j) v (by
                    rw [tcs, List.getElem?_map, List.getElem?_drop] at hj
                    rw [tcs, List.getElem?_map]; exact hj)
                  rw [Addr.add_lit] at h2 ⊢
                  rw [← h2]; congr 2; omega) (fun j hj => by
                  have hjn : j < l2.length := by rw [hVL] at hj; omega
                  have h2 := HL2.out.cells (g := g) rfl j (.string l2[j]) (by simp [tcs, hjn])
                  rw [Addr.add_lit] at h2
                  rw [h2]; rfl) (fun j hj => own_frozen HL2.out (0 + j)) (tcs_one _)
              rw [hVL] at h
              exact h
            generalize wz.setCells g 0 (tcs (l2.drop i)) = w10 at hcp hy kb1
            have hyl : ys.length = n := by have := hy.1; omega
            obtain ⟨zs, hz, hz1, -⟩ := own_puts (List.replicate (n - K) (.string ⟨#[]⟩)) K w10 ys hy (by rw [List.length_replicate]; omega)
            have kb2 := kb_setN (g := g) (List.replicate (n - K) (.string ⟨#[]⟩)) K w10 w10 (KB.refl _ _)
            have hcl : ∀ ty, (Builtin.clear_ #[22] ty #[.slice (some ⟨g, K, none⟩) (n - K) (c - K)]).run Try.prog w10 = .ok (.tuple #[]) (w10.setCells g K (List.replicate (n - K) (.string ⟨#[]⟩))) := fun ty => by
              have h := Lib.run_clear_slice w10 _ _ ty _ Try.underlying22 str_zero rfl rfl g K (n - K) (c - K) (by omega) (fun t ht => by
                  have h2 := hy.cells (g := g) rfl (K + t) (ys[K + t]'(by omega)) (List.getElem?_eq_getElem _)
                  rw [Addr.add_lit, Nat.zero_add] at h2
                  rw [h2]; rfl) (fun t ht => own_frozen hy (K + t))
              exact h
            generalize w10.setCells g K (List.replicate (n - K) (.string ⟨#[]⟩)) = w11 at hcl hz kb2
            have HFIN := hide (show w11.ownsRow B 9 1 (.slice (some ⟨g, 0, none⟩) K c) K (tcs (dropP N l)) by
              have h := own_cut hz hKn
              rw [hz1] at h
              have hv := hVL
              try simp only [List.drop_zero] at hv
              simp only [List.drop_zero] at hy2
              rw [hv] at hy2
              rw [hy2] at h
              rw [HFD.out]
              first | exact h | (rw [List.drop_zero]; exact h))
            have HBF := hide (own_kb HOZ.out (kb1.trans kb2) (fun k h1 h2 => by subst h2; have := HGW.out; omega))
            have HBB := hide (below_kbq HBZ.out (kb1.trans kb2) HBH.out HLT.out.1)
            have hin' : (i : Int) ≤ (n : Int) := by omega
            have hic' : (i : Int) ≤ (c : Int) := by omega
            have hnc' : (n : Int) ≤ (c : Int) := by omega
            have hKn' : (K : Int) ≤ (n : Int) := by omega
            have hKc' : (K : Int) ≤ (c : Int) := by omega
            have hci : ¬ c = i := by omega
            have hcK : ¬ c = K := by omega
            have hcmx : (c : Int) ≤ 9223372036854775807 := by omega
            clear hy hz hy2 hz1 kb1 kb2 hVL hyl HL2 HOZ hK
            go_wp2
            go_ret2
            exact ⟨⟨_, _, c, CB1, dB1, rfl, HFIN.out, HBF.out⟩, HBB.out⟩
          · obtain rfl : i = 0 := by omega
            obtain ⟨K, hK⟩ : ∃ K, K = n - 0 := ⟨_, rfl⟩
            have hKn : K ≤ n := by omega
            have hVL : (tcs (l2.drop 0)).length = K := by rw [tcs_len, List.length_drop, hl2]; omega
            have hnc := HNC.out
            obtain ⟨ys, hy, hy1, hy2⟩ := own_puts (tcs (l2.drop 0)) 0 wz (tcs l2) HL2.out (by rw [hVL]; omega)
            have kb1 := kb_setN (g := g) (tcs (l2.drop 0)) 0 wz wz (KB.refl _ _)
            have hcp : ∀ ty, (Builtin.copy_ #[22, 22] ty #[.slice (some ⟨g, 0, none⟩) n c, .slice (some ⟨g, 0, none⟩) n c]).run Try.prog wz = .ok (.int .i64 (K : Int)) (wz.setCells g 0 (tcs (l2.drop 0))) := fun ty => by
              have h := run_copy_cells (P := Try.prog) wz 22 22 ty 9 g 0 n c ⟨g, 0, none⟩ n c (tcs (l2.drop 0)) Try.underlying22 (by kernel_rfl) (by rw [hVL]; show K = min n n; omega) (fun j v hj => by
                  have h2 := HL2.out.cells (g := g) rfl (0 + j) v (by
                    rw [tcs, List.getElem?_map, List.getElem?_drop] at hj
                    rw [tcs, List.getElem?_map]; exact hj)
                  rw [Addr.add_lit] at h2 ⊢
                  rw [← h2]; congr 2; omega) (fun j hj => by
                  have hjn : j < l2.length := by rw [hVL] at hj; omega
                  have h2 := HL2.out.cells (g := g) rfl j (.string l2[j]) (by simp [tcs, hjn])
                  rw [Addr.add_lit] at h2
                  rw [h2]; rfl) (fun j hj => own_frozen HL2.out (0 + j)) (tcs_one _)
              rw [hVL] at h
              exact h
            generalize wz.setCells g 0 (tcs (l2.drop 0)) = w10 at hcp hy kb1
            have hyl : ys.length = n := by have := hy.1; omega
            obtain ⟨zs, hz, hz1, -⟩ := own_puts (List.replicate (n - K) (.string ⟨#[]⟩)) K w10 ys hy (by rw [List.length_replicate]; omega)
            have kb2 := kb_setN (g := g) (List.replicate (n - K) (.string ⟨#[]⟩)) K w10 w10 (KB.refl _ _)
            have hcl : ∀ a d ty, (Builtin.clear_ #[22] ty #[.slice a 0 d]).run Try.prog w10 = .ok (.tuple #[]) (w10.setCells g K (List.replicate (n - K) (.string ⟨#[]⟩))) := fun a d ty => by
              rw [show n - K = 0 by omega]
              exact run_clear_none w10 a d ty
            generalize w10.setCells g K (List.replicate (n - K) (.string ⟨#[]⟩)) = w11 at hcl hz kb2
            have HFIN := hide (show w11.ownsRow B 9 1 (.slice (some ⟨g, 0, none⟩) K c) K (tcs (dropP N l)) by
              have h := own_cut hz hKn
              rw [hz1] at h
              have hv := hVL
              try simp only [List.drop_zero] at hv
              simp only [List.drop_zero] at hy2
              rw [hv] at hy2
              rw [hy2] at h
              rw [HFD.out]
              first | exact h | (rw [List.drop_zero]; exact h))
            have HBF := hide (own_kb HOZ.out (kb1.trans kb2) (fun k h1 h2 => by subst h2; have := HGW.out; omega))
            have HBB := hide (below_kbq HBZ.out (kb1.trans kb2) HBH.out HLT.out.1)
            obtain rfl : K = n := by omega
            have hnc' : (K : Int) ≤ (c : Int) := by omega
            have hcz : ¬ c = 0 := by omega
            have hcmx : (c : Int) ≤ 9223372036854775807 := by omega
            clear hy hz hy2 hz1 kb1 kb2 hVL hyl HL2 HOZ hK
            by_cases hcn : c = K
            · obtain rfl := hcn
              go_wp2
              go_ret2
              exact ⟨⟨_, _, c, CB1, dB1, rfl, HFIN.out, HBF.out⟩, HBB.out⟩
            · go_wp2
              go_ret2
              exact ⟨⟨_, _, c, CB1, dB1, rfl, HFIN.out, HBF.out⟩, HBB.out⟩
    · obtain rfl : n = i := by omega
      have hge : ¬ (n : Int) < (n : Int) := by omega
      have hLN : lenL (l.take n) = N := by
        have h := hLi
        rw [List.take_of_length_le (by rw [HLN.out]; exact Nat.le_refl _)] at h ⊢
        have := HNL.out
        omega
      have hr0 : (N : Int) - (lenL (l.take n) : Int) = 0 := by omega
      have HL2 := hide HOW.out
      have hl2 := HLN.out
      have HFD := hide (show dropP N l = l.drop n from dropP_rest HNO.out hLN)
      have HOZ := hide (show wr.ownsRow w.heap.size 5 1 (.slice CB N dB) N (u8s ((flat l).take N)) by rw [flat_rest hLN]; have h := HOB.out; rw [hLN] at h; exact h)
      have HBZ := hide (HB.out.mono HBH.out)
      rw [hLN] at hr0 ⊢
      obtain ⟨K, hK⟩ : ∃ K, K = n - n := ⟨_, rfl⟩
      have hKn : K ≤ n := by omega
      have hVL : (tcs (l.drop n)).length = K := by rw [tcs_len, List.length_drop, hl2]; omega
      have hnc := HNC.out
      have hn0 : 0 < n := by
        rcases Nat.eq_zero_or_pos n with h | h
        · exfalso
          have h1 := HNL.out
          rw [List.eq_nil_of_length_eq_zero (show l.length = 0 by omega)] at h1
          simp only [lenL] at h1
          omega
        · exact h
      obtain ⟨w10, hw10⟩ : ∃ w10, w10 = wr := ⟨_, rfl⟩
      have hcp : ∀ a d ty, (Builtin.copy_ #[22, 22] ty #[.slice (some ⟨g, 0, none⟩) n c, .slice a 0 d]).run Try.prog wr = .ok (.int .i64 0) w10 := fun a d ty => by
        rw [hw10]
        exact run_copy_none (P := Try.prog) wr 22 22 ty 9 _ _ _ _ _ _ Try.underlying22 (by kernel_rfl) (Nat.zero_min _)
      have kb1 : KB (· = g) wr w10 := by rw [hw10]; exact KB.refl _ _
      obtain ⟨ys, hy, hy2⟩ : ∃ ys, w10.ownsRow B 9 1 (.slice (some ⟨g, 0, none⟩) n c) n ys ∧ (ys.drop 0).take (tcs (l.drop n)).length = tcs (l.drop n) := ⟨_, by rw [hw10]; exact HL2.out, by rw [hVL, List.eq_nil_of_length_eq_zero (l := tcs (l.drop n)) (by rw [hVL]; omega), show K = 0 by omega]; rfl⟩
      clear hw10
      have hyl : ys.length = n := by have := hy.1; omega
      obtain ⟨zs, hz, hz1, -⟩ := own_puts (List.replicate (n - K) (.string ⟨#[]⟩)) K w10 ys hy (by rw [List.length_replicate]; omega)
      have kb2 := kb_setN (g := g) (List.replicate (n - K) (.string ⟨#[]⟩)) K w10 w10 (KB.refl _ _)
      have hcl : ∀ ty, (Builtin.clear_ #[22] ty #[.slice (some ⟨g, 0, none⟩) n c]).run Try.prog w10 = .ok (.tuple #[]) (w10.setCells g K (List.replicate (n - K) (.string ⟨#[]⟩))) := fun ty => by
        have h := Lib.run_clear_slice w10 _ _ ty _ Try.underlying22 str_zero rfl rfl g K (n - K) (c - K) (by omega) (fun t ht => by
            have h2 := hy.cells (g := g) rfl (K + t) (ys[K + t]'(by omega)) (List.getElem?_eq_getElem _)
            rw [Addr.add_lit, Nat.zero_add] at h2
            rw [h2]; rfl) (fun t ht => own_frozen hy (K + t))
        rw [show K = 0 by omega] at h ⊢
        exact h
      generalize w10.setCells g K (List.replicate (n - K) (.string ⟨#[]⟩)) = w11 at hcl hz kb2
      have HFIN := hide (show w11.ownsRow B 9 1 (.slice (some ⟨g, 0, none⟩) K c) K (tcs (dropP N l)) by
        have h := own_cut hz hKn
        rw [hz1] at h
        have hv := hVL
        try simp only [List.drop_zero] at hv
        simp only [List.drop_zero] at hy2
        rw [hv] at hy2
        rw [hy2] at h
        rw [HFD.out]
        first | exact h | (rw [List.drop_zero]; exact h))
      have HBF := hide (own_kb HOZ.out (kb1.trans kb2) (fun k h1 h2 => by subst h2; have := HGW.out; omega))
      have HBB := hide (below_kbq HBZ.out (kb1.trans kb2) HBH.out HLT.out.1)
      obtain rfl : K = 0 := by omega
      have hnc' : (n : Int) ≤ (c : Int) := by omega
      have hcz : ¬ c = 0 := by omega
      have hcmx : (c : Int) ≤ 9223372036854775807 := by omega
      clear hy hz hy2 hz1 kb1 kb2 hVL hyl HL2 HOZ hK
      by_cases hcn : c = n
      · obtain rfl := hcn
        go_wp2
        go_ret2
        exact ⟨⟨_, _, c, CB, dB, rfl, HFIN.out, HBF.out⟩, HBB.out⟩
      · go_wp2
        go_ret2
        exact ⟨⟨_, _, c, CB, dB, rfl, HFIN.out, HBF.out⟩, HBB.out⟩end Go.Proofs.Ytfcokhdkjoimmaa
