/-
  Layer 17: strings.ContainsAny of a text and three small bytes; a text's runes and its bytes.
-/
import Derived.Test.YtlbhnbloanamfaaDoorRqRune
import Derived.Test.YtlbhnbloanamfaaDoorLbAny
namespace Go.Proofs.YtlbhnbloanamfaaDoor
set_option linter.unusedSimpArgs false
set_option linter.unusedVariables false
open Go.RowKit

theorem get_bts (s : ByteArray) (j : Nat) : (((s.get! j).toNat : Nat) : Int) = (bts s).getD j 0 := by
  obtain ⟨l, rfl⟩ := ba_mk s
  rw [bts_mk]
  by_cases h : j < l.length
  · simp [ByteArray.get!, List.getD, h]
  · simp [ByteArray.get!, List.getD, h]
    rfl

/-- What a rune that is no small one has of bytes. -/
structure BigAt (s : ByteArray) (i : Nat) (c n : Nat) : Prop where
  val : 128 ≤ c
  ok : Utf8.valid (c : Int) = true
  pos : 1 ≤ n
  all : ∀ j, j < n → 128 ≤ (bts s).getD (i + j) 0
theorem decode_big (s : ByteArray) (i : Nat) (hb : 128 ≤ (bts s).getD i 0) : BigAt s i (Utf8.decode s i).1 (Utf8.decode s i).2 := by
  have g0 := get_bts s (i + 0)
  have g1 := get_bts s (i + 1)
  have g2 := get_bts s (i + 2)
  have g3 := get_bts s (i + 3)
  rw [Nat.add_zero] at g0
  have err : BigAt s i Utf8.runeError 1 := ⟨by decide, by decide, Nat.le_refl _, fun j hj => by
    obtain rfl : j = 0 := by omega
    exact hb⟩
  unfold Utf8.decode
  simp only [Nat.add_zero]
  split
  · omega
  · split
    · rename_i h1 h2
      simp only [Bool.and_eq_true, beq_iff_eq, decide_eq_true_eq] at h2
      split
      · rename_i h3
        refine ⟨h3, ?_, by simp, fun j hj => ?_⟩
        · unfold Utf8.valid
          simp only [Bool.or_eq_true, Bool.and_eq_true, decide_eq_true_eq]
          left
          have : (s.get! i).toNat % 32 < 32 := Nat.mod_lt _ (by decide)
          have : (s.get! (i + 1)).toNat % 64 < 64 := Nat.mod_lt _ (by decide)
          omega
        · have hj' : j = 0 ∨ j = 1 := by omega
          rcases hj' with rfl | rfl
          · exact hb
          · omega
      · exact err
    · split
      · rename_i h1 h2 h3
        simp only [Bool.and_eq_true, beq_iff_eq, decide_eq_true_eq] at h3
        split
        · rename_i h4
          simp only [Bool.and_eq_true, decide_eq_true_eq, ge_iff_le] at h4
          refine ⟨by omega, h4.2, by simp, fun j hj => ?_⟩
          have hj' : j = 0 ∨ j = 1 ∨ j = 2 := by omega
          rcases hj' with rfl | rfl | rfl
          · exact hb
          · omega
          · omega
        · exact err
      · split
        · rename_i h1 h2 h3 h4
          simp only [Bool.and_eq_true, beq_iff_eq, decide_eq_true_eq] at h4
          split
          · rename_i h5
            simp only [Bool.and_eq_true, decide_eq_true_eq, ge_iff_le] at h5
            refine ⟨by omega, h5.2, by simp, fun j hj => ?_⟩
            have hj' : j = 0 ∨ j = 1 ∨ j = 2 ∨ j = 3 := by omega
            rcases hj' with rfl | rfl | rfl | rfl
            · exact hb
            · omega
            · omega
            · omega
          · exact err
        · exact err

def goodV (z : Int) : Bool := !badV z
theorem goodV_big {z : Int} (h : 128 ≤ z) : goodV z = true := by
  unfold goodV badV
  rw [decide_eq_false (by omega), decide_eq_false (by omega), decide_eq_false (by omega)]
  rfl
theorem AllTo.add {p : Int → Bool} {l : List Int} {k n : Nat} (h : AllTo p l k) (hn : ∀ j, j < n → p (l.getD (k + j) 0) = true) : AllTo p l (k + n) := fun j hj hl => by
  by_cases e : j < k
  · exact h j e hl
  · have := hn (j - k) (by omega)
    rwa [show k + (j - k) = j by omega] at this

theorem bad_fin : ∀ c : Fin 128, decide (0 ≤ Lib.indexByte nl3.data.toList ((c.val : Int)).toNat.toUInt8) = badV (c.val : Int) := by decide +kernel
theorem bad_is {z : Int} (h0 : 0 ≤ z) (h1 : z < 128) : decide (0 ≤ Lib.indexByte nl3.data.toList z.toNat.toUInt8) = badV z := by
  have := bad_fin ⟨z.toNat, by omega⟩
  simp only [Int.toNat_of_nonneg h0] at this
  exact this

/-- A call to IndexRune of the three bytes at any rune of a text. -/
theorem rq_rune (r : Int) (h : (0 ≤ r ∧ r < 128) ∨ (128 ≤ r ∧ Utf8.valid r = true)) (w : World) :
    Calls Tryd.prog 84 #[.string nl3, .int .i32 r] w fun e w' => ∃ q : Int, e = .returned (.int .i64 q) ∧ decide (0 ≤ q) = (decide (r < 128) && badV r) ∧ Below w.heap.size w w' := by
  rcases h with ⟨h0, h1⟩ | ⟨h0, h1⟩
  · refine (lb_IndexRune nl3 r w h0 h1).mono fun e w' hh => ⟨_, hh.1, ?_, hh.2 ▸ Below.refl _ _⟩
    rw [bad_is h0 h1, decide_eq_true h1]
    rfl
  · have e1 : (decide (r < 128) && badV r) = false := by rw [decide_eq_false (by omega)]; rfl
    by_cases he : r = 65533
    · subst he
      exact (rq_rune_err w).mono fun e w' hh => ⟨-1, hh.1, by rw [e1]; rfl, hh.2⟩
    · exact (rq_rune_big r h0 h1 he w).mono fun e w' hh => ⟨-1, hh.1, by rw [e1]; rfl, hh.2⟩

/-- What IndexAny answers. -/
def AnyIs (s : ByteArray) (w : World) (e : Ending) (w' : World) : Prop := ∃ r : Int, e = .returned (.int .i64 r) ∧ decide (0 ≤ r) = !(bts s).all goodV ∧ Below w.heap.size w w'

theorem rq_should (n : Int) (w : World) : Calls Tryd.prog 85 #[.int .i64 n] w fun e w' => e = .returned (.bool (decide (8 < n))) ∧ w = w' := by
  go_enter Tryd.func85, Tryd.ntmps85
  go_wp2
  go_ret
  exact ⟨rfl, rfl⟩

set_option maxRecDepth 100000 in
set_option maxHeartbeats 3200000 in
theorem rq_any_short (s : ByteArray) (h8 : (s.size : Int) ≤ 8) (w : World) :
    Calls Tryd.prog 68 #[.string s, .string nl3] w (AnyIs s w) := by
  have he : nl3.toList.isEmpty = false := by rw [is_empty]; rfl
  have hn1 : (((nl3.size : Nat) : Int) == 1) = false := by decide
  have h8' : decide ((8 : Int) < (s.size : Int)) = false := decide_eq_false (by omega)
  have HL := hide (bts_len s)
  go_enter Tryd.func68, Tryd.ntmps68
  go_wp2_with (go_at_call 85; refine (rq_should _ _).mono ?_; rintro e w2 ⟨rfl, rfl⟩)
  clear he hn1 h8'
  obtain ⟨k, hk⟩ : ∃ k, k = w.heap.size := ⟨_, rfl⟩
  rw [← hk]
  have HK := hide hk
  have HW0 := hide (World.iter_heap w s 0)
  rw [← hk] at HW0
  clear hk
  go_loopg [9, 10] s.size (fun g _ _ wx => ∃ i : Nat, Hid (i ≤ s.size ∧ s.size ≤ i + g) ∧ Hid (wx.heap[k]? = some (.stringIter s i)) ∧ Hid (AllTo goodV (bts s) i) ∧ Hid (Below w.heap.size w wx))
  case atStart => exact ⟨0, ⟨by omega, by omega⟩, HW0.out, .zero _ _, (Below.refl _ _).alloc (Nat.le_refl _) _⟩
  case round =>
    obtain ⟨i, HG, HW, HN, HB⟩ := hrel
    by_cases hlt : i < s.size
    · obtain ⟨g, rfl⟩ : ∃ g, gk = g + 1 := ⟨gk - 1, by have := HG.out; omega⟩
      have HZ := hide (bts_get s i hlt)
      have hbd := (bts_all s).getD i
      by_cases hb : (bts s).getD i 0 < 128
      · obtain ⟨z, hz⟩ : ∃ z, z = ((s[i].toNat : Nat) : Int) := ⟨_, rfl⟩
        rw [← hz] at HZ
        rw [HZ.out] at hb hbd
        have hnx := fun ty => Lib.run_next_ascii_at (P := Tryd.prog) wr k s i ty HW.out hlt (by omega)
        rw [← hz] at hnx
        obtain ⟨wn, hwn⟩ : ∃ wn, wn = wr.iterAt k s (i + 1) := ⟨_, rfl⟩
        have HW2 := hide (Lib.iterAt_heap wr k s i (i + 1) HW.out)
        have HB2 := hide (Lib.below_iterAt HB.out (by rw [HK.out]; exact Nat.le_refl _) s (i + 1) (k := k))
        rw [← hwn] at hnx HW2 HB2
        have HC := hide (fun w => rq_rune z (.inl ⟨hbd.1, hb⟩) w)
        rw [decide_eq_true hb] at HC
        clear hz hwn
        obtain ⟨v, hv⟩ : ∃ v, v = badV z := ⟨_, rfl⟩
        have HV := hide hv
        rw [← hv] at HC
        clear hv hbd
        go_wp2_with fail
        refine (HC.out _).mono ?_
        rintro e w3 ⟨q, rfl, hq, hb3⟩
        have HQ := hide hq
        have HW3 := hide (show w3.heap[k]? = some (.stringIter s (i + 1)) from (hb3.block k (Array.getElem?_eq_some_iff.1 HW2.out).1).trans HW2.out)
        have HB3 := hide (HB2.out.trans (hb3.mono HB2.out.size))
        clear hq hb3
        by_cases hq0 : 0 ≤ q
        · have HT := hide (show badV z = true by
            have := HQ.out
            rw [decide_eq_true hq0] at this
            rw [← HV.out]
            simpa using this.symm)
          go_wp2_with fail
          go_ret
          refine ⟨(i : Int), rfl, ?_, HB3.out⟩
          rw [all_no (p := goodV) (by rw [HL.out]; exact hlt) (by rw [HZ.out]; unfold goodV; rw [HT.out]; rfl)]
          simp
        · have HT := hide (show badV z = false by
            have := HQ.out
            rw [decide_eq_false hq0] at this
            rw [← HV.out]
            simpa using this.symm)
          go_wp2_with fail
          go_roundg g
          case measure => omega
          case rel => exact ⟨i + 1, ⟨by omega, by have := HG.out; omega⟩, HW3.out, HN.out.succ (by rw [HZ.out]; unfold goodV; rw [HT.out]; rfl), HB3.out⟩
      · have HD := hide (decode_big s i (by omega))
        have hnx := fun ty => Lib.run_next_any_at (P := Tryd.prog) wr k s i ty HW.out hlt
        obtain ⟨c, hc⟩ : ∃ c, c = (Utf8.decode s i).1 := ⟨_, rfl⟩
        obtain ⟨n, hn⟩ : ∃ n, n = (Utf8.decode s i).2 := ⟨_, rfl⟩
        rw [← hc, ← hn] at HD hnx
        clear hc hn
        obtain ⟨wn, hwn⟩ : ∃ wn, wn = wr.iterAt k s (i + n) := ⟨_, rfl⟩
        have HW2 := hide (Lib.iterAt_heap wr k s i (i + n) HW.out)
        have HB2 := hide (Lib.below_iterAt HB.out (by rw [HK.out]; exact Nat.le_refl _) s (i + n) (k := k))
        rw [← hwn] at hnx HW2 HB2
        have HC := hide (fun w => rq_rune (c : Int) (.inr ⟨by have := HD.out.val; omega, HD.out.ok⟩) w)
        rw [decide_eq_false (show ¬ (c : Int) < 128 by have := HD.out.val; omega)] at HC
        have HIN := hide (show i + n ≤ s.size by
          have h1 := HD.out.all (n - 1) (by have := HD.out.pos; omega)
          by_cases e : i + (n - 1) < s.size
          · have := HD.out.pos; omega
          · rw [List.getD, List.getElem?_eq_none (by rw [HL.out]; omega)] at h1
            simp at h1)
        clear hwn hbd hb
        go_wp2_with fail
        refine (HC.out _).mono ?_
        rintro e w3 ⟨q, rfl, hq, hb3⟩
        have hq0 : ¬ 0 ≤ q := by simpa using hq
        have HW3 := hide (show w3.heap[k]? = some (.stringIter s (i + n)) from (hb3.block k (Array.getElem?_eq_some_iff.1 HW2.out).1).trans HW2.out)
        have HB3 := hide (HB2.out.trans (hb3.mono HB2.out.size))
        clear hq hb3
        go_wp2_with fail
        go_roundg g
        case measure => omega
        case rel => exact ⟨i + n, ⟨HIN.out, by have := HG.out; have := HD.out.pos; omega⟩, HW3.out, HN.out.add (fun j hj => goodV_big (HD.out.all j hj)), HB3.out⟩
    · obtain rfl : i = s.size := by have := HG.out; omega
      have hnx := fun ty => Lib.run_next_end_at (P := Tryd.prog) wr k s s.size ty HW.out (by omega)
      go_wp2_with fail
      go_ret
      exact ⟨-1, rfl, by rw [AllTo.yes (by rw [HL.out]; exact HN.out)]; rfl, HB.out⟩
end Go.Proofs.YtlbhnbloanamfaaDoor
