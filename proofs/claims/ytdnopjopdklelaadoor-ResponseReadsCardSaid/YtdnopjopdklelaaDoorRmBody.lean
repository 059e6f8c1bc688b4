/-
  Layer 18: the document's Body; bytes.Equal; Whole.
-/
import Derived.Test.YtdnopjopdklelaaDoorRnBody
namespace Go.Proofs.YtdnopjopdklelaaDoor
set_option linter.unusedSimpArgs false
set_option linter.unusedVariables false
open Go.RowKit

set_option maxRecDepth 100000 in
set_option maxHeartbeats 1600000 in
theorem rm_Body (f n : Int) (w : World) :
    Calls Tryd.prog 18 #[.int .i64 f, .int .i64 n] w (GivesB w (bodyL f n)) := by
  by_cases hok : 0 ≤ f ∧ 1 ≤ n ∧ n ≤ 65536
  · obtain ⟨h1, h2, h3⟩ := hok
    obtain ⟨N, rfl⟩ : ∃ N : Nat, n = N := ⟨n.toNat, by omega⟩
    have HE := hide (show bodyL f (N : Int) = bodyN f N from bodyL_nat h1 (by omega))
    obtain ⟨i0, hi0, hz0, hz1, hz2⟩ := info_parts u8_info
    have hz0' := hz0
    have hz1' := hz1
    obtain ⟨a, ha⟩ : ∃ a, a = f % 26 := ⟨_, rfl⟩
    have hr1 : f % 26 = a := ha.symm
    have hr2 : f.tmod 26 = a := by rw [Int.tmod_eq_emod_of_nonneg h1]; exact hr1
    have hb1 : 0 ≤ a := by omega
    have hb2 : a ≤ 25 := by omega
    have HA := hide ha
    clear ha
    go_enter Tryd.func18, Tryd.ntmps18
    go_wp2_with fail
    go_loopw [5, 6] (fun s5 s6 wr => ∃ i : Nat, i ≤ N ∧ s6 = .int .i64 (i : Int) ∧ Hid (wr.ownsRow w.heap.size 5 1 s5 i (u8s (bodyN f i))) ∧ Hid (Below w.heap.size w wr)) (fun _ s6 _ => N - (intOf s6).toNat)
    case atStart => exact ⟨0, by omega, rfl, World.ownsRow_nil _ _ _ _, Below.refl _ _⟩
    case round =>
      obtain ⟨i, hi, rfl, HO, HB⟩ := hrel
      have hs := own_form HO.out
      obtain ⟨A, c, rfl⟩ := hs
      by_cases hlt : i < N
      · have hlt' : (i : Int) < (N : Int) := by omega
        obtain ⟨q, hq⟩ : ∃ q, q = (i : Int) % 26 := ⟨_, rfl⟩
        have hq1 : (i : Int) % 26 = q := hq.symm
        have hq2 : (i : Int).tmod 26 = q := by rw [Int.tmod_eq_emod_of_nonneg (by omega)]; exact hq1
        have hq3 : 0 ≤ q := by omega
        have hq4 : q ≤ 25 := by omega
        obtain ⟨m, hm⟩ : ∃ m, m = (a + q) % 26 := ⟨_, rfl⟩
        have hm1 : (a + q) % 26 = m := hm.symm
        have hm2 : (a + q).tmod 26 = m := by rw [Int.tmod_eq_emod_of_nonneg (by omega)]; exact hm1
        have hm3 : 0 ≤ m := by omega
        have hm4 : m ≤ 25 := by omega
        have hw2 : IntKind.u8.wrap (97 + m) = 97 + m := IntWalk.u8_in _ (by omega)
        have HV := hide (show 97 + m = lttI f i by unfold lttI; have := HA.out; omega)
        have HBW := hide (show w.heap.size ≤ wr.heap.size from HB.out.size)
        clear hq hm
        go_wp2_with (at_builtin; refine wpList_append_own _ rfl (.tmp 20) (.tmp 29) 42 rfl w.heap.size 5 i0 (.int .u8 0) 1 1 Tryd.underlying42 hi0 hz0' hz1' hz2 rfl (by decide) (.slice A i c) i (u8s (bodyN f i)) rfl (HO.out.alloc _) ⟨wr.heap.size, 0, none⟩ 1 1 [.int .u8 _] rfl rfl (one_new _ _ _) (one_cell _ _) (by unfold maxLen; omega) (by omega) (by have := HBW.out; simp; omega) ?_; intro v1 w2 hown2 hg2 _; have HO2 := hide hown2; have HG2 := hide hg2; clear hown2 hg2)
        go_roundw
        case rel => exact ⟨i + 1, by omega, by go_num, by rw [bodyN_succ, u8s_snoc, ← HV.out]; exact HO2.out, own_below (HO.out.alloc _) (HB.out.alloc HBW.out _) (Nat.le_refl _) HG2.out⟩
        case measure => simp [intOf]; omega
      · have hge : ¬ (i : Int) < (N : Int) := by omega
        obtain rfl : i = N := by omega
        go_wp2
        go_ret
        refine ⟨_, rfl, ?_, HB.out⟩
        rw [HE.out, bodyN_len]
        exact HO.out
  · have HE := hide (bodyL_no hok)
    have hcase : f < 0 ∨ (0 ≤ f ∧ n < 1) ∨ (0 ≤ f ∧ 1 ≤ n ∧ 65536 < n) := by omega
    clear hok
    go_enter Tryd.func18, Tryd.ntmps18
    go_wp2_with fail
    go_loopw [5, 6] (fun s5 s6 wr => s6 = .int .i64 0 ∧ s5 = .slice none 0 0 ∧ wr = w) (fun _ _ _ => 0)
    case atStart => exact ⟨rfl, rfl, rfl⟩
    case round =>
      obtain ⟨rfl, rfl, rfl⟩ := hrel
      rcases hcase with h | ⟨h1, h⟩ | ⟨h1, h2, h⟩
      · rcases Int.lt_or_le 0 n with z | z
        · rcases Int.lt_or_le 65536 n with z2 | z2
          all_goals
            go_wp2
            all_goals first | (exfalso; omega) | (go_ret; exact ⟨_, rfl, by rw [HE.out]; exact World.ownsRow_nil _ _ _ _, Below.refl _ _⟩)
        · go_wp2
          all_goals first | (exfalso; omega) | (go_ret; exact ⟨_, rfl, by rw [HE.out]; exact World.ownsRow_nil _ _ _ _, Below.refl _ _⟩)
      · have z : ¬ 0 < n := by omega
        go_wp2
        all_goals first | (exfalso; omega) | (go_ret; exact ⟨_, rfl, by rw [HE.out]; exact World.ownsRow_nil _ _ _ _, Below.refl _ _⟩)
      · have z : 0 < n := by omega
        go_wp2
        all_goals first | (exfalso; omega) | (go_ret; exact ⟨_, rfl, by rw [HE.out]; exact World.ownsRow_nil _ _ _ _, Below.refl _ _⟩)

theorem rn_Equal (A B : Option Addr) (n m c d : Nat) (xs ys : List Int) (w : World) (hx : RB w A n xs) (hy : RB w B m ys) :
    Calls Tryd.prog 29 #[.slice A n c, .slice B m d] w fun e w' => e = .returned (.bool (decide (xs = ys))) ∧ w = w' := by
  have k1 := rb_string c hx
  have k2 := rb_string d hy
  have he : ((strOfNums xs).toList == (strOfNums ys).toList) = decide (xs = ys) := by
    rw [str_eq]
    exact decide_eq_decide.2 ⟨fun h => by have := congrArg bts h; rwa [bts_str _ (rb_all hx), bts_str _ (rb_all hy)] at this, fun h => by rw [h]⟩
  obtain ⟨X, hX⟩ : ∃ X, X = strOfNums xs := ⟨_, rfl⟩
  obtain ⟨Y, hY⟩ : ∃ Y, Y = strOfNums ys := ⟨_, rfl⟩
  rw [← hX] at k1 he
  rw [← hY] at k2 he
  clear hX hY
  obtain ⟨v, hv⟩ : ∃ v, v = decide (xs = ys) := ⟨_, rfl⟩
  rw [← hv] at he ⊢
  clear hv
  go_enter Tryd.func29, Tryd.ntmps29
  go_wp2
  go_ret
  exact ⟨by simp [he], rfl⟩

theorem gives_rb {w w' : World} {l : List Int} (hb : ∀ z ∈ l, 0 ≤ z ∧ z ≤ 255) {v : Value} (h : w'.ownsRow w.heap.size 5 1 v l.length (u8s l)) : ∃ A c, v = .slice A l.length c ∧ RB w' A l.length l := by
  obtain ⟨A, c, rfl⟩ := own_form h
  exact ⟨A, c, rfl, (rb_of_own h hb).1⟩
theorem body_bd (f n : Int) : ∀ z ∈ bodyL f n, 0 ≤ z ∧ z ≤ 255 := fun z hz => by have := bodyL_byte f n z hz; omega

/-- Are these bytes a part of a body? -/
def wholeP (xs : List Int) (f : Int) : Bool := decide (xs = bodyL f xs.length)
theorem rn_Whole (A : Option Addr) (n c : Nat) (xs : List Int) (f : Int) (w : World) (hx : RB w A n xs) :
    Calls Tryd.prog 19 #[.slice A n c, .int .i64 f] w fun e w' => e = .returned (.bool (wholeP xs f)) ∧ Below w.heap.size w w' := by
  have HX := hide hx
  have HC := hide (rn_Body f (n : Int) w)
  have HV := hide (show wholeP xs f = decide (xs = bodyL f n) by unfold wholeP; rw [hx.1])
  have HBD := hide (body_bd f n)
  obtain ⟨v, hv⟩ : ∃ v, v = wholeP xs f := ⟨_, rfl⟩
  rw [← hv] at HV ⊢
  generalize bodyL f n = l at HC HV HBD
  clear hx hv
  go_enter Tryd.func19, Tryd.ntmps19
  go_wp2_with fail
  refine HC.out.mono ?_
  rintro e w2 ⟨r, rfl, hown, hb⟩
  obtain ⟨B, d, rfl, hrb⟩ := gives_rb HBD.out hown
  have HB := hide hb
  have HR := hide hrb
  clear hown hb hrb
  go_wp2_with fail
  refine (rn_Equal A B n _ c d xs l w2 (HX.out.below HB.out) HR.out).mono ?_
  rintro e w3 ⟨rfl, rfl⟩
  rw [← HV.out]
  go_wp2_with fail
  go_ret
  exact ⟨rfl, HB.out⟩
end Go.Proofs.YtdnopjopdklelaaDoor
