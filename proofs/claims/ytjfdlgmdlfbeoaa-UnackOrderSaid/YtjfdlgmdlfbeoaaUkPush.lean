/-
  Layer 13: Push: the program's.
-/
import Derived.Test.YtjfdlgmdlfbeoaaUkCopied
import Derived.Test.YtjfdlgmdlfbeoaaUkCheck
import Derived.BigGuardPart
namespace Go.Proofs.Ytjfdlgmdlfbeoaa
set_option linter.unusedSimpArgs false
set_option linter.unusedVariables false
open Go.RowKit

/-- What Push answers. -/
def GivesPush (r : List It × Int) (w : World) (e : Ending) (w' : World) : Prop := ∃ A1 c1, e = .returned (.tuple #[.slice A1 r.1.length c1, .int .i64 r.2]) ∧ IL w' A1 r.1.length c1 r.1 ∧ Below w.heap.size w w'

set_option maxRecDepth 100000 in
set_option maxHeartbeats 3200000 in
theorem uk_Push (A : Option Addr) (n c : Nat) (l : List It) (B : Option Addr) (m d : Nat) (ps : List Pr) (now : Int) (w : World) (hl : IL w A n c l) (hp : PL w B m d ps) (hn : (n : Int) ≤ 1000000) (hm : (m : Int) ≤ 1000000) (hf : FewP l) :
    Calls Try.prog 10 #[.slice A n c, .slice B m d, .int .i64 now] w (GivesPush (pushU l ps now) w) := by
  obtain ⟨i0, hi0, hz0, hz1, hz2⟩ := info_parts uk_info
  have hle := hl.len
  subst hle
  have hlp := hp.len
  subst hlp
  have HK := hide (uk_Check A l.length c l w hl hn)
  have HI := hide hl
  have HP := hide hp
  have HF := hide hf
  have HT := hide (fun w => uk_isTick now w)
  have HL := hide (fun (w' : World) (h : PL w' B ps.length d ps) => uk_isLong B ps.length d ps w' h)
  clear hl hp hf
  by_cases hc : chkU l = 0
  · rw [hc] at HK
    have H5 := hide (show longB ps = true → pushU l ps now = (l, 5) from pushU_5 hc)
    have H8 := hide (show longB ps = false → tickB now = false → pushU l ps now = (l, 8) from pushU_8 hc)
    have H10 := hide (show longB ps = false → tickB now = true → lastB l now = true → pushU l ps now = (l, 10) from pushU_10 hc)
    have H7 := hide (show longB ps = false → tickB now = true → lastB l now = false → (l.length : Int) = 4 → pushU l ps now = (l, 7) from pushU_7 hc)
    have H0 := hide (show longB ps = false → tickB now = true → lastB l now = false → ¬ (l.length : Int) = 4 → pushU l ps now = (l ++ [⟨ps, now⟩], 0) from pushU_0 hc)
    have h4 : (l.length : Int) ≤ 4 := by have := (chkU_ok hc).1; omega
    generalize pushU l ps now = pr at *
    clear hc
    go_enter Try.func10, Try.ntmps10
    go_wp2_with fail
    refine HK.out.mono ?_
    rintro e w1 ⟨rfl, hb1⟩
    have HB1 := hide hb1
    have HI1 := hide (HI.out.keep hb1)
    have HP1 := hide (HP.out.keep hb1)
    clear hb1 HK HI HP
    go_wp2_with fail
    refine (HL.out _ HP1.out).mono ?_
    rintro e w2 ⟨rfl, rfl⟩
    clear HL
    cases h1 : longB ps with
    | true =>
      have HE := hide (H5.out h1)
      clear h1 H5 H8 H10 H7 H0 HT
      go_wp2
      go_ret2
      rw [HE.out]
      exact ⟨A, c, rfl, HI1.out, HB1.out⟩
    | false =>
      go_wp2_with fail
      refine (HT.out _).mono ?_
      rintro e w2 ⟨rfl, rfl⟩
      clear HT
      cases h2 : tickB now with
      | false =>
        have HE := hide (H8.out h1 h2)
        clear h1 h2 H5 H8 H10 H7 H0
        go_wp2
        go_ret2
        rw [HE.out]
        exact ⟨A, c, rfl, HI1.out, HB1.out⟩
      | true =>
        go_upto_region 8 with (fail)
        go_cut [24] (fun s24 wx => s24 = .bool (lastB l now) ∧ wx = w1)
        case first =>
          clear H5 H8 H10 H7 H0 h1 h2
          by_cases h0 : l.length = 0
          · have hl0 : l = [] := List.eq_nil_of_length_eq_zero h0
            have hx : lastB l now = false := by rw [hl0]; rfl
            have hz : ((l.length : Nat) : Int) = 0 := by omega
            have HX := hide hx
            clear hl0 hx h0
            go_wp2
            go_meet
            exact ⟨by rw [HX.out], rfl⟩
          · obtain ⟨k, hk⟩ : ∃ k, k + 1 = l.length := ⟨l.length - 1, by omega⟩
            obtain ⟨x, A', c', b, off, hx, e, hbl, c0, c1, -⟩ := HI1.out.round (show k < l.length by omega)
            subst e
            have HE := hide (last_eq l now hk hx)
            obtain rfl : k = l.length - 1 := by omega
            have hpos : 0 < l.length := by omega
            have hpos1 : (1 : Int) ≤ (l.length : Int) := by omega
            clear hx h0 hk
            go_wp2
            go_meet
            exact ⟨by rw [HE.out], rfl⟩
        obtain ⟨rfl, hwc⟩ := hcut
        subst hwc
        cases h3 : lastB l now with
        | true =>
          have HE := hide (H10.out h1 h2 h3)
          clear h1 h2 h3 H5 H8 H10 H7 H0
          go_wp2
          go_ret2
          rw [HE.out]
          exact ⟨A, c, rfl, HI1.out, HB1.out⟩
        | false =>
          by_cases h5 : (l.length : Int) = 4
          · have HE := hide (H7.out h1 h2 h3 h5)
            have hh : (((l.length : Nat) : Int) == 4) = true := by simp [h5]
            clear h1 h2 h3 H5 H8 H10 H7 H0 h5
            go_wp2
            go_ret2
            rw [HE.out]
            exact ⟨A, c, rfl, HI1.out, HB1.out⟩
          · have HE := hide (H0.out h1 h2 h3 h5)
            have hh : (((l.length : Nat) : Int) == 4) = false := by simp [h5]
            have HCO := hide (uk_copied A l.length c l wc HI1.out hn HF.out)
            have HCL := hide (fun (w' : World) (h : PL w' B ps.length d ps) => uk_Clone B ps.length d ps w' h hm)
            clear h1 h2 h3 H5 H8 H10 H7 H0 h5
            go_wp2_with fail
            refine HCO.out.mono ?_
            rintro e w3 ⟨v1, rfl, ho3, hb3⟩
            have HP3 := hide (HP1.out.keep hb3)
            have HB3 := hide (HB1.out.trans (hb3.mono HB1.out.size))
            have HO3 := hide ho3
            have HZ3 := hide hb3.size
            clear ho3 hb3 HCO HP1
            go_wp2_with fail
            refine (HCL.out _ HP3.out).mono ?_
            rintro e w4 ⟨A4, c4, rfl, hp4, hf4, hb4⟩
            have HO5 := hide ((HO3.out.keep hb4).alloc (.cells #[.slice A4 ps.length c4, .int .i64 now] 61))
            have HB4 := hide (HB3.out.trans (hb4.mono HB3.out.size))
            have HB5 := hide (HB4.out.alloc HB4.out.size (.cells #[.slice A4 ps.length c4, .int .i64 now] 61))
            have HY := hide (show AllX (w4.alloc (.cells #[.slice A4 ps.length c4, .int .i64 now] 61)) [⟨A4, c4, ⟨ps, now⟩⟩] from fun y hy => by
              rw [List.mem_singleton] at hy; subst hy; exact hp4.alloc _)
            have HAP := hide (show ApartX v1.ownBlock [⟨A4, c4, ⟨ps, now⟩⟩] from fun y hy b' off' e hn hh => by
              rw [List.mem_singleton] at hy; subst hy
              have h1 := hf4 b' off' e
              have h2 := (HO3.out.lt hh).2
              omega)
            have HBK := hide (show BlkIs (w4.alloc (.cells #[.slice A4 ps.length c4, .int .i64 now] 61)) w4.heap.size 61 (Ix.cs ⟨A4, c4, ⟨ps, now⟩⟩) from BlkIs.new w4 _ _)
            have HZ := hide (show wc.heap.size ≤ w4.heap.size by have h1 := HZ3.out; have h2 := hb4.size; omega)
            have HZ0 := hide HB1.out.size
            clear hp4 hf4 hb4 HO3 HB3 HB4 HP3
            go_wp2_with (at_builtin; refine wpList_append_q _ rfl (.tmp 46) (.tmp 51) _ rfl wc.heap.size 61 i0 _ 32 Try.underlying27 hi0 hz0 hz1 hz2 rfl v1 l.length l rfl HO5.out (some ⟨w4.heap.size, 0, none⟩) 1 1 [⟨A4, c4, ⟨ps, now⟩⟩] rfl (xl_blk HBK.out) HY.out HAP.out (by unfold maxLen; omega) (by omega) (by have := HZ.out; simp; omega) ?_; intro v9 w9 ho9 hg9; have HO9 := hide ho9; have HG9 := hide hg9; clear ho9 hg9)
            go_ret2
            rw [HE.out]
            obtain ⟨A9, c9, rfl, hi9⟩ := HO9.out.il
            have e9 : (l ++ [(⟨ps, now⟩ : It)]).length = l.length + 1 := by simp
            refine ⟨A9, c9, ?_, ?_, HO5.out.below HB5.out HZ0.out (Nat.le_refl _) HG9.out⟩
            · show _ = Ending.returned (.tuple #[.slice A9 (l ++ [(⟨ps, now⟩ : It)]).length c9, .int .i64 0])
              rw [e9]; rfl
            · show IL w9 A9 (l ++ [(⟨ps, now⟩ : It)]).length c9 (l ++ [⟨ps, now⟩])
              rw [e9]; exact hi9
  · have HE := hide (show pushU l ps now = (l, chkU l) from pushU_chk hc)
    have hh : (chkU l != 0) = true := by simp [hc]
    generalize pushU l ps now = pr at *
    generalize chkU l = ck at *
    clear hc HT HL HF
    go_enter Try.func10, Try.ntmps10
    go_wp2_with fail
    refine HK.out.mono ?_
    rintro e w1 ⟨rfl, hb1⟩
    have HB1 := hide hb1
    have HI1 := hide (HI.out.keep hb1)
    clear hb1 HK HI HP
    go_wp2
    go_ret2
    rw [HE.out]
    exact ⟨A, c, rfl, HI1.out, HB1.out⟩
end Go.Proofs.Ytjfdlgmdlfbeoaa
