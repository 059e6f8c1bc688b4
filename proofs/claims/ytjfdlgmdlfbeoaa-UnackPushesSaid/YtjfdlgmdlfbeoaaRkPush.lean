/-
  Layer 13: Push: the document's.
-/
import Derived.Test.YtjfdlgmdlfbeoaaUkPush
import Derived.Test.YtjfdlgmdlfbeoaaRkCheck
namespace Go.Proofs.Ytjfdlgmdlfbeoaa
set_option linter.unusedSimpArgs false
set_option linter.unusedVariables false
open Go.RowKit

set_option maxRecDepth 100000 in
set_option maxHeartbeats 3200000 in
theorem rk_Push (A : Option Addr) (n c : Nat) (l : List It) (B : Option Addr) (m d : Nat) (ps : List Pr) (now : Int) (w : World) (hl : IL w A n c l) (hp : PL w B m d ps) (hn : (n : Int) ≤ 1000000) (hm : (m : Int) ≤ 1000000) :
    Calls Try.prog 11 #[.slice A n c, .slice B m d, .int .i64 now] w (GivesPush (pushU l ps now) w) := by
  obtain ⟨i0, hi0, hz0, hz1, hz2⟩ := info_parts rk_info
  have hle := hl.len
  subst hle
  have hlp := hp.len
  subst hlp
  have HK := hide (rk_Check A l.length c l w hl hn)
  have HI := hide hl
  have HP := hide hp
  have HT := hide (fun w => rk_in now w)
  clear hl hp
  by_cases hc : chkU l = 0
  · rw [hc] at HK
    have H5 := hide (show longB ps = true → pushU l ps now = (l, 5) from pushU_5 hc)
    have H8 := hide (show longB ps = false → tickB now = false → pushU l ps now = (l, 8) from pushU_8 hc)
    have H10 := hide (show longB ps = false → tickB now = true → lastB l now = true → pushU l ps now = (l, 10) from pushU_10 hc)
    have H7 := hide (show longB ps = false → tickB now = true → lastB l now = false → (l.length : Int) = 4 → pushU l ps now = (l, 7) from pushU_7 hc)
    have H0 := hide (show longB ps = false → tickB now = true → lastB l now = false → ¬ (l.length : Int) = 4 → pushU l ps now = (l ++ [⟨ps, now⟩], 0) from pushU_0 hc)
    have h4 : (l.length : Int) ≤ 4 := by have := (chkU_ok hc).1; omega
    generalize pushU l ps now = pr at *
    clear hc
    go_enter Try.func11, Try.ntmps11
    go_wp2_with fail
    refine HK.out.mono ?_
    rintro e w1 ⟨rfl, hb1⟩
    have HB1 := hide hb1
    have HI1 := hide (HI.out.keep hb1)
    have HP1 := hide (HP.out.keep hb1)
    clear hb1 HK HI HP
    cases h1 : longB ps with
    | true =>
      have HE := hide (H5.out h1)
      have h8 : 8 < (ps.length : Int) := by simpa [longB] using h1
      clear h1 H5 H8 H10 H7 H0 HT
      go_wp2
      go_ret2
      rw [HE.out]
      exact ⟨A, c, rfl, HI1.out, HB1.out⟩
    | false =>
      have h8 : ¬ 8 < (ps.length : Int) := by simpa [longB] using h1
      go_wp2_with fail
      refine (HT.out _).mono ?_
      rintro e w2 ⟨rfl, rfl⟩
      clear HT
      cases h2 : tickB now with
      | false =>
        have HE := hide (H8.out h1 h2)
        clear h1 h2 H5 H8 H10 H7 H0
        go_wp2
        go_ret2
        rw [HE.out]
        exact ⟨A, c, rfl, HI1.out, HB1.out⟩
      | true =>
        go_upto_region 8 with (fail)
        go_cut [28] (fun s28 wx => s28 = .bool (lastB l now) ∧ wx = w1)
        case first =>
          clear H5 H8 H10 H7 H0 h1 h2
          by_cases h0 : l.length = 0
          · have hl0 : l = [] := List.eq_nil_of_length_eq_zero h0
            have hx : lastB l now = false := by rw [hl0]; rfl
            have hz : ((l.length : Nat) : Int) = 0 := by omega
            have HX := hide hx
            clear hl0 hx h0
            go_wp2
            go_meet
            exact ⟨by rw [HX.out], rfl⟩
          · obtain ⟨k, hk⟩ : ∃ k, k + 1 = l.length := ⟨l.length - 1, by omega⟩
            obtain ⟨x, A', c', b, off, hx, e, hbl, c0, c1, -⟩ := HI1.out.round (show k < l.length by omega)
            subst e
            have HE := hide (last_eq l now hk hx)
            obtain rfl : k = l.length - 1 := by omega
            have hpos : 0 < l.length := by omega
            have hpos1 : (1 : Int) ≤ (l.length : Int) := by omega
            clear hx h0 hk
            go_wp2
            go_meet
            exact ⟨by rw [HE.out], rfl⟩
        obtain ⟨rfl, hwc⟩ := hcut
        subst hwc
        cases h3 : lastB l now with
        | true =>
          have HE := hide (H10.out h1 h2 h3)
          clear h1 h2 h3 H5 H8 H10 H7 H0
          go_wp2
          go_ret2
          rw [HE.out]
          exact ⟨A, c, rfl, HI1.out, HB1.out⟩
        | false =>
          by_cases h5 : (l.length : Int) = 4
          · have HE := hide (H7.out h1 h2 h3 h5)
            have hh : (4 : Int) ≤ (l.length : Int) := by omega
            clear h1 h2 h3 H5 H8 H10 H7 H0 h5
            go_wp2
            go_ret2
            rw [HE.out]
            exact ⟨A, c, rfl, HI1.out, HB1.out⟩
          · have HE := hide (H0.out h1 h2 h3 h5)
            have hh : ¬ (4 : Int) ≤ (l.length : Int) := by omega
            obtain ⟨X, hx, ha, he⟩ := HI1.out
            have HXL := hide hx
            have HAX := hide ha
            have HXE := hide he
            clear h1 h2 h3 H5 H8 H10 H7 H0 h5 hx ha he
            go_wp2_with (first
              | (at_builtin; refine wpList_append_q wc rfl (.tmp 49) (.tmp 50) _ rfl wc.heap.size 58 i0 _ 32 Try.underlying22 hi0 hz0 hz1 hz2 rfl (.slice none 0 0) 0 [] rfl (OwnQ.nil_ _ _ _) A l.length c X rfl HXL.out HAX.out (fun y hy b' off' e hn hh => by cases hh) (by unfold maxLen; omega) (by omega) (Nat.le_refl _) ?_; intro v2 w2 ho2 hg2; have HO2 := hide ho2; have HB2 := hide ((OwnQ.nil_ wc wc.heap.size 58).below (Below.refl _ _) (Nat.le_refl _) (Nat.le_refl _) hg2); clear ho2 hg2)
              | (at_builtin; refine wpList_append_pl w2 rfl (.tmp 52) (.tmp 53) rfl w2.heap.size (.slice none 0 0) 0 [] rfl (World.ownsRow_nil _ _ _ _) B ps.length d ps rfl (HP1.out.keep HB2.out) (by omega) (Nat.le_refl _) ?_; intro v3 w3 ho3 hg3; rw [Nat.zero_add, List.nil_append] at ho3; obtain ⟨A3, c3, rfl, hp3⟩ := own_prs ho3
                 have HB3 := hide (own_bel (World.ownsRow_nil w2 w2.heap.size 60 2) (Below.refl w2.heap.size w2) (Nat.le_refl _) (Nat.le_refl _) hg3)
                 have HF3 := hide (fun b off (e : A3 = some ⟨b, off, none⟩) => (ho3.lt b (by rw [e]; rfl)).1)
                 have HO3 := hide ((HO2.out.keep HB3.out).alloc (.cells #[.slice A3 ps.length c3, .int .i64 now] 58))
                 have HP3 := hide hp3
                 clear hp3 ho3 hg3
                 have HY := hide (show AllX (w3.alloc (.cells #[.slice A3 ps.length c3, .int .i64 now] 58)) [⟨A3, c3, ⟨ps, now⟩⟩] from fun y hy => by
                   rw [List.mem_singleton] at hy; subst hy; exact HP3.out.alloc _)
                 have HAP := hide (show ApartX v2.ownBlock [⟨A3, c3, ⟨ps, now⟩⟩] from fun y hy b' off' e hn hh => by
                   rw [List.mem_singleton] at hy; subst hy
                   have h1 := HF3.out b' off' e
                   have h2 := (HO2.out.lt hh).2
                   omega)
                 have HBK := hide (show BlkIs (w3.alloc (.cells #[.slice A3 ps.length c3, .int .i64 now] 58)) w3.heap.size 58 (Ix.cs ⟨A3, c3, ⟨ps, now⟩⟩) from BlkIs.new w3 _ _)
                 have HZ2 := hide HB2.out.size
                 have HZ3 := hide HB3.out.size
                 have HBa := hide (HB2.out.trans (HB3.out.mono HB2.out.size))
                 have HB5 := hide (HBa.out.alloc HBa.out.size (.cells #[.slice A3 ps.length c3, .int .i64 now] 58)))
              | (at_builtin; refine wpList_append_q _ rfl (.tmp 51) (.tmp 57) _ rfl wc.heap.size 58 i0 _ 32 Try.underlying22 hi0 hz0 hz1 hz2 rfl v2 (0 + l.length) ([] ++ X.map (·.it)) rfl HO3.out (some ⟨w3.heap.size, 0, none⟩) 1 1 [⟨A3, c3, ⟨ps, now⟩⟩] rfl (xl_blk HBK.out) HY.out HAP.out (by unfold maxLen; omega) (by omega) (by have := HZ2.out; have := HZ3.out; simp; omega) ?_; intro v9 w9 ho9 hg9; have HO9 := hide ho9; have HG9 := hide hg9; clear ho9 hg9))
            go_ret2
            rw [HE.out]
            have ho9 := HO9.out
            rw [List.nil_append, Nat.zero_add, HXE.out] at ho9
            obtain ⟨A9, c9, rfl, hi9⟩ := ho9.il
            have e9 : (l ++ [(⟨ps, now⟩ : It)]).length = l.length + 1 := by simp
            refine ⟨A9, c9, ?_, ?_, HB1.out.trans ((HO3.out.below HB5.out (Nat.le_refl _) (Nat.le_refl _) HG9.out).mono HB1.out.size)⟩
            · show _ = Ending.returned (.tuple #[.slice A9 (l ++ [(⟨ps, now⟩ : It)]).length c9, .int .i64 0])
              rw [e9]; rfl
            · show IL w9 A9 (l ++ [(⟨ps, now⟩ : It)]).length c9 (l ++ [⟨ps, now⟩])
              rw [e9]; exact hi9
  · have HE := hide (show pushU l ps now = (l, chkU l) from pushU_chk hc)
    have hh : (chkU l != 0) = true := by simp [hc]
    generalize pushU l ps now = pr at *
    generalize chkU l = ck at *
    clear hc HT
    go_enter Try.func11, Try.ntmps11
    go_wp2_with fail
    refine HK.out.mono ?_
    rintro e w1 ⟨rfl, hb1⟩
    have HB1 := hide hb1
    have HI1 := hide (HI.out.keep hb1)
    clear hb1 HK HI HP
    go_wp2
    go_ret2
    rw [HE.out]
    exact ⟨A, c, rfl, HI1.out, HB1.out⟩
end Go.Proofs.Ytjfdlgmdlfbeoaa
