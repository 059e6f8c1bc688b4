/-
  Layer 9: the bytes of a payload, by the document (payload).
-/
import Derived.Test.YtefdhbljcnpggaaRpWide
import Derived.Deep.DeepCutAuto
import Derived.IntWalk
namespace Go.Proofs.Ytefdhbljcnpggaa
open Go.RowKit

/-- A payload's bytes, as the document puts them. -/
def Fr.payB (F : Fr) (l : List Pr) : List Int :=
  ((((((([] : List Int) ++ ifB (shP F.ty F.fl) [F.pad]) ++ ifB (shD F.ty F.fl) (num4 F.top ++ [F.wt])) ++ ifB (shL F.ty) (num4 F.last)) ++ ifB (shC F.ty) (num4 F.code)) ++ prB l) ++ ifB (shI F.ty) (num4 F.inc)) ++ bts F.data ++ zs F.pad.toNat
theorem row_zs {w : World} {B k : Nat} {v : Value} {Y : List Int} (h : w.ownsRow B 5 1 v (Y.length + k) (u8s (Y ++ zs k))) : w.ownsRow B 5 1 v (Y ++ zs k).length (u8s (Y ++ zs k)) := by
  rw [show (Y ++ zs k).length = Y.length + k by simp [zs]]
  exact h
theorem top_num (x : Int) (h0 : 0 ≤ x) (h1 : x ≤ 2147483647) : (u8s (num4 x)).set 0 (.int .u8 (x / 16777216 % 256 + 128)) = u8s (num4 (x + 2147483648)) := by
  have e1 : (x + 2147483648) / 16777216 % 256 = x / 16777216 % 256 + 128 := by omega
  have e2 : (x + 2147483648) / 65536 % 256 = x / 65536 % 256 := by omega
  have e3 : (x + 2147483648) / 256 % 256 = x / 256 % 256 := by omega
  have e4 : (x + 2147483648) % 256 = x % 256 := by omega
  simp [num4, u8s, e1, e2, e3, e4]

set_option maxRecDepth 100000 in
set_option maxHeartbeats 3200000 in
theorem rp_payload (F : Fr) (A : Option Addr) (n c : Nat) (lp : List Pr) (t0 : 0 ≤ F.ty) (f0 : 0 ≤ F.fl) (f1 : F.fl ≤ 255) (hp : AllP lp) (hin : F.inB = true) (hc0 : 0 ≤ F.code) (hc1 : F.code ≤ 4294967295)
    (hn : (n : Int) ≤ 20000) (hs : (F.data.size : Int) ≤ 20000) (w : World) (hpl : PL w A n c lp) :
    Calls Try.prog 40 #[.agg (F.cs A n c)] w (GivesRow w.heap.size (F.payB lp) w) := by
  obtain ⟨i0, hi0, hz0, hz1, hz2⟩ := info_parts u8_info
  obtain ⟨_, _, d0, d1, l0, l1, n0, n1, p0, p1⟩ := (inB_iff F).1 hin
  obtain ⟨q0, q1, q2, q3, q4, q5, q6, q7, q8, q9, q10, q11⟩ := fr_qs F A n c
  have HCP := hide (fun w => rg_padded F A n c t0 f0 f1 w)
  have HCD := hide (fun w => rp_weighed F A n c f0 f1 w)
  have HZ := hide (show (Try.prog.info? 35).map (·.size) = some (F.cs A n c).size from rfr_sz)
  have HV := hide (show F.payB lp = ((((((([] : List Int) ++ ifB (shP F.ty F.fl) [F.pad]) ++ ifB (shD F.ty F.fl) (num4 F.top ++ [F.wt])) ++ ifB (decide (F.ty = 7)) (num4 F.last)) ++ ifB (decide (F.ty = 3) || decide (F.ty = 7)) (num4 F.code)) ++ prB lp) ++ ifB (decide (F.ty = 8)) (num4 F.inc)) ++ bts F.data ++ zs F.pad.toNat from rfl)
  have HS := hide (pay_start w (F.cs A n c) hpl)
  have HP := hide hp
  generalize F.cs A n c = cs at *
  generalize shP F.ty F.fl = P at *
  generalize shD F.ty F.fl = D at *
  generalize F.payB lp = R at *
  clear hp hpl hin
  go_enter Try.func40, Try.ntmps40
  go_upto_region 1 with (fail)
  have S0 := hide HS.out
  clear HS
  obtain ⟨g, hg⟩ : ∃ g, g = w.heap.size := ⟨_, rfl⟩
  have HG := hide hg
  rw [show w.alloc (.cells cs 35) = w.alloc (.cells cs 35) from rfl] at S0
  have S0 : Hid (PayS w.heap.size g cs A n c lp w (w.alloc (.cells cs 35)) (.slice none 0 0) []) := by rw [hg]; exact S0
  rw [← hg]
  generalize w.alloc (.cells cs 35) = w0 at S0 ⊢
  clear hg
  go_wp2_with (refine wpList_load_blk rfl 35 (.tmp 1) rfl g rfl 35 cs _ S0.out.fr Try.underlying35 rfl HZ.out ?_)
  refine (HCP.out _).mono ?_
  rintro e wa ⟨rfl, hba⟩
  have S0b := hide (S0.out.keep hba)
  clear hba S0
  go_upto_if 7 with (fail)
  go_cut [3] (fun s3 wx => ∃ v', s3 = v' ∧ PayS w.heap.size g cs A n c lp w wx v' (([] : List Int) ++ ifB P [F.pad]))
  case first =>
    have D1 := hide S0b.out
    cases P with
    | false =>
      go_wp2
      go_meet
      exact ⟨_, rfl, D1.out.list (by simp [ifB])⟩
    | true =>
      have b4 := (D1.out.fr.cell 4).trans q4
      go_wp2_with (at_builtin; refine wpList_append_rb _ rfl (.tmp 8) (.tmp 12) 44 rfl w.heap.size 5 i0 Try.underlying44 hi0 hz0 hz1 hz2 (.slice none 0 0) [] rfl (D1.out.own.alloc _) (some ⟨wa.heap.size, 0, none⟩) 1 1 [F.pad] rfl (blk_rb (BlkIs.new wa _ _) rfl (by intro y hy; simp only [List.mem_cons, List.not_mem_nil, or_false] at hy; omega)) (fun h => by cases h) (by simp) (D1.out.alloc _).base ?_; intro v9 w9 hown9 hg9; have E9 := hide ((D1.out.alloc _).grow hown9 hg9); clear hown9 hg9)
      go_meet
      exact ⟨_, rfl, E9.out.list (by simp [ifB])⟩
  obtain ⟨_, rfl, hS1⟩ := hcut
  have S1 := hide hS1
  clear hS1 S0b
  go_wp2_with (refine wpList_load_blk rfl 35 (.tmp 1) rfl g rfl 35 cs _ S1.out.fr Try.underlying35 rfl HZ.out ?_)
  refine (HCD.out _).mono ?_
  rintro e wb ⟨rfl, hbb⟩
  have S1b := hide (S1.out.keep hbb)
  clear hbb S1
  go_upto_if 15 with (fail)
  go_cut [3] (fun s3 wx => ∃ v', s3 = v' ∧ PayS w.heap.size g cs A n c lp w wx v' ((([] : List Int) ++ ifB P [F.pad]) ++ ifB D (num4 F.top ++ [F.wt])))
  case first =>
    have D2 := hide S1b.out
    cases D with
    | false =>
      go_wp2
      go_meet
      exact ⟨_, rfl, D2.out.list (by simp [ifB])⟩
    | true =>
      have b5 := (D2.out.fr.cell 5).trans q5
      go_wp2_with fail
      refine (rp_Wide4 F.dep d0 (by omega) _).mono ?_
      rintro e w8 ⟨g8, c8, rfl, hown8, hb8⟩
      have D8 := hide (D2.out.keep hb8)
      clear b5
      have b6 := (D8.out.fr.cell 6).trans q6
      cases hso : F.sole with
      | false =>
        rw [hso] at b6
        go_upto_region 8 with (fail)
        have E8 := hide D8.out
        have O8 := hide hown8
        clear D8 D2 b6 hown8 hb8
        generalize w8 = wc at E8 O8 ⊢
        obtain ⟨Y, hY⟩ : ∃ Y, Y = (([] : List Int) ++ ifB P [F.pad]) := ⟨_, rfl⟩
        have HYL := hide (show Y.length ≤ 101 by rw [hY]; exact lenx1 (xs := []) (p := P) (d := false) (l := false) (c0 := false) (i := false) (F := F) (by simp))
        have HYY := hide hY
        rw [← hY] at E8
        clear hY
        obtain ⟨Y2, hY2⟩ : ∃ Y2, Y2 = Y ++ num4 F.dep := ⟨_, rfl⟩
        have HY2L := hide (show Y2.length ≤ 105 by rw [hY2, List.length_append, num4_len]; have := HYL.out; omega)
        have HY2 := hide hY2.symm
        clear hY2
        have b7 := (E8.out.fr.cell 7).trans q7
        have b7d : wc.drew.cell? ⟨g, 7, none⟩ = some (.int .u8 F.wt) := b7
        go_region_held3 (fun w' => w'.cell? ⟨g, 7, none⟩ = some (.int .u8 F.wt)) (first | exact b7 | exact (G3.out.fr.cell 7).trans q7 | exact ((G3.out.alloc _).fr.cell 7).trans q7 | exact ((E8.out.drew.alloc _).fr.cell 7).trans q7 | exact ((E8.out.alloc _).drew.fr.cell 7).trans q7 | exact (G4.out.fr.cell 7).trans q7)
          (first
            | (refine step_append_lies _ (by rfl) (.tmp 27) (.tmp 28) 44 (by rfl) w.heap.size 5 i0 (.int .u8 0) 1 1 Try.underlying44 hi0 hz0 hz1 hz2 rfl (by decide) u3 Y.length (u8s Y) (by rfl) E8.out.drew.own ⟨g8, 0, none⟩ 4 c8 (u8s (num4 F.dep)) (by rfl) (by rfl) (O8.out.cells (g := g8) rfl) (ints_oneCell _ _) (by omega) (by have := HYL.out; have := HY2L.out; unfold maxLen; omega) (by have := HYL.out; have := HY2L.out; omega) E8.out.drew.base _ rfl ?_; intro gg cap w4 hown4 hgrow4 hat4 hlt4; have G3 := hide (E8.out.drew.grow (row_app hown4 rfl) hgrow4 |>.list HY2.out); clear hown4 hgrow4 hat4 hlt4)
            | (refine step_append_lies _ (by rfl) (.tmp 27) (.tmp 28) 44 (by rfl) w.heap.size 5 i0 (.int .u8 0) 1 1 Try.underlying44 hi0 hz0 hz1 hz2 rfl (by decide) u3 Y.length (u8s Y) (by rfl) (E8.out.alloc _).drew.own ⟨g8, 0, none⟩ 4 c8 (u8s (num4 F.dep)) (by rfl) (by rfl) ((O8.out.alloc _).cells (g := g8) rfl) (ints_oneCell _ _) (by omega) (by have := HYL.out; have := HY2L.out; unfold maxLen; omega) (by have := HYL.out; have := HY2L.out; omega) (E8.out.alloc _).drew.base _ rfl ?_; intro gg cap w4 hown4 hgrow4 hat4 hlt4; have G3 := hide ((E8.out.alloc _).drew.grow (row_app hown4 rfl) hgrow4 |>.list HY2.out); have R3 := hide ((BlkIs.new wc 5 #[.int .u8 F.wt]).drew.grown hgrow4 (own_not E8.out.own)); clear hown4 hgrow4 hat4 hlt4)
            | (refine step_append_lies _ (by rfl) (.tmp 29) (.tmp 32) 44 (by rfl) w.heap.size 5 i0 (.int .u8 0) 1 1 Try.underlying44 hi0 hz0 hz1 hz2 rfl (by decide) (.slice (some ⟨gg, 0, none⟩) (Y.length + 4) cap) Y2.length (u8s Y2) (by rfl) (G3.out.alloc _).own ⟨w4.heap.size, 0, none⟩ 1 1 ([.int .u8 F.wt]) (by rfl) (by rfl) (World.news_of_block (cs := #[.int .u8 F.wt]) (t := 5) (fr := (0, 0)) (heap_alloc_new w4 _)) (by simp [Value.oneCell']) (by omega) (by have := HYL.out; have := HY2L.out; unfold maxLen; omega) (by have := HYL.out; have := HY2L.out; omega) (G3.out.alloc _).base _ rfl ?_; intro gg5 cap5 w5 hown5 hgrow5 hat5 hlt5; have G4 := hide ((G3.out.alloc _).grow (row_one hown5) hgrow5); clear hown5 hgrow5 hat5 hlt5)
            | (refine step_append_lies _ (by rfl) (.tmp 29) (.tmp 32) 44 (by rfl) w.heap.size 5 i0 (.int .u8 0) 1 1 Try.underlying44 hi0 hz0 hz1 hz2 rfl (by decide) (.slice (some ⟨gg, 0, none⟩) (Y.length + 4) cap) Y2.length (u8s Y2) (by rfl) G3.out.own ⟨wc.heap.size, 0, none⟩ 1 1 ([.int .u8 F.wt]) (by rfl) (by rfl) (World.news_of_block (cs := #[.int .u8 F.wt]) (t := 5) (fr := (0, 0)) R3.out) (by simp [Value.oneCell']) (by omega) (by have := HYL.out; have := HY2L.out; unfold maxLen; omega) (by have := HYL.out; have := HY2L.out; omega) G3.out.base _ rfl ?_; intro gg5 cap5 w5 hown5 hgrow5 hat5 hlt5; have G4 := hide (G3.out.grow (row_one hown5) hgrow5); clear hown5 hgrow5 hat5 hlt5))
        all_goals
          go_wp2
          go_meet
          exact ⟨_, rfl, G4.out.list (by rw [← HY2.out, HYY.out]; simp [ifB, Fr.top, hso])⟩
      | true =>
        rw [hso] at b6
        obtain ⟨a8, ha8⟩ : ∃ a, a = F.dep / 16777216 % 256 := ⟨_, rfl⟩
        have ha0 : 0 ≤ a8 := by omega
        have ha1 : a8 ≤ 127 := by omega
        have hk0 : w8.cell? ⟨g8, 0, none⟩ = some (.int .u8 a8) := by have := hown8.cells (g := g8) rfl 0 (.int .u8 a8) (by rw [ha8]; rfl); simpa [Addr.add] using this
        have hf0 := own_frozen hown8 0
        have hst := own_set hown8 0 (by omega) (.int .u8 (a8 + 128))
        rw [ha8, top_num F.dep d0 d1, ← ha8] at hst
        have HST := hide hst
        have HBS := hide (hb8.setCell (p := ⟨g8, 0, none⟩) (own_lt hown8).1 (.int .u8 (a8 + 128)))
        clear hst ha8 hown8 hb8 D8
        go_upto_region 8 with (fail)
        have E8 := hide (D2.out.keep HBS.out)
        have O8 := hide HST.out
        clear HST HBS D2 b6 hk0 hf0 ha0 ha1
        generalize w8.setCell ⟨g8, 0, none⟩ (.int .u8 (a8 + 128)) = wc at E8 O8 ⊢
        obtain ⟨Y, hY⟩ : ∃ Y, Y = (([] : List Int) ++ ifB P [F.pad]) := ⟨_, rfl⟩
        have HYL := hide (show Y.length ≤ 101 by rw [hY]; exact lenx1 (xs := []) (p := P) (d := false) (l := false) (c0 := false) (i := false) (F := F) (by simp))
        have HYY := hide hY
        rw [← hY] at E8
        clear hY
        obtain ⟨Y2, hY2⟩ : ∃ Y2, Y2 = Y ++ num4 (F.dep + 2147483648) := ⟨_, rfl⟩
        have HY2L := hide (show Y2.length ≤ 105 by rw [hY2, List.length_append, num4_len]; have := HYL.out; omega)
        have HY2 := hide hY2.symm
        clear hY2
        have b7 := (E8.out.fr.cell 7).trans q7
        have b7d : wc.drew.cell? ⟨g, 7, none⟩ = some (.int .u8 F.wt) := b7
        go_region_held3 (fun w' => w'.cell? ⟨g, 7, none⟩ = some (.int .u8 F.wt)) (first | exact b7 | exact (G3.out.fr.cell 7).trans q7 | exact ((G3.out.alloc _).fr.cell 7).trans q7 | exact ((E8.out.drew.alloc _).fr.cell 7).trans q7 | exact ((E8.out.alloc _).drew.fr.cell 7).trans q7 | exact (G4.out.fr.cell 7).trans q7)
          (first
            | (refine step_append_lies _ (by rfl) (.tmp 27) (.tmp 28) 44 (by rfl) w.heap.size 5 i0 (.int .u8 0) 1 1 Try.underlying44 hi0 hz0 hz1 hz2 rfl (by decide) u3 Y.length (u8s Y) (by rfl) E8.out.drew.own ⟨g8, 0, none⟩ 4 c8 (u8s (num4 (F.dep + 2147483648))) (by rfl) (by rfl) (O8.out.cells (g := g8) rfl) (ints_oneCell _ _) (by omega) (by have := HYL.out; have := HY2L.out; unfold maxLen; omega) (by have := HYL.out; have := HY2L.out; omega) E8.out.drew.base _ rfl ?_; intro gg cap w4 hown4 hgrow4 hat4 hlt4; have G3 := hide (E8.out.drew.grow (row_app hown4 rfl) hgrow4 |>.list HY2.out); clear hown4 hgrow4 hat4 hlt4)
            | (refine step_append_lies _ (by rfl) (.tmp 27) (.tmp 28) 44 (by rfl) w.heap.size 5 i0 (.int .u8 0) 1 1 Try.underlying44 hi0 hz0 hz1 hz2 rfl (by decide) u3 Y.length (u8s Y) (by rfl) (E8.out.alloc _).drew.own ⟨g8, 0, none⟩ 4 c8 (u8s (num4 (F.dep + 2147483648))) (by rfl) (by rfl) ((O8.out.alloc _).cells (g := g8) rfl) (ints_oneCell _ _) (by omega) (by have := HYL.out; have := HY2L.out; unfold maxLen; omega) (by have := HYL.out; have := HY2L.out; omega) (E8.out.alloc _).drew.base _ rfl ?_; intro gg cap w4 hown4 hgrow4 hat4 hlt4; have G3 := hide ((E8.out.alloc _).drew.grow (row_app hown4 rfl) hgrow4 |>.list HY2.out); have R3 := hide ((BlkIs.new wc 5 #[.int .u8 F.wt]).drew.grown hgrow4 (own_not E8.out.own)); clear hown4 hgrow4 hat4 hlt4)
            | (refine step_append_lies _ (by rfl) (.tmp 29) (.tmp 32) 44 (by rfl) w.heap.size 5 i0 (.int .u8 0) 1 1 Try.underlying44 hi0 hz0 hz1 hz2 rfl (by decide) (.slice (some ⟨gg, 0, none⟩) (Y.length + 4) cap) Y2.length (u8s Y2) (by rfl) (G3.out.alloc _).own ⟨w4.heap.size, 0, none⟩ 1 1 ([.int .u8 F.wt]) (by rfl) (by rfl) (World.news_of_block (cs := #[.int .u8 F.wt]) (t := 5) (fr := (0, 0)) (heap_alloc_new w4 _)) (by simp [Value.oneCell']) (by omega) (by have := HYL.out; have := HY2L.out; unfold maxLen; omega) (by have := HYL.out; have := HY2L.out; omega) (G3.out.alloc _).base _ rfl ?_; intro gg5 cap5 w5 hown5 hgrow5 hat5 hlt5; have G4 := hide ((G3.out.alloc _).grow (row_one hown5) hgrow5); clear hown5 hgrow5 hat5 hlt5)
            | (refine step_append_lies _ (by rfl) (.tmp 29) (.tmp 32) 44 (by rfl) w.heap.size 5 i0 (.int .u8 0) 1 1 Try.underlying44 hi0 hz0 hz1 hz2 rfl (by decide) (.slice (some ⟨gg, 0, none⟩) (Y.length + 4) cap) Y2.length (u8s Y2) (by rfl) G3.out.own ⟨wc.heap.size, 0, none⟩ 1 1 ([.int .u8 F.wt]) (by rfl) (by rfl) (World.news_of_block (cs := #[.int .u8 F.wt]) (t := 5) (fr := (0, 0)) R3.out) (by simp [Value.oneCell']) (by omega) (by have := HYL.out; have := HY2L.out; unfold maxLen; omega) (by have := HYL.out; have := HY2L.out; omega) G3.out.base _ rfl ?_; intro gg5 cap5 w5 hown5 hgrow5 hat5 hlt5; have G4 := hide (G3.out.grow (row_one hown5) hgrow5); clear hown5 hgrow5 hat5 hlt5))
        all_goals
          go_wp2
          go_meet
          exact ⟨_, rfl, G4.out.list (by rw [← HY2.out, HYY.out]; simp [ifB, Fr.top, hso])⟩
  obtain ⟨_, rfl, hS2⟩ := hcut
  have S2 := hide hS2
  clear hS2 S1b
  have b0 := (S2.out.fr.cell 0).trans q0
  have S2b := hide S2.out
  clear S2
  obtain ⟨bL, hbL⟩ : ∃ b, b = (F.ty == 7) := ⟨_, rfl⟩
  have HBL := hide hbL
  clear hbL
  go_upto_if 36 with (fail)
  clear b0
  go_cut [3] (fun s3 wx => ∃ v', s3 = v' ∧ PayS w.heap.size g cs A n c lp w wx v' (((([] : List Int) ++ ifB P [F.pad]) ++ ifB D (num4 F.top ++ [F.wt])) ++ ifB bL (num4 F.last)))
  case first =>
    have D3 := hide S2b.out
    cases hb_ : (F.ty == 7) with
    | false =>
      have eb_ := HBL.out.trans hb_
      have HEB := hide eb_
      clear eb_
      go_wp2
      go_meet
      exact ⟨_, rfl, D3.out.list (by rw [HEB.out]; simp [ifB])⟩
    | true =>
      have eb_ := HBL.out.trans hb_
      have HEB := hide eb_
      clear eb_
      have b9 := (D3.out.fr.cell 9).trans q9
      go_wp2_with fail
      refine (rp_Wide4 F.last l0 (by omega) _).mono ?_
      rintro e w8 ⟨g8, c8, rfl, hown8, hb8⟩
      have D8 := hide (D3.out.keep hb8)
      have R8 := hide (rb_of_own hown8 (num4_all _)).1
      clear hown8 hb8 b9
      go_wp2_with (at_builtin; refine wpList_append_rb _ rfl (.tmp 37) (.tmp 40) 44 rfl w.heap.size 5 i0 Try.underlying44 hi0 hz0 hz1 hz2 u3 ((([] : List Int) ++ ifB P [F.pad]) ++ ifB D (num4 F.top ++ [F.wt])) rfl D8.out.own (some ⟨g8, 0, none⟩) 4 c8 (num4 F.last) rfl R8.out (fun h => by cases h) (by have := lenx2 (xs := []) (p := P) (d := D) (l := bL) (c0 := false) (i := false) (F := F) (by simp); omega) D8.out.base ?_; intro v9 w9 hown9 hg9; have E9 := hide (D8.out.grow hown9 hg9); clear hown9 hg9)
      go_meet
      exact ⟨_, rfl, E9.out.list (by rw [HEB.out]; simp [ifB])⟩
  obtain ⟨_, rfl, hS3⟩ := hcut
  have S3 := hide hS3
  clear hS3 S2b
  have KF := hide S3.out.fr
  go_upto_region 11 with (fail)
  refine wp_region_lit ?_
  refine wpList_rd (.pointer (some ⟨g, 0, none⟩)) ?_ ?_ ?_
  focus (rfl)
  focus ((try simp only [lz_true]); go_simp; done)
  simp only [Act.put, List.setIfInBounds_toArray, List.set_cons_zero, List.set_cons_succ]
  refine wpList_rd (.int .u8 F.ty) ?_ ?_ ?_
  focus (rfl)
  focus (have kc := (KF.out.cell 0).trans q0; (try simp only [lz_true]); go_simp; done)
  simp only [Act.put, List.setIfInBounds_toArray, List.set_cons_zero, List.set_cons_succ]
  obtain ⟨z44, hz44⟩ : ∃ k : Bool, (F.ty == 3) = k := ⟨_, rfl⟩
  refine wpList_rd (.bool z44) ?_ ?_ ?_
  focus (rfl)
  focus ((try simp only [lz_true]); go_simp; first | done | exact hz44 | rw [hz44] | simp [hz44] | (rw [← hz44]; (first | (simp [beqI, bneI, beqN]; done) | skip)); done)
  simp only [Act.put, List.setIfInBounds_toArray, List.set_cons_zero, List.set_cons_succ]
  have Hz44 := hide hz44.symm
  clear hz44
  refine wpList_rd (.bool z44) ?_ ?_ ?_
  focus (rfl)
  focus ((try simp only [lz_true]); go_simp; done)
  simp only [Act.put, List.setIfInBounds_toArray, List.set_cons_zero, List.set_cons_succ]
  obtain ⟨kk90, hkk90⟩ : ∃ k : Bool, k = (!z44) := ⟨_, rfl⟩
  have Hkk90 := hide hkk90
  clear hkk90
  refine wpList_lz kk90 (.pointer (some ⟨g, 0, none⟩)) ?_ ?_ ?_
  focus (exact (wanted_bool rfl rfl rfl rfl (by rw [Hkk90.out]; cases z44 <;> rfl)))
  focus (intro hk; subst hk; (try simp only [lz_true]); go_simp; done)
  simp only [Act.put, List.setIfInBounds_toArray, List.set_cons_zero, List.set_cons_succ]
  refine wpList_lz kk90 (.int .u8 F.ty) ?_ ?_ ?_
  focus (exact (wanted_bool rfl rfl rfl rfl (by rw [Hkk90.out]; cases z44 <;> rfl)))
  focus (intro hk; subst hk; have kc := (KF.out.cell 0).trans q0; (try simp only [lz_true]); go_simp; done)
  simp only [Act.put, List.setIfInBounds_toArray, List.set_cons_zero, List.set_cons_succ]
  obtain ⟨z48, hz48⟩ : ∃ k : Bool, (F.ty == 7) = k := ⟨_, rfl⟩
  refine wpList_lz kk90 (.bool z48) ?_ ?_ ?_
  focus (exact (wanted_bool rfl rfl rfl rfl (by rw [Hkk90.out]; cases z44 <;> rfl)))
  focus (intro hk; subst hk; (try simp only [lz_true]); go_simp; first | done | exact hz48 | rw [hz48] | simp [hz48] | (rw [← hz48]; (first | (simp [beqI, bneI, beqN]; done) | skip)); done)
  simp only [Act.put, List.setIfInBounds_toArray, List.set_cons_zero, List.set_cons_succ]
  have Hz48 := hide hz48.symm
  clear hz48
  obtain ⟨r49, hr49⟩ : ∃ k : Bool, k = (z44 || z48) := ⟨_, rfl⟩
  have Hr49 := hide hr49
  clear hr49
  refine wpList_rd (.bool r49) ?_ ?_ ?_
  focus (rfl)
  focus (refine run_pick_lz _ _ _ rfl z44 rfl _ ?_; rw [Hr49.out]; (try rw [Hkk90.out]); cases z44 <;> rfl; done)
  simp only [Act.put, List.setIfInBounds_toArray, List.set_cons_zero, List.set_cons_succ]
  clear KF
  go_upto_if 49 with (fail)
  obtain ⟨bC, hbC⟩ : ∃ b, b = r49 := ⟨_, rfl⟩
  have HBC := hide hbC
  clear hbC
  go_cut [3] (fun s3 wx => ∃ v', s3 = v' ∧ PayS w.heap.size g cs A n c lp w wx v' ((((([] : List Int) ++ ifB P [F.pad]) ++ ifB D (num4 F.top ++ [F.wt])) ++ ifB bL (num4 F.last)) ++ ifB bC (num4 F.code)))
  case first =>
    have D3 := hide S3.out
    cases hb_ : r49 with
    | false =>
      have eb_ := HBC.out.trans hb_
      have HEB := hide eb_
      clear eb_
      go_wp2
      go_meet
      exact ⟨_, rfl, D3.out.list (by rw [HEB.out]; simp [ifB])⟩
    | true =>
      have eb_ := HBC.out.trans hb_
      have HEB := hide eb_
      clear eb_
      have b9 := (D3.out.fr.cell 8).trans q8
      go_wp2_with fail
      refine (rp_Wide4 F.code hc0 hc1 _).mono ?_
      rintro e w8 ⟨g8, c8, rfl, hown8, hb8⟩
      have D8 := hide (D3.out.keep hb8)
      have R8 := hide (rb_of_own hown8 (num4_all _)).1
      clear hown8 hb8 b9
      go_wp2_with (at_builtin; refine wpList_append_rb _ rfl (.tmp 50) (.tmp 54) 44 rfl w.heap.size 5 i0 Try.underlying44 hi0 hz0 hz1 hz2 u3 (((([] : List Int) ++ ifB P [F.pad]) ++ ifB D (num4 F.top ++ [F.wt])) ++ ifB bL (num4 F.last)) rfl D8.out.own (some ⟨g8, 0, none⟩) 4 c8 (num4 F.code) rfl R8.out (fun h => by cases h) (by have := lenx3 (xs := []) (p := P) (d := D) (l := bL) (c0 := false) (i := false) (F := F) (by simp); omega) D8.out.base ?_; intro v9 w9 hown9 hg9; have E9 := hide (D8.out.grow hown9 hg9); clear hown9 hg9)
      go_meet
      exact ⟨_, rfl, E9.out.list (by rw [HEB.out]; simp [ifB])⟩
  obtain ⟨_, rfl, hS4⟩ := hcut
  have S4 := hide hS4
  clear hS4 S3
  have b11 := (S4.out.fr.cell 11).trans q11
  have HZL := hide (lenx4 (xs := []) (p := P) (d := D) (l := bL) (c0 := bC) (i := false) (F := F) (by simp))
  generalize hZ : ((((([] : List Int) ++ ifB P [F.pad]) ++ ifB D (num4 F.top ++ [F.wt])) ++ ifB bL (num4 F.last)) ++ ifB bC (num4 F.code)) = Z at *
  have HZZ := hide hZ
  clear hZ
  go_wp2_with fail
  go_loopw [3, 5] (fun s3 j wr => ∃ (k : Nat), k ≤ n ∧ j = .int .i64 (k : Int) ∧ PayS w.heap.size g cs A n c lp w wr s3 (Z ++ prB (lp.take k))) (fun _ j _ => n - (intOf j).toNat)
  case atStart => exact ⟨0, by omega, rfl, S4.out.list (by simp [prB])⟩
  case round =>
    obtain ⟨k, hk, rfl, hS⟩ := hrel
    have SK := hide hS
    clear hS S4 b11
    by_cases hlt : k < n
    · have hlt' : (k : Int) < (n : Int) := by omega
      obtain ⟨f, b, off, hf, rfl, hbl, c0_, c1_⟩ := SK.out.pl.round hlt
      obtain ⟨f0_, f1_, f2_, f3_⟩ := HP.out f (List.mem_of_getElem? hf)
      have HT := hide (prB_take_succ lp k f hf)
      have b11 := (SK.out.fr.cell 11).trans q11
      have HF := hide hf
      clear hf hbl
      go_wp2_with fail
      obtain ⟨Y, hY⟩ : ∃ Y, Y = Z ++ prB (lp.take k) := ⟨_, rfl⟩
      have HYL := hide (show Y.length ≤ 130000 by rw [hY, List.length_append, prB_len, List.length_take]; have := HZL.out; omega)
      obtain ⟨Y2, hY2⟩ : ∃ Y2, Y2 = Y ++ num2L f.i := ⟨_, rfl⟩
      have HY2L := hide (show Y2.length ≤ 130002 by rw [hY2, List.length_append]; have := HYL.out; simp only [num2L, List.length_cons, List.length_nil]; omega)
      have HTY := hide (show Z ++ prB (lp.take (k + 1)) = Y2 ++ num4 f.v by rw [HT.out, hY2, hY]; simp [num2L])
      rw [← hY] at SK
      have HY2 := hide hY2.symm
      clear hY hY2 HT b11 c0_ c1_
      have HW2 := hide (fun w => rp_Wide2 f.i f0_ (by omega) w)
      have HW4 := hide (fun w => rp_Wide4 f.v f2_ f3_ w)
      obtain ⟨z0, z1, z2⟩ := SK.out.drew.cells q11 HF.out
      have e1 : IntKind.i64.wrap f.i = f.i := IntWalk.i64_in _ (by omega)
      have e2 : IntKind.i64.wrap f.v = f.v := IntWalk.i64_in _ (by omega)
      go_region_held3 (fun w' => w'.cell? ⟨g, 11, none⟩ = some (.slice (some ⟨b, off, none⟩) n c) ∧ w'.cell? ⟨b, off + k * 2, none⟩ = some (.int .u16 f.i) ∧ w'.cell? ⟨b, off + k * 2 + 1, none⟩ = some (.int .u32 f.v))
        (first | exact SK.out.drew.cells q11 HF.out | exact G3.out.cells q11 HF.out | exact G4.out.cells q11 HF.out | exact G5.out.cells q11 HF.out | exact G6.out.cells q11 HF.out)
        (first
          | (go_at_call 59; ((with_reducible refine (HW2.out _).mono ?_); rintro e w3 ⟨g3, c3, rfl, hown3, hb3⟩; have G3 := hide (SK.out.drew.keep hb3); have O3 := hide hown3; clear hown3 hb3))
          | (go_at_call 59; ((with_reducible refine (HW4.out _).mono ?_); rintro e w5 ⟨g5, c5, rfl, hown5, hb5⟩; have G5 := hide (G4.out.keep hb5); have O5 := hide hown5; clear hown5 hb5))
          | (refine step_append_lies _ (by rfl) (.tmp 63) (.tmp 71) 44 (by rfl) w.heap.size 5 i0 (.int .u8 0) 1 1 Try.underlying44 hi0 hz0 hz1 hz2 rfl (by decide) u3 Y.length (u8s Y) (by rfl) G3.out.own ⟨g3, 0, none⟩ 2 c3 (u8s (num2L f.i)) (by rfl) (by rfl) (O3.out.cells (g := g3) rfl) (ints_oneCell _ _) (by omega) (by have := HYL.out; have := HY2L.out; unfold maxLen; omega) (by have := HYL.out; have := HY2L.out; omega) G3.out.base _ rfl ?_; intro gg cap w4 hown4 hgrow4 hat4 hlt4; have G4 := hide (G3.out.grow (row_app hown4 rfl) hgrow4 |>.list HY2.out); clear hown4 hgrow4 hat4 hlt4)
          | (refine step_append_lies _ (by rfl) (.tmp 72) (.tmp 80) 44 (by rfl) w.heap.size 5 i0 (.int .u8 0) 1 1 Try.underlying44 hi0 hz0 hz1 hz2 rfl (by decide) (.slice (some ⟨gg, 0, none⟩) (Y.length + 2) cap) Y2.length (u8s Y2) (by rfl) G5.out.own ⟨g5, 0, none⟩ 4 c5 (u8s (num4 f.v)) (by rfl) (by rfl) (O5.out.cells (g := g5) rfl) (ints_oneCell _ _) (by omega) (by have := HYL.out; have := HY2L.out; unfold maxLen; omega) (by have := HYL.out; have := HY2L.out; omega) G5.out.base _ rfl ?_; intro gg6 cap6 w6 hown6 hgrow6 hat6 hlt6; have G6 := hide (G5.out.grow (row_app hown6 rfl) hgrow6); clear hown6 hgrow6 hat6 hlt6))
      clear z0 z1 z2 e1 e2
      go_wp2
      go_roundw
      case rel => exact ⟨k + 1, by omega, by go_num, G6.out.list HTY.out.symm⟩
      case measure => simp [intOf]; omega
    · have hge : ¬ (k : Int) < (n : Int) := by omega
      obtain rfl : n = k := by omega
      have hal : prB (lp.take n) = prB lp := by rw [List.take_of_length_le (by rw [SK.out.pl.len]; omega)]
      have S5 := hide (SK.out.list (by rw [hal]))
      obtain ⟨Y, hY⟩ : ∃ Y, Y = Z ++ prB lp := ⟨_, rfl⟩
      have HYL := hide (show Y.length ≤ 130000 by rw [hY, List.length_append, prB_len, SK.out.pl.len]; have := HZL.out; omega)
      rw [← hY] at S5
      have HY := hide hY
      have b11 := (SK.out.fr.cell 11).trans q11
      have b0 := (SK.out.fr.cell 0).trans q0
      clear SK hal hY
      obtain ⟨bI, hbI⟩ : ∃ b, b = (F.ty == 8) := ⟨_, rfl⟩
      have HBI := hide hbI
      clear hbI
      go_upto_if 84 with (fail)
      clear b0 b11
      go_cut [3] (fun s3 wx => ∃ v', s3 = v' ∧ PayS w.heap.size g cs A n c lp w wx v' (Y ++ ifB bI (num4 F.inc)))
      case first =>
        have D3 := hide S5.out
        cases hb_ : (F.ty == 8) with
        | false =>
          have eb_ := HBI.out.trans hb_
          have HEB := hide eb_
          clear eb_
          go_wp2
          go_meet
          exact ⟨_, rfl, D3.out.list (by rw [HEB.out]; simp [ifB])⟩
        | true =>
          have eb_ := HBI.out.trans hb_
          have HEB := hide eb_
          clear eb_
          have b9 := (D3.out.fr.cell 10).trans q10
          go_wp2_with fail
          refine (rp_Wide4 F.inc n0 (by omega) _).mono ?_
          rintro e w8 ⟨g8, c8, rfl, hown8, hb8⟩
          have D8 := hide (D3.out.keep hb8)
          have R8 := hide (rb_of_own hown8 (num4_all _)).1
          clear hown8 hb8 b9
          go_wp2_with (at_builtin; refine wpList_append_rb _ rfl (.tmp 85) (.tmp 88) 44 rfl w.heap.size 5 i0 Try.underlying44 hi0 hz0 hz1 hz2 u3 Y rfl D8.out.own (some ⟨g8, 0, none⟩) 4 c8 (num4 F.inc) rfl R8.out (fun h => by cases h) (by have := HYL.out; omega) D8.out.base ?_; intro v9 w9 hown9 hg9; have E9 := hide (D8.out.grow hown9 hg9); clear hown9 hg9)
          go_meet
          exact ⟨_, rfl, E9.out.list (by rw [HEB.out]; simp [ifB])⟩
      obtain ⟨_, rfl, hS6⟩ := hcut
      have S6 := hide hS6
      clear hS6 S5
      obtain ⟨X, hX⟩ : ∃ X, X = Y ++ ifB bI (num4 F.inc) := ⟨_, rfl⟩
      have HXL := hide (show X.length ≤ 130004 by rw [hX, List.length_append]; have h1 := ifB_len bI (num4 F.inc); rw [num4_len] at h1; have := HYL.out; omega)
      rw [← hX] at S6
      have HX := hide hX
      clear hX
      obtain ⟨K, hK⟩ : ∃ K : Nat, F.pad = (K : Int) := ⟨F.pad.toNat, by omega⟩
      have HKK := hide (show F.pad.toNat = K by omega)
      have HK9 := hide (show K ≤ 255 by omega)
      rw [hK] at q4
      clear hK
      obtain ⟨X2, hX2⟩ : ∃ X2, X2 = X ++ bts F.data := ⟨_, rfl⟩
      have HX2L := hide (show X2.length ≤ 160000 by rw [hX2, List.length_append, bts_len]; have := HXL.out; omega)
      have HX2 := hide hX2.symm
      clear hX2
      go_wp2_with fail
      have z3 := (S6.out.drew.fr.cell 3).trans q3
      have z4 := (S6.out.drew.fr.cell 4).trans q4
      go_region_held3 (fun w' => w'.cell? ⟨g, 3, none⟩ = some (.string F.data) ∧ w'.cell? ⟨g, 4, none⟩ = some (.int .i64 (K : Int)))
        (first | exact ⟨z3, z4⟩ | exact ⟨(G7.out.fr.cell 3).trans q3, (G7.out.fr.cell 4).trans q4⟩ | exact ⟨(G8.out.fr.cell 3).trans q3, (G8.out.fr.cell 4).trans q4⟩)
        (first
          | (refine step_append_str _ (by rfl) (.tmp 90) (.tmp 92) 44 9 (by rfl) w.heap.size 5 i0 Try.underlying44 Try.underlying9 hi0 hz0 hz1 hz2 u3 X (by rfl) S6.out.drew.own F.data (by rfl) (by have := HXL.out; omega) S6.out.drew.base ?_; intro v7 w7 hown7 hg7; have G7 := hide (S6.out.drew.grow (row_str hown7) hg7 |>.list HX2.out); clear hown7 hg7)
          | (refine step_append_zs _ (by rfl) (.tmp 93) (.tmp 95) 44 3 (by rfl) w.heap.size 5 i0 Try.underlying44 Try.underlying3 hi0 hz0 hz1 hz2 v7 X2 (by rfl) G7.out.own K (by rfl) (by have := HX2L.out; have := HK9.out; omega) G7.out.base ?_; intro v8 w8 hown8 hg8; have G8 := hide (G7.out.grow (row_zs hown8) hg8); clear hown8 hg8))
      clear z3 z4
      go_wp2
      go_ret
      refine ⟨_, rfl, ?_, G8.out.bel⟩
      have hh := G8.out.own
      rw [HV.out, HKK.out, show decide (F.ty = 7) = bL from HBL.out.symm, show (decide (F.ty = 3) || bL) = bC by rw [HBC.out, Hr49.out, Hz44.out, Hz48.out, HBL.out]; rfl, show decide (F.ty = 8) = bI from HBI.out.symm, HZZ.out, ← HY.out, ← HX.out, HX2.out]
      exact hh
end Go.Proofs.Ytefdhbljcnpggaa
