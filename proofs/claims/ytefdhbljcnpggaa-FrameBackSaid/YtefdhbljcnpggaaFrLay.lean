/-
  Layer 9: the bytes of a payload put behind a head (lay): the walk.
-/
import Derived.Test.YtefdhbljcnpggaaFrLay0
namespace Go.Proofs.Ytefdhbljcnpggaa
open Go.RowKit

set_option maxRecDepth 100000 in
set_option maxHeartbeats 3200000 in
theorem fr_lay (p d l c0 i r x : Bool) (F : Fr) (A : Option Addr) (n c : Nat) (lp : List Pr) (B : Nat) (v : Value) (xs : List Int) (hp : AllP lp) (hin : F.inB = true) (hc0 : 0 ≤ F.code) (hc1 : F.code ≤ 4294967295) (hw0 : 0 ≤ F.wt) (hw1 : F.wt ≤ 255)
    (hn : (n : Int) ≤ 20000) (hs : (F.data.size : Int) ≤ 20000) (hx : (xs.length : Int) ≤ 100) (w : World) (hB : B ≤ w.heap.size) (hown : w.ownsRow B 5 1 v xs.length (u8s xs)) (hpl : PL w A n c lp) (hlt : ∀ (k : Nat) (p : Pr), lp[k]? = some p → ∀ b off, A = some ⟨b, off, none⟩ → b < B) :
    Calls Try.prog 38 #[v, .agg (F.cs A n c), .agg #[.bool p, .bool d, .bool l, .bool c0, .bool i, .bool r, .bool x]] w
      (GivesRow B (((((((xs ++ ifB p [F.pad]) ++ ifB d (num4 F.top ++ [F.wt])) ++ ifB l (num4 F.last)) ++ ifB c0 (num4 F.code)) ++ ifB i (num4 F.inc)) ++ prB lp) ++ bts F.data ++ zs F.pad.toNat) w) := by
  obtain ⟨i0, hi0, hz0, hz1, hz2⟩ := info_parts u8_info
  obtain ⟨_, _, d0, d1, l0, l1, n0, n1, p0, p1⟩ := (inB_iff F).1 hin
  obtain ⟨q0, q1, q2, q3, q4, q5, q6, q7, q8, q9, q10, q11⟩ := fr_qs F A n c
  have HS := hide (lay_start w v xs (F.cs A n c) #[.bool p, .bool d, .bool l, .bool c0, .bool i, .bool r, .bool x] hB hown hpl hlt)
  have HP := hide hp
  have HXL := hide hx
  generalize F.cs A n c = cs at *
  clear hown hpl hlt hin hp hx
  go_enter Try.func38, Try.ntmps38
  go_upto_region 1 with (fail)
  have S0 := hide HS.out
  clear HS
  obtain ⟨g, hg⟩ : ∃ g, g = w.heap.size := ⟨_, rfl⟩
  rw [← hg] at S0 ⊢
  generalize (w.alloc (.cells cs 28)).alloc (.cells #[.bool p, .bool d, .bool l, .bool c0, .bool i, .bool r, .bool x] 62) = w0 at S0 ⊢
  clear hg
  generalize hsh : (#[.bool p, .bool d, .bool l, .bool c0, .bool i, .bool r, .bool x] : Array Value) = sh at S0
  have HSH := hide hsh
  clear hsh
  have y1 := (S0.out.sh.cell 0).trans (show sh[0]? = some (.bool p) by rw [← HSH.out]; rfl)
  go_upto_if 11 with (fail)
  go_cut [0] (fun s0 wx => ∃ v', s0 = v' ∧ LayS B g cs sh A n c lp w wx v' (xs ++ ifB p [F.pad]))
  case first =>
    have D1 := hide S0.out
    cases p with
    | false =>
      go_wp2
      go_meet
      exact ⟨_, rfl, D1.out.list (by simp [ifB])⟩
    | true =>
      have b4 := (D1.out.fr.cell 4).trans q4
      go_wp2_with (at_builtin; refine wpList_append_rb _ rfl (.tmp 12) (.tmp 16) 44 rfl B 5 i0 Try.underlying44 hi0 hz0 hz1 hz2 v xs rfl (D1.out.own.alloc _) (some ⟨w0.heap.size, 0, none⟩) 1 1 [F.pad] rfl (blk_rb (BlkIs.new w0 _ _) rfl (by intro y hy; simp only [List.mem_cons, List.not_mem_nil, or_false] at hy; omega)) (fun h => by cases h) (by have := HXL.out; omega) (D1.out.alloc _).base ?_; intro v9 w9 hown9 hg9; have E9 := hide ((D1.out.alloc _).grow hown9 hg9); clear hown9 hg9)
      go_meet
      exact ⟨_, rfl, E9.out.list (by simp [ifB])⟩
  obtain ⟨_, rfl, hS1⟩ := hcut
  have S1 := hide hS1
  clear hS1 y1 S0
  have y2 := (S1.out.sh.cell 1).trans (show sh[1]? = some (.bool d) by rw [← HSH.out]; rfl)
  go_upto_if 19 with (fail)
  go_cut [0] (fun s0 wx => ∃ v', s0 = v' ∧ LayS B g cs sh A n c lp w wx v' ((xs ++ ifB p [F.pad]) ++ ifB d (num4 F.top ++ [F.wt])))
  case first =>
    have D2 := hide S1.out
    cases d with
    | false =>
      go_wp2
      go_meet
      exact ⟨_, rfl, D2.out.list (by simp [ifB])⟩
    | true =>
      have b5 := (D2.out.fr.cell 5).trans q5
      have b6 := (D2.out.fr.cell 6).trans q6
      have b7 := (D2.out.fr.cell 7).trans q7
      obtain ⟨X, hX⟩ : ∃ X, X = F.top := ⟨_, rfl⟩
      have X0 : 0 ≤ X := by rw [hX]; unfold Fr.top; split <;> omega
      have X1 : X ≤ 4294967295 := by rw [hX]; unfold Fr.top; split <;> omega
      have HXT := hide (show (F.sole = true → X = F.dep + 2147483648) ∧ (F.sole = false → X = F.dep) by rw [hX]; unfold Fr.top; constructor <;> intro h <;> simp [h])
      have HXE := hide hX
      rw [← hX]
      clear hX
      have hot := or_top32 F.dep d0 d1
      have HLY := hide (fun (v : Value) (w : World) (hB : B ≤ w.heap.size) (ho : w.ownsRow B 5 1 v ((xs ++ ifB p [F.pad])).length (u8s (xs ++ ifB p [F.pad]))) => fr_layNumber B v (xs ++ ifB p [F.pad]) X X0 X1 w hB ho (len1 (d := false) (l := false) (c0 := false) (i := false) (F := F) HXL.out))
      have hln : (num4 X).length = 4 := rfl
      obtain ⟨Y, hY⟩ : ∃ Y, Y = (xs ++ ifB p [F.pad]) ++ num4 X := ⟨_, rfl⟩
      have HYL := hide (show Y.length ≤ 200 by rw [hY, List.length_append, hln]; have := lenx1 (p := p) (d := false) (l := false) (c0 := false) (i := false) (F := F) HXL.out; omega)
      have HYY := hide (show (xs ++ ifB p [F.pad]) ++ num4 X = Y from hY.symm)
      rw [HYY.out] at HLY
      clear hY hln
      cases hso : F.sole with
      | false =>
        have eX := HXT.out.2 hso
        rw [← eX] at b5
        rw [hso] at b6
        clear hot hso eX
        go_wp2_with fail
        have b7d : wc.drew.cell? ⟨g, 7, none⟩ = some (.int .u8 F.wt) := b7
        go_region_held3 (fun w' => w'.cell? ⟨g, 7, none⟩ = some (.int .u8 F.wt)) (first | exact b7 | exact (G3.out.fr.cell 7).trans q7 | exact ((G3.out.alloc _).fr.cell 7).trans q7 | exact ((D2.out.drew.alloc _).fr.cell 7).trans q7 | exact ((D2.out.alloc _).drew.fr.cell 7).trans q7 | exact (G4.out.fr.cell 7).trans q7)
          (first
            | (go_at_call 57; ((with_reducible refine (HLY.out _ _ D2.out.drew.base D2.out.drew.own).mono ?_); rintro e w3 ⟨v3, rfl, hown3, hg3⟩; have G3 := hide (D2.out.drew.grow hown3 hg3); clear hown3 hg3))
            | (go_at_call 57; ((with_reducible refine (HLY.out _ _ (D2.out.alloc _).drew.base (D2.out.alloc _).drew.own).mono ?_); rintro e w3 ⟨v3, rfl, hown3, hg3⟩; have G3 := hide ((D2.out.alloc _).drew.grow hown3 hg3); have R3 := hide ((BlkIs.new wc 5 #[.int .u8 F.wt]).drew.grown hg3 (own_not D2.out.own)); clear hown3 hg3))
            | (refine step_append_lies _ (by rfl) (.tmp 29) (.tmp 32) 44 (by rfl) B 5 i0 (.int .u8 0) 1 1 Try.underlying44 hi0 hz0 hz1 hz2 rfl (by decide) v3 Y.length (u8s Y) (by rfl) (G3.out.alloc _).own ⟨w3.heap.size, 0, none⟩ 1 1 [.int .u8 F.wt] (by rfl) (by rfl) (World.news_of_block (cs := #[.int .u8 F.wt]) (t := 5) (fr := (0, 0)) (heap_alloc_new w3 _)) (by simp [Value.oneCell']) (by have := HYL.out; omega) (by have := HYL.out; unfold maxLen; omega) (by have := HYL.out; omega) (G3.out.alloc _).base _ rfl ?_; intro gg cap w4 hown4 hgrow4 hat4 hlt4; have G4 := hide ((G3.out.alloc _).grow (row_one hown4) hgrow4); clear hown4 hgrow4 hat4 hlt4)
            | (refine step_append_lies _ (by rfl) (.tmp 29) (.tmp 32) 44 (by rfl) B 5 i0 (.int .u8 0) 1 1 Try.underlying44 hi0 hz0 hz1 hz2 rfl (by decide) v3 Y.length (u8s Y) (by rfl) G3.out.own ⟨wc.heap.size, 0, none⟩ 1 1 [.int .u8 F.wt] (by rfl) (by rfl) (World.news_of_block (cs := #[.int .u8 F.wt]) (t := 5) (fr := (0, 0)) R3.out) (by simp [Value.oneCell']) (by have := HYL.out; omega) (by have := HYL.out; unfold maxLen; omega) (by have := HYL.out; omega) G3.out.base _ rfl ?_; intro gg cap w4 hown4 hgrow4 hat4 hlt4; have G4 := hide (G3.out.grow (row_one hown4) hgrow4); clear hown4 hgrow4 hat4 hlt4))
        all_goals
          go_wp2
          go_meet
          exact ⟨_, rfl, G4.out.list (by rw [← HYY.out, HXE.out]; simp [ifB])⟩
      | true =>
        have eX := HXT.out.1 hso
        rw [← eX] at hot
        rw [hso] at b6
        clear hso eX
        go_wp2_with fail
        have b7d : wc.drew.cell? ⟨g, 7, none⟩ = some (.int .u8 F.wt) := b7
        go_region_held3 (fun w' => w'.cell? ⟨g, 7, none⟩ = some (.int .u8 F.wt)) (first | exact b7 | exact (G3.out.fr.cell 7).trans q7 | exact ((G3.out.alloc _).fr.cell 7).trans q7 | exact ((D2.out.drew.alloc _).fr.cell 7).trans q7 | exact ((D2.out.alloc _).drew.fr.cell 7).trans q7 | exact (G4.out.fr.cell 7).trans q7)
          (first
            | (go_at_call 57; ((with_reducible refine (HLY.out _ _ D2.out.drew.base D2.out.drew.own).mono ?_); rintro e w3 ⟨v3, rfl, hown3, hg3⟩; have G3 := hide (D2.out.drew.grow hown3 hg3); clear hown3 hg3))
            | (go_at_call 57; ((with_reducible refine (HLY.out _ _ (D2.out.alloc _).drew.base (D2.out.alloc _).drew.own).mono ?_); rintro e w3 ⟨v3, rfl, hown3, hg3⟩; have G3 := hide ((D2.out.alloc _).drew.grow hown3 hg3); have R3 := hide ((BlkIs.new wc 5 #[.int .u8 F.wt]).drew.grown hg3 (own_not D2.out.own)); clear hown3 hg3))
            | (refine step_append_lies _ (by rfl) (.tmp 29) (.tmp 32) 44 (by rfl) B 5 i0 (.int .u8 0) 1 1 Try.underlying44 hi0 hz0 hz1 hz2 rfl (by decide) v3 Y.length (u8s Y) (by rfl) (G3.out.alloc _).own ⟨w3.heap.size, 0, none⟩ 1 1 [.int .u8 F.wt] (by rfl) (by rfl) (World.news_of_block (cs := #[.int .u8 F.wt]) (t := 5) (fr := (0, 0)) (heap_alloc_new w3 _)) (by simp [Value.oneCell']) (by have := HYL.out; omega) (by have := HYL.out; unfold maxLen; omega) (by have := HYL.out; omega) (G3.out.alloc _).base _ rfl ?_; intro gg cap w4 hown4 hgrow4 hat4 hlt4; have G4 := hide ((G3.out.alloc _).grow (row_one hown4) hgrow4); clear hown4 hgrow4 hat4 hlt4)
            | (refine step_append_lies _ (by rfl) (.tmp 29) (.tmp 32) 44 (by rfl) B 5 i0 (.int .u8 0) 1 1 Try.underlying44 hi0 hz0 hz1 hz2 rfl (by decide) v3 Y.length (u8s Y) (by rfl) G3.out.own ⟨wc.heap.size, 0, none⟩ 1 1 [.int .u8 F.wt] (by rfl) (by rfl) (World.news_of_block (cs := #[.int .u8 F.wt]) (t := 5) (fr := (0, 0)) R3.out) (by simp [Value.oneCell']) (by have := HYL.out; omega) (by have := HYL.out; unfold maxLen; omega) (by have := HYL.out; omega) G3.out.base _ rfl ?_; intro gg cap w4 hown4 hgrow4 hat4 hlt4; have G4 := hide (G3.out.grow (row_one hown4) hgrow4); clear hown4 hgrow4 hat4 hlt4))
        all_goals
          go_wp2
          go_meet
          exact ⟨_, rfl, G4.out.list (by rw [← HYY.out, HXE.out]; simp [ifB])⟩
  obtain ⟨_, rfl, hS2⟩ := hcut
  have S2 := hide hS2
  clear hS2 y2 S1
  have y3 := (S2.out.sh.cell 2).trans (show sh[2]? = some (.bool l) by rw [← HSH.out]; rfl)
  go_upto_if 35 with (fail)
  go_cut [0] (fun s0 wx => ∃ v', s0 = v' ∧ LayS B g cs sh A n c lp w wx v' (((xs ++ ifB p [F.pad]) ++ ifB d (num4 F.top ++ [F.wt])) ++ ifB l (num4 F.last)))
  case first =>
    have D3 := hide S2.out
    cases l with
    | false =>
      go_wp2
      go_meet
      exact ⟨_, rfl, D3.out.list (by simp [ifB])⟩
    | true =>
      have b9 := (D3.out.fr.cell 9).trans q9
      go_wp2_with fail
      refine (fr_layNumber B u0 ((xs ++ ifB p [F.pad]) ++ ifB d (num4 F.top ++ [F.wt])) F.last l0 (by omega) _ D3.out.base D3.out.own (len2 (l := false) (c0 := false) (i := false) (F := F) HXL.out)).mono ?_
      rintro e w9 ⟨v9, rfl, hown9, hg9⟩
      have E9 := hide (D3.out.grow hown9 hg9)
      clear hown9 hg9 b9
      go_wp2
      go_meet
      exact ⟨_, rfl, E9.out.list (by simp [ifB])⟩
  obtain ⟨_, rfl, hS3⟩ := hcut
  have S3 := hide hS3
  clear hS3 y3 S2
  have y4 := (S3.out.sh.cell 3).trans (show sh[3]? = some (.bool c0) by rw [← HSH.out]; rfl)
  go_upto_if 42 with (fail)
  go_cut [0] (fun s0 wx => ∃ v', s0 = v' ∧ LayS B g cs sh A n c lp w wx v' ((((xs ++ ifB p [F.pad]) ++ ifB d (num4 F.top ++ [F.wt])) ++ ifB l (num4 F.last)) ++ ifB c0 (num4 F.code)))
  case first =>
    have D4 := hide S3.out
    cases c0 with
    | false =>
      go_wp2
      go_meet
      exact ⟨_, rfl, D4.out.list (by simp [ifB])⟩
    | true =>
      have b8 := (D4.out.fr.cell 8).trans q8
      go_wp2_with fail
      refine (fr_layNumber B u0 (((xs ++ ifB p [F.pad]) ++ ifB d (num4 F.top ++ [F.wt])) ++ ifB l (num4 F.last)) F.code hc0 hc1 _ D4.out.base D4.out.own (len3 (c0 := false) (i := false) (F := F) HXL.out)).mono ?_
      rintro e w9 ⟨v9, rfl, hown9, hg9⟩
      have E9 := hide (D4.out.grow hown9 hg9)
      clear hown9 hg9 b8
      go_wp2
      go_meet
      exact ⟨_, rfl, E9.out.list (by simp [ifB])⟩
  obtain ⟨_, rfl, hS4⟩ := hcut
  have S4 := hide hS4
  clear hS4 y4 S3
  have y5 := (S4.out.sh.cell 4).trans (show sh[4]? = some (.bool i) by rw [← HSH.out]; rfl)
  go_upto_if 48 with (fail)
  go_cut [0] (fun s0 wx => ∃ v', s0 = v' ∧ LayS B g cs sh A n c lp w wx v' (((((xs ++ ifB p [F.pad]) ++ ifB d (num4 F.top ++ [F.wt])) ++ ifB l (num4 F.last)) ++ ifB c0 (num4 F.code)) ++ ifB i (num4 F.inc)))
  case first =>
    have D5 := hide S4.out
    cases i with
    | false =>
      go_wp2
      go_meet
      exact ⟨_, rfl, D5.out.list (by simp [ifB])⟩
    | true =>
      have b10 := (D5.out.fr.cell 10).trans q10
      go_wp2_with fail
      refine (fr_layNumber B u0 ((((xs ++ ifB p [F.pad]) ++ ifB d (num4 F.top ++ [F.wt])) ++ ifB l (num4 F.last)) ++ ifB c0 (num4 F.code)) F.inc n0 (by omega) _ D5.out.base D5.out.own (len4 (i := false) (F := F) HXL.out)).mono ?_
      rintro e w9 ⟨v9, rfl, hown9, hg9⟩
      have E9 := hide (D5.out.grow hown9 hg9)
      clear hown9 hg9 b10
      go_wp2
      go_meet
      exact ⟨_, rfl, E9.out.list (by simp [ifB])⟩
  obtain ⟨_, rfl, hS5⟩ := hcut
  have S5 := hide hS5
  clear hS5 y5 S4
  have b11 := (S5.out.fr.cell 11).trans q11
  have HZL := hide (lenx5 (p := p) (d := d) (l := l) (c0 := c0) (i := i) (F := F) HXL.out)
  generalize ((((xs ++ ifB p [F.pad]) ++ ifB d (num4 F.top ++ [F.wt])) ++ ifB l (num4 F.last)) ++ ifB c0 (num4 F.code)) ++ ifB i (num4 F.inc) = Z at *
  clear HXL
  go_wp2_with fail
  go_loopw [0, 57] (fun s0 j wr => ∃ (k : Nat), k ≤ n ∧ j = .int .i64 (k : Int) ∧ LayS B g cs sh A n c lp w wr s0 (Z ++ prB (lp.take k))) (fun _ j _ => n - (intOf j).toNat)
  case atStart => exact ⟨0, by omega, rfl, S5.out.list (by simp [prB])⟩
  case round =>
    obtain ⟨k, hk, rfl, hS⟩ := hrel
    have SK := hide hS
    clear hS S5 b11
    by_cases hlt : k < n
    · have hlt' : (k : Int) < (n : Int) := by omega
      obtain ⟨f, b, off, hf, rfl, hbl, c0_, c1_⟩ := SK.out.pl.round hlt
      obtain ⟨f0, f1, f2, f3⟩ := HP.out f (List.mem_of_getElem? hf)
      have HT := hide (prB_take_succ lp k f hf)
      clear hf
      go_wp2_with fail
      have PK := hide (BlkIs.new wr 75 #[.int .u16 f.i, .int .u32 f.v])
      have SA := hide (SK.out.alloc (.cells #[.int .u16 f.i, .int .u32 f.v] 75))
      obtain ⟨h, hh⟩ : ∃ h, h = wr.heap.size := ⟨_, rfl⟩
      rw [← hh] at PK ⊢
      generalize wr.alloc (.cells #[.int .u16 f.i, .int .u32 f.v] 75) = w1 at PK SA ⊢
      obtain ⟨Y, hY⟩ : ∃ Y, Y = Z ++ prB (lp.take k) := ⟨_, rfl⟩
      have HYL := hide (show Y.length ≤ 130000 by rw [hY, List.length_append, prB_len, List.length_take]; have := HZL.out; omega)
      have HTY := hide (show Z ++ prB (lp.take (k + 1)) = Y ++ [f.i / 256 % 256, f.i % 256] ++ num4 f.v by rw [HT.out, hY]; simp)
      rw [← hY] at SA
      clear hY hh SK HT hbl c0_ c1_
      have e1 : IntKind.u8.wrap (f.i / 256) = f.i / 256 % 256 := by rw [IntKind.wrap_u8]
      have e2 : IntKind.u8.wrap f.i = f.i % 256 := by rw [IntKind.wrap_u8]
      go_region_held3 (fun w' => w'.cell? ⟨h, 0, none⟩ = some (.int .u16 f.i) ∧ w'.cell? ⟨h, 1, none⟩ = some (.int .u32 f.v))
        (first | exact ⟨PK.out.drew.cell 0, PK.out.drew.cell 1⟩ | exact ⟨(PK.out.drew.alloc _).cell 0, (PK.out.drew.alloc _).cell 1⟩ | exact ⟨PK4.out.cell 0, PK4.out.cell 1⟩ | exact ⟨PK5.out.cell 0, PK5.out.cell 1⟩)
        (first
          | (refine step_append_lies _ (by rfl) (.tmp 61) (.tmp 69) 44 (by rfl) B 5 i0 (.int .u8 0) 1 1 Try.underlying44 hi0 hz0 hz1 hz2 rfl (by decide) u0 Y.length (u8s Y) (by rfl) (SA.out.drew.alloc _).own ⟨w1.heap.size, 0, none⟩ 2 2 [.int .u8 (f.i / 256 % 256), .int .u8 (f.i % 256)] (by rfl) (by rfl) (World.news_of_block (cs := #[.int .u8 (f.i / 256 % 256), .int .u8 (f.i % 256)]) (t := 5) (fr := (0, 0)) (heap_alloc_new w1.drew _)) (by simp [Value.oneCell']) (by have := HYL.out; omega) (by have := HYL.out; unfold maxLen; omega) (by have := HYL.out; omega) (SA.out.drew.alloc _).base _ rfl ?_; intro gg cap w4 hown4 hgrow4 hat4 hlt4; have G4 := hide ((SA.out.drew.alloc _).grow (row_two hown4) hgrow4); have PK4 := hide ((PK.out.drew.alloc _).grown hgrow4 (own_apart SA.out.own PK.out (by decide))); clear hown4 hgrow4 hat4 hlt4)
          | (go_at_call 57; ((refine (fr_layNumber B _ (Y ++ [f.i / 256 % 256, f.i % 256]) f.v f2 f3 _ G4.out.base G4.out.own (by have := HYL.out; simp; omega)).mono ?_); rintro e w5 ⟨v5, rfl, hown5, hg5⟩; have G5 := hide (G4.out.grow hown5 hg5); have PK5 := hide (PK4.out.grown hg5 (own_apart G4.out.own PK4.out (by decide))); clear hown5 hg5)))
      clear e1 e2
      go_wp2
      go_roundw
      case rel => exact ⟨k + 1, by omega, by go_num, G5.out.list (by rw [HTY.out])⟩
      case measure => simp [intOf]; omega
    · have hge : ¬ (k : Int) < (n : Int) := by omega
      obtain rfl : k = n := by omega
      have b3 := (SK.out.fr.cell 3).trans q3
      have hal : prB (lp.take k) = prB lp := by rw [List.take_of_length_le (by rw [SK.out.pl.len]; omega)]
      have S6 := hide (SK.out.list (by rw [hal]))
      have HL6 := hide (show (Z ++ prB lp).length ≤ 130000 by rw [List.length_append, prB_len, SK.out.pl.len]; have := HZL.out; omega)
      clear SK hal
      generalize Z ++ prB lp = Y at *
      obtain ⟨K, hK⟩ : ∃ K : Nat, F.pad = (K : Int) := ⟨F.pad.toNat, by omega⟩
      have HKK := hide (show F.pad.toNat = K by omega)
      have HK9 := hide (show K ≤ 255 by omega)
      rw [hK] at q4
      clear hK
      go_wp2_with (first
        | (at_builtin; refine Lib.wpList_append_own_string _ rfl (.tmp 75) (.tmp 77) 44 9 rfl B 5 i0 Try.underlying44 Try.underlying9 hi0 hz0 hz1 hz2 u0 Y.length (u8s Y) rfl S6.out.own F.data rfl (by have := HL6.out; unfold maxLen; omega) (by have := HL6.out; omega) S6.out.base ?_; intro v7 w7 hown7 hg7 _; have G7 := hide (S6.out.grow (row_str hown7) hg7); clear hown7 hg7; have HL7 := hide (show (Y ++ bts F.data).length ≤ 160000 by rw [List.length_append, bts_len]; have := HL6.out; omega); have b4 := (G7.out.fr.cell 4).trans q4)
        | (at_builtin; refine wpList_append_zs _ rfl (.tmp 79) (.tmp 81) 44 3 rfl B 5 i0 Try.underlying44 Try.underlying3 hi0 hz0 hz1 hz2 v7 (Y ++ bts F.data) rfl G7.out.own K rfl (by have := HL7.out; have := HK9.out; omega) G7.out.base ?_; intro v8 w8 hown8 hg8; have G8 := hide (G7.out.grow hown8 hg8); clear hown8 hg8))
      go_ret
      refine ⟨_, rfl, ?_, G8.out.bel⟩
      have hh := G8.out.own
      rw [HKK.out]
      first
        | exact hh
        | (rw [List.append_assoc] at hh; exact hh)
end Go.Proofs.Ytefdhbljcnpggaa
