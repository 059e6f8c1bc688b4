/-
  BlockBack: its walk: for all bytes and numbers the Go text returns true, and leaves what was there as it was.
-/
import Derived.Test.YtighhdgaaelcdaaBkAwake
import Derived.Test.YtighhdgaaelcdaaBbMath
import Derived.Test.YtighhdgaaelcdaaFrCheck
import Derived.BigGuardPart
namespace Go.Proofs.Ytighhdgaaelcdaa
set_option linter.unusedSimpArgs false
set_option linter.unusedVariables false
open Go.RowKit
theorem on_data (s ss : Int) (sd : ByteArray) (se : Bool) (c0 : Int) (h : onB ⟨ss, sd, se⟩ ⟨0, 0, s, ⟨#[]⟩, 0, 0, false, 0, 0, 0, 0⟩ = ⟨⟨ss, sd, se⟩, ⟨0, ⟨#[]⟩, false⟩, false, c0⟩) (w : World) :
    Calls Try.prog 7 #[.agg #[.int .i64 ss, .string sd, .bool se], .agg #[.int .u8 0, .int .u8 0, .int .i64 s, .string ⟨#[]⟩, .int .i64 0, .int .i64 0, .bool false, .int .u8 0, .int .u32 0, .int .i64 0, .int .i64 0, .slice none 0 0]] w fun r w' =>
      r = .returned (.tuple #[.agg #[.int .i64 ss, .string sd, .bool se], .agg #[.int .i64 0, .string ⟨#[]⟩, .bool false], .bool false, .int .u32 c0]) ∧ Below w.heap.size w w' := by
  have h2 := on_is h (by show (0 : Int) ≤ 0; omega) (by show (0 : Int) ≤ 255; omega) (by show ((0 : Nat) : Int) ≤ 5000; omega) w
  exact h2
theorem part_check (F : Fr) (h : F.chk 0 = 0) (t0 : 0 ≤ F.ty) (hs : (F.data.size : Int) ≤ 5000) (w : World) : Calls Try.prog 16 #[.agg F.cl.toArray] w fun e w' => e = .returned (.int .i64 0) ∧ Below w.heap.size w w' := by
  have h2 := fr_Check F none 0 0 t0 (by decide) (by omega) w
  rw [h] at h2
  exact h2
/-- A round of BlockBack, as numbers and texts. -/
theorem back_round {s mi : Int} {en : Bool} {ps : List (List Int)} {i : Nat} {ss : Int} {sd : ByteArray} {se : Bool} (hs : 1 ≤ s) (hs2 : s ≤ 2147483647) (hl : ps.flatten.length ≤ 200) (hm : ∀ p ∈ ps, (p.length : Int) ≤ mi)
    (hi : i < ps.length) (hst : stB s en ps i = ⟨ss, sd, se⟩) :
    ∃ (F : Fr) (ts : Int) (td : ByteArray) (te : Bool) (vs : Int) (vd : ByteArray) (ve : Bool) (c0 : Int), (genC s 1 (if en then 1 else 0) ps)[i]? = some F ∧ stB s en ps (i + 1) = ⟨ts, td, te⟩ ∧
      onB ⟨ss, sd, se⟩ F = ⟨⟨ts, td, te⟩, ⟨vs, vd, ve⟩, decide (i + 1 = ps.length), 0⟩ ∧
      onB ⟨ss, sd, se⟩ ⟨0, 0, s, ⟨#[]⟩, 0, 0, false, 0, 0, 0, 0⟩ = ⟨⟨ss, sd, se⟩, ⟨0, ⟨#[]⟩, false⟩, false, c0⟩ ∧ (i = 0 → c0 = 0) ∧ (i ≠ 0 → c0 = 1) ∧
      (i + 1 = ps.length → vs = s ∧ vd = strOfNums ps.flatten ∧ ve = en) ∧ F.chk 0 = 0 ∧ 0 ≤ F.ty ∧ 0 ≤ F.fl ∧ F.fl ≤ 255 ∧ (F.data.size : Int) ≤ mi ∧ F.data.size ≤ 200 := by
  obtain ⟨p, hp⟩ : ∃ p, ps[i]? = some p := ⟨ps[i], List.getElem?_eq_getElem hi⟩
  have hpm : p ∈ ps := List.mem_of_getElem? hp
  have hpl : p.length ≤ 200 := by
    have htk : (ps.take (i + 1)).flatten = (ps.take i).flatten ++ p := by rw [List.take_add_one, hp]; simp
    have := take_flat_le ps (i + 1)
    rw [htk, List.length_append] at this
    omega
  have hon := step_on (en := en) hs hs2 (by omega) hp
  have hda := step_data (en := en) (i := i) hs hs2 (by omega) hi
  rw [hst] at hon hda
  refine ⟨_, (stB s en ps (i + 1)).s, (stB s en ps (i + 1)).d, (stB s en ps (i + 1)).e, (if i + 1 = ps.length then (⟨s, strOfNums ps.flatten, en⟩ : Bk) else Bk.zero).s, (if i + 1 = ps.length then (⟨s, strOfNums ps.flatten, en⟩ : Bk) else Bk.zero).d, (if i + 1 = ps.length then (⟨s, strOfNums ps.flatten, en⟩ : Bk) else Bk.zero).e, if i = 0 then 0 else 1,
    genC_at s ps 1 (if en then 1 else 0) i p hp, rfl, hon, hda, fun h => if_pos h, fun h => if_neg h, fun h => by rw [if_pos h]; exact ⟨rfl, rfl, rfl⟩, ?_, ?_, ?_, ?_, ?_, ?_⟩
  · refine part_chk s _ _ p hs hs2 (by omega) ?_
    by_cases h0 : i = 0
    · rw [if_pos h0, if_pos h0]
      refine .inl ⟨rfl, ?_⟩
      by_cases hq : i + 1 = ps.length <;> cases en <;> simp [hq]
    · rw [if_neg h0, if_neg h0]
      refine .inr ⟨rfl, ?_⟩
      split <;> simp
  · show 0 ≤ (if i = 0 then 1 else 9 : Int)
    split <;> omega
  · show 0 ≤ ((if i = 0 then (if en then 1 else 0) else 0) + (if i + 1 = ps.length then 4 else 0) : Int)
    split <;> split <;> (try split) <;> omega
  · show ((if i = 0 then (if en then 1 else 0) else 0) + (if i + 1 = ps.length then 4 else 0) : Int) ≤ 255
    split <;> split <;> (try split) <;> omega
  · show ((strOfNums p).size : Int) ≤ mi
    rw [str_len]
    exact hm p hpm
  · show (strOfNums p).size ≤ 200
    rw [str_len]
    exact hpl
end Go.Proofs.Ytighhdgaaelcdaa
namespace Go.Proofs.Ytighhdgaaelcdaa.blockBack
set_option linter.unusedSimpArgs false
set_option linter.unusedVariables false
open Go.RowKit Go.Proofs.Ytighhdgaaelcdaa

set_option maxRecDepth 100000 in
set_option maxHeartbeats 6400000 in
theorem walk (u : Int) (a : Option Addr) (n cap : Nat) (z : List Int) (q : Int) (w : World) (_w0 : (Lit.int .u32 u).wf = true) (h : IsRow .u8 w a n cap z) (_w2 : (Lit.int .u8 q).wf = true) :
    Calls Try.prog 5 #[.int .u32 u, .slice a n cap, .int .u8 q] w fun e w' => e = .returned (.bool true) ∧ Below w.heap.size w w' := by
  obtain ⟨hr, hnc, hc63⟩ := rb_of_row h
  have hnil : a = none → cap = 0 := fun e => by
    rcases h with ⟨_, _, h2, _⟩ | ⟨x, h1, _⟩
    · exact h2
    · rw [e] at h1; cases h1
  obtain ⟨xs, hxs⟩ : ∃ xs, xs = z.take n := ⟨_, rfl⟩
  rw [← hxs] at hr
  have HAW := hide (fun w => aw_block w)
  have hu := bounds_u32 _w0
  have hq := bounds_u8 _w2
  clear h hxs _w0 _w2
  by_cases hB : 200 < n
  · have hB1 : (200 : Int) < (n : Int) := by omega
    clear hB hr hnc hc63 hnil hu hq
    go_enter Try.func5, Try.ntmps5
    go_wp2_with fail
    refine (HAW.out _).mono ?_
    rintro e w1 ⟨rfl, hb1⟩
    have B1 := hide hb1
    clear hb1
    go_wp2_with fail
    go_ret
    exact ⟨rfl, B1.out⟩
  have hB1 : ¬ (200 : Int) < (n : Int) := by omega
  obtain ⟨u0, u1⟩ := hu
  obtain ⟨q0, q1⟩ := hq
  go_enter Try.func5, Try.ntmps5
  go_upto_region 5 with (fail)
  obtain ⟨s, hs⟩ : ∃ s, s = 1 + u % 2147483647 := ⟨_, rfl⟩
  obtain ⟨mi, hmi⟩ : ∃ m, m = 1 + q := ⟨_, rfl⟩
  obtain ⟨en, hen⟩ : ∃ b, b = (q % 2 == 0) := ⟨_, rfl⟩
  rw [← hs, ← hmi, ← hen]
  have s1 : 1 ≤ s := by omega
  have s2 : s ≤ 2147483647 := by omega
  have m1 : 1 ≤ mi := by omega
  have m2 : mi ≤ 16384 := by omega
  have hpr : partsR s mi en xs = (genC s 1 (if en then 1 else 0) (chunks mi.toNat xs.length xs), 0) := by rw [partsR, if_neg (by omega), if_neg (by rw [hr.1]; omega)]
  have HP := bk_Parts s mi a n cap en xs hnc hnil w hr
  rw [hpr] at HP
  have hne := chunks_ne mi.toNat xs.length xs
  have hjn := chunks_join (m := mi.toNat) xs.length xs
  have hmst := chunks_most (m := mi.toNat) (by omega) xs.length (xs := xs) (Nat.le_refl _)
  have hcl := chunks_len (m := mi.toNat) (by omega) xs.length (xs := xs) (Nat.le_refl _)
  obtain ⟨ps, hps⟩ : ∃ ps, ps = chunks mi.toNat xs.length xs := ⟨_, rfl⟩
  rw [← hps] at HP hne hjn hmst hcl
  obtain ⟨N, hN⟩ : ∃ N, N = ps.length := ⟨_, rfl⟩
  have hN1 : 1 ≤ N := by rw [hN]; exact List.length_pos_iff.2 hne
  have HPS := hide (show ps.flatten.length ≤ 200 ∧ (∀ p ∈ ps, (p.length : Int) ≤ mi) ∧ N = ps.length ∧ N ≤ 201 ∧ ps.flatten = xs ∧ 1 ≤ N from ⟨by rw [hjn, hr.1]; omega, fun p hp => by have := hmst p hp; omega, hN, by rw [hN]; rw [hr.1] at hcl; omega, hjn, hN1⟩)
  have HP2 : Calls Try.prog 13 #[.int .i64 s, .slice a n cap, .bool en, .int .i64 mi] w (GivesParts 34 (genC s 1 (if en then 1 else 0) ps) N 0 w) := by rw [hN, ← genC_len s ps 1 (if en then 1 else 0)]; exact HP
  have HS := hide (And.intro s1 s2)
  have HRB := hide hr
  obtain ⟨GL, hGL⟩ : ∃ l, l = genC s 1 (if en then 1 else 0) ps := ⟨_, rfl⟩
  rw [← hGL] at HP2
  have HGL := hide hGL
  clear hs hmi hen hpr HP hne hjn hmst hcl hps hN hN1 hr hnc hc63 hnil hB hB1 s1 s2 m1 m2 u0 u1 q0 q1 hGL
  go_wp2_with fail
  refine HP2.mono ?_
  rintro e w5 ⟨v, rfl, hown, hb⟩
  obtain ⟨g, cl, rfl, hgB, hgl⟩ := own_some hown HPS.out.2.2.2.2.2
  have HQ := hide (QL.of_own hown)
  have B5 := hide hb
  have HR5 := hide (HRB.out.below hb)
  clear HP2 hown hb hgB hgl HRB
  have n1 : ¬ (N : Int) < 1 := by have := HPS.out.2.2.2.2.2; omega
  have n2 : (N : Int) ≤ 201 := by have := HPS.out.2.2.2.1; omega
  go_upto_region 9 with (fail)
  obtain ⟨p, hp⟩ : ∃ g, g = w5.heap.size := ⟨_, rfl⟩
  have K6 := hide (BlkIs.new w5 29 #[.int .i64 0, .string ⟨#[]⟩, .bool false])
  have B6 := hide ((Below.refl w5.heap.size w5).alloc (Nat.le_refl _) (.cells #[.int .i64 0, .string ⟨#[]⟩, .bool false] 29))
  rw [← hp] at K6 ⊢
  have HPW := hide hp
  generalize w5.alloc (.cells #[.int .i64 0, .string ⟨#[]⟩, .bool false] 29) = w6 at K6 B6 ⊢
  clear hp
  go_wp2_with fail
  go_loopw [13] (fun k wr => ∃ (i : Nat) (ss : Int) (sd : ByteArray) (se : Bool), k = .int .i64 (i : Int) ∧ i ≤ N ∧ stB s en ps i = ⟨ss, sd, se⟩ ∧ BlkIs wr p 29 #[.int .i64 ss, .string sd, .bool se] ∧ Below w5.heap.size w5 wr) (fun k _ => N - (intOf k).toNat)
  case atStart => exact ⟨0, 0, ⟨#[]⟩, false, rfl, by omega, stB_zero _ _ _, K6.out, B6.out⟩
  case round =>
    obtain ⟨i, ss, sd, se, rfl, hi, hst, hk, hb⟩ := hrel
    have K0 := hide hk
    have B0 := hide hb
    clear hk hb
    by_cases hlt : i < N
    · have hlt1 : (i : Int) < (N : Int) := by omega
      obtain ⟨F, ts, td, te, vs, vd, ve, c0, hF, hts, hon, hda, hc0, hc1, hv, hck, t0, f0, f1, hdm, hd2⟩ := back_round HS.out.1 HS.out.2 HPS.out.1 HPS.out.2.1 (by rw [← HPS.out.2.2.1]; exact hlt) hst
      rw [← HPS.out.2.2.1] at hon hv
      rw [← HGL.out] at hF
      obtain ⟨g2, eg, hgl2, hrow⟩ := HQ.out.at_ i F hF
      injection eg with eg
      injection eg with eg
      subst eg
      have HROW := hide (show RowF w5 g (i * 12) F from ⟨hgl2, hrow⟩)
      have HCK := hide (fun w => part_check F hck t0 (by omega) w)
      have HOD := hide (fun w => on_data s ss sd se c0 hda w)
      obtain ⟨bi, hbi⟩ : ∃ b, b = decide (i + 1 = N) := ⟨_, rfl⟩
      rw [← hbi] at hon
      have HON := hide (fun w => on_is hon f0 f1 (by omega) w)
      have HX := hide (show (i = 0 → c0 = 0) ∧ (i ≠ 0 → c0 = 1) ∧ bi = decide (i + 1 = N) ∧ (i + 1 = N → vs = s ∧ vd = strOfNums xs ∧ ve = en) from ⟨hc0, hc1, hbi, fun h => by have := hv h; rw [HPS.out.2.2.2.2.1] at this; exact this⟩)
      have HTS := hide hts
      have hdm2 : ¬ mi < (F.data.size : Int) := by omega
      obtain ⟨fd, hfd⟩ : ∃ x, x = F.data := ⟨_, rfl⟩
      rw [← hfd] at hdm2
      have h3 : F.cl[3]? = some (.string fd) := by rw [hfd]; rfl
      have H3 := hide h3
      have HDM := hide hdm2
      clear hF hts hon hda hc0 hc1 hv hck t0 f0 f1 hdm hd2 hgl2 hrow hbi hdm2 hfd h3 hst
      have R0 := hide (HROW.out.keep B0.out)
      go_upto_region 12 with (fail)
      go_wp2_with (first | (refine wpList_load_mid rfl 34 (.tmp 59) rfl g (i * 12) rfl F.cl _ R0.out.2 Try.underlying34 rfl bf_size ?_))
      refine (HCK.out _).mono ?_
      rintro e w7 ⟨rfl, hb⟩
      have R7 := hide (R0.out.keep hb)
      have K7 := hide (K0.out.keep hb)
      have B7 := hide (B0.out.trans (hb.mono B0.out.size))
      clear hb R0 K0 B0 HCK
      have hdm2 := HDM.out
      have d3 := R7.out.cell 3 _ H3.out
      go_upto_region 14 with (fail)
      clear d3 hdm2
      go_wp2_with (first | (refine wpList_load_blk rfl 29 (.tmp 12) rfl p rfl 29 #[.int .i64 ss, .string sd, .bool se] _ K7.out Try.underlying29 rfl bk_size ?_))
      refine (HOD.out _).mono ?_
      rintro e w8 ⟨rfl, hb⟩
      have R8 := hide (R7.out.keep hb)
      have K8 := hide (K7.out.keep hb)
      have B8 := hide (B7.out.trans (hb.mono B7.out.size))
      clear hb R7 K7 B7 HOD
      go_upto_region 15 with (fail)
      have R9 := hide ((R8.out.alloc (.cells #[.int .i64 ss, .string sd, .bool se] 29)).alloc (.cells #[.int .i64 0, .string ⟨#[]⟩, .bool false] 30))
      have K9 := hide ((K8.out.alloc (.cells #[.int .i64 ss, .string sd, .bool se] 29)).alloc (.cells #[.int .i64 0, .string ⟨#[]⟩, .bool false] 30))
      have B9 := hide ((B8.out.alloc B8.out.size (.cells #[.int .i64 ss, .string sd, .bool se] 29)).alloc (by rw [World.size_alloc]; have := B8.out.size; omega) (.cells #[.int .i64 0, .string ⟨#[]⟩, .bool false] 30))
      generalize (w8.alloc (.cells #[.int .i64 ss, .string sd, .bool se] 29)).alloc (.cells #[.int .i64 0, .string ⟨#[]⟩, .bool false] 30) = w9 at R9 K9 B9 ⊢
      clear R8 K8 B8
      go_cut [18, 19, 20, 21] (fun s1 s2 s3 s4 wx => On2R w9 wx #[.int .i64 ts, .string td, .bool te] #[.int .i64 vs, .string vd, .bool ve] bi 0 s1 s2 s3 s4)
      case first =>
        refine wp_region_noPanic ?_
        refine wp_region_held_drew (S := fun w' => Below w9.heap.size w9 w') (by kernel_rfl) (Below.refl _ _).drew (fun hS => ?_)
        generalize w9.drew = wd at hS ⊢
        refine wpAnyH_take (i := 0) (by simp only [List.getElem?_toArray, List.getElem?_cons_zero] <;> exact rfl) (by kernel_rfl) (by kernel_rfl) (by kernel_rfl) (fun _ _ _ h => h) (rgs_yields_blk (by rfl) 29 (.tmp 12) (by rfl) p (by rfl) 29 #[.int .i64 ss, .string sd, .bool se] _ (fun w' hw' => K9.out.keep hw') Try.underlying29 rfl bk_size) hS ?_
        try simp only [Act.put, List.setIfInBounds_toArray, List.set_cons_zero, List.set_cons_succ]
        refine wpAnyH_take (i := 1) (v := ?_) (by simp only [List.getElem?_toArray, List.getElem?_cons_succ, List.getElem?_cons_zero] <;> exact rfl) (by kernel_rfl) (by kernel_rfl) (by kernel_rfl) (fun _ _ _ h => h) (Or.inl ⟨by rfl, ?_⟩) hS ?_
        rotate_left
        focus (intro w' hw'; go_simp; all_goals with_reducible rfl)
        try simp only [Act.put, List.setIfInBounds_toArray, List.set_cons_zero, List.set_cons_succ]
        refine wpAnyH_take (i := 2) (v := ?_) (by simp only [List.getElem?_toArray, List.getElem?_cons_succ, List.getElem?_cons_zero] <;> exact rfl) (by kernel_rfl) (by kernel_rfl) (by kernel_rfl) (fun _ _ _ h => h) (Or.inl ⟨by rfl, ?_⟩) hS ?_
        rotate_left
        focus (intro w' hw'; go_simp; all_goals with_reducible rfl)
        try simp only [Act.put, List.setIfInBounds_toArray, List.set_cons_zero, List.set_cons_succ]
        refine wpAnyH_take (i := 3) (v := ?_) (by simp only [List.getElem?_toArray, List.getElem?_cons_succ, List.getElem?_cons_zero] <;> exact rfl) (by kernel_rfl) (by kernel_rfl) (by kernel_rfl) (fun _ _ _ h => h) (Or.inl ⟨by rfl, ?_⟩) hS ?_
        rotate_left
        focus (intro w' hw'; go_simp; all_goals with_reducible rfl)
        try simp only [Act.put, List.setIfInBounds_toArray, List.set_cons_zero, List.set_cons_succ]
        refine wpAnyH_take (i := 4) (by simp only [List.getElem?_toArray, List.getElem?_cons_succ, List.getElem?_cons_zero] <;> exact rfl) (by kernel_rfl) (by kernel_rfl) (by kernel_rfl) (fun _ _ _ h => h) (yieldsIf_load_mid (by rfl) 34 (.tmp 86) (by rfl) g (i * 12) (by rfl) F.cl _ (fun w' hw' => range_keep R9.out.2 R9.out.1 hw') Try.underlying34 rfl bf_size) hS ?_
        try simp only [Act.put, List.setIfInBounds_toArray, List.set_cons_zero, List.set_cons_succ]
        refine wpAnyH_ready (rs := [5, 11, 12]) (by kernel_rfl) (by simp) ?_
        refine AllReadyH.cons (o := _) (by simp only [List.getElem?_toArray, List.getElem?_cons_succ, List.getElem?_cons_zero] <;> exact rfl) (fun K hK => ?_) ?_
        focus (
          go_simp
          go_at_call 7
          refine (HON.out _).mono ?_
          rintro e wr1 ⟨rfl, hb⟩
          have hS := hS.trans (hb.mono hS.size)
          clear hb
          go_wp2_with fail
          refine hK.out _ _ hS (fun _ => ?_)
          clear hK K
          try simp only [Act.put, List.setIfInBounds_toArray, List.set_cons_zero, List.set_cons_succ]
          refine wpAnyH_take (i := 6) (v := ?_) (by simp only [List.getElem?_toArray, List.getElem?_cons_succ, List.getElem?_cons_zero] <;> exact rfl) (by kernel_rfl) (by kernel_rfl) (by kernel_rfl) (fun _ _ _ h => h) (Or.inl ⟨by rfl, ?_⟩) hS ?_
          rotate_left
          focus (intro w' hw'; go_simp; all_goals with_reducible rfl)
          try simp only [Act.put, List.setIfInBounds_toArray, List.set_cons_zero, List.set_cons_succ]
          refine wpAnyH_take (i := 7) (v := ?_) (by simp only [List.getElem?_toArray, List.getElem?_cons_succ, List.getElem?_cons_zero] <;> exact rfl) (by kernel_rfl) (by kernel_rfl) (by kernel_rfl) (fun _ _ _ h => h) (Or.inl ⟨by rfl, ?_⟩) hS ?_
          rotate_left
          focus (intro w' hw'; go_simp; all_goals with_reducible rfl)
          try simp only [Act.put, List.setIfInBounds_toArray, List.set_cons_zero, List.set_cons_succ]
          refine wpAnyH_take (i := 8) (v := ?_) (by simp only [List.getElem?_toArray, List.getElem?_cons_succ, List.getElem?_cons_zero] <;> exact rfl) (by kernel_rfl) (by kernel_rfl) (by kernel_rfl) (fun _ _ _ h => h) (Or.inl ⟨by rfl, ?_⟩) hS ?_
          rotate_left
          focus (intro w' hw'; go_simp; all_goals with_reducible rfl)
          try simp only [Act.put, List.setIfInBounds_toArray, List.set_cons_zero, List.set_cons_succ]
          refine wpAnyH_take (i := 9) (v := ?_) (by simp only [List.getElem?_toArray, List.getElem?_cons_succ, List.getElem?_cons_zero] <;> exact rfl) (by kernel_rfl) (by kernel_rfl) (by kernel_rfl) (fun _ _ _ h => h) (Or.inl ⟨by rfl, ?_⟩) hS ?_
          rotate_left
          focus (intro w' hw'; go_simp; all_goals with_reducible rfl)
          try simp only [Act.put, List.setIfInBounds_toArray, List.set_cons_zero, List.set_cons_succ]
          refine wpAnyH_take (i := 10) (v := ?_) (by simp only [List.getElem?_toArray, List.getElem?_cons_succ, List.getElem?_cons_zero] <;> exact rfl) (by kernel_rfl) (by kernel_rfl) (by kernel_rfl) (fun _ _ _ h => h) (Or.inl ⟨by rfl, ?_⟩) hS ?_
          rotate_left
          focus (intro w' hw'; go_simp; all_goals with_reducible rfl)
          try simp only [Act.put, List.setIfInBounds_toArray, List.set_cons_zero, List.set_cons_succ]
          refine wpAnyH_ready (rs := [11, 12]) (by kernel_rfl) (by simp) ?_
          refine AllReadyH.cons (o := _) (by simp only [List.getElem?_toArray, List.getElem?_cons_succ, List.getElem?_cons_zero] <;> exact rfl) (fun K hK => ?_) ?_
          focus (
            go_simp
            have hz2 := hS.size
            have hS := hS.alloc hS.size (.cells #[.int .i64 0, .string ⟨#[]⟩, .bool false] 29)
            refine hK.out _ _ hS (fun _ => ?_)
            have Ex2 := BlkIs.new wr1 29 #[.int .i64 0, .string ⟨#[]⟩, .bool false]
            obtain ⟨x, hx⟩ : ∃ g, g = wr1.heap.size := ⟨_, rfl⟩
            have Mx : w9.heap.size ≤ x := by rw [hx]; exact hz2
            rw [← hx] at Ex2 ⊢
            generalize wr1.alloc (.cells #[.int .i64 0, .string ⟨#[]⟩, .bool false] 29) = wa2 at hS Ex2 ⊢
            clear hx hz2
            clear hK K
            try simp only [Act.put, List.setIfInBounds_toArray, List.set_cons_zero, List.set_cons_succ]
            refine wpAnyH_ready (rs := [12]) (by kernel_rfl) (by simp) ?_
            refine AllReadyH.cons (o := _) (by simp only [List.getElem?_toArray, List.getElem?_cons_succ, List.getElem?_cons_zero] <;> exact rfl) (fun K hK => ?_) ?_
            focus (
              go_simp
              have hz3 := hS.size
              have hS := hS.alloc hS.size (.cells #[.int .i64 0, .string ⟨#[]⟩, .bool false] 30)
              refine hK.out _ _ hS (fun _ => ?_)
              have Ex3 := Ex2.alloc (.cells #[.int .i64 0, .string ⟨#[]⟩, .bool false] 30)
              have Ey3 := BlkIs.new wa2 30 #[.int .i64 0, .string ⟨#[]⟩, .bool false]
              obtain ⟨y, hy⟩ : ∃ g, g = wa2.heap.size := ⟨_, rfl⟩
              have My : w9.heap.size ≤ y := by rw [hy]; exact hz3
              rw [← hy] at Ey3 ⊢
              have NE : x ≠ y := by have := Ex2.lt; omega
              generalize wa2.alloc (.cells #[.int .i64 0, .string ⟨#[]⟩, .bool false] 30) = wa3 at hS Ex3 Ey3 ⊢
              clear hy hz3
              clear hK K
              try simp only [Act.put, List.setIfInBounds_toArray, List.set_cons_zero, List.set_cons_succ]
              refine wpAnyH_ready (rs := [13]) (by kernel_rfl) (by simp) ?_
              refine AllReadyH.cons (o := _) (by simp only [List.getElem?_toArray, List.getElem?_cons_succ, List.getElem?_cons_zero] <;> exact rfl) (fun K hK => ?_) ?_
              focus (
                refine rgs_store_blk (by rfl) 29 (.tmp 18) (.tmp 89) (by rfl) x #[.int .i64 ts, .string td, .bool te] #[.int .i64 0, .string ⟨#[]⟩, .bool false] 29 (by rfl) (by rfl) Ex3 bk_size rfl (by simp [Value.oneCell']) ?_
                have hS := below_setRow hS Mx #[.int .i64 ts, .string td, .bool te]
                refine hK.out _ _ hS (fun _ => ?_)
                clear hK K
                try simp only [Act.put, List.setIfInBounds_toArray, List.set_cons_zero, List.set_cons_succ]
                refine wpAnyH_ready (rs := [14]) (by kernel_rfl) (by simp) ?_
                refine AllReadyH.cons (o := _) (by simp only [List.getElem?_toArray, List.getElem?_cons_succ, List.getElem?_cons_zero] <;> exact rfl) (fun K hK => ?_) ?_
                focus (
                  refine rgs_store_blk (by rfl) 30 (.tmp 19) (.tmp 90) (by rfl) y #[.int .i64 vs, .string vd, .bool ve] #[.int .i64 0, .string ⟨#[]⟩, .bool false] 30 (by rfl) (by rfl) (Ey3.row_other (Ne.symm NE) _) bw_size rfl (by simp [Value.oneCell']) ?_
                  have hS := below_setRow hS My #[.int .i64 vs, .string vd, .bool ve]
                  refine hK.out _ _ hS (fun _ => ?_)
                  clear hK K
                  try simp only [Act.put, List.setIfInBounds_toArray, List.set_cons_zero, List.set_cons_succ]
                  refine wpAnyH_take (i := 15) (v := ?_) (by simp only [List.getElem?_toArray, List.getElem?_cons_succ, List.getElem?_cons_zero] <;> exact rfl) (by kernel_rfl) (by kernel_rfl) (by kernel_rfl) (fun _ _ _ h => h) (Or.inl ⟨by rfl, ?_⟩) hS ?_
                  rotate_left
                  focus (intro w' hw'; go_simp; all_goals with_reducible rfl)
                  try simp only [Act.put, List.setIfInBounds_toArray, List.set_cons_zero, List.set_cons_succ]
                  refine wpAnyH_take (i := 16) (v := ?_) (by simp only [List.getElem?_toArray, List.getElem?_cons_succ, List.getElem?_cons_zero] <;> exact rfl) (by kernel_rfl) (by kernel_rfl) (by kernel_rfl) (fun _ _ _ h => h) (Or.inl ⟨by rfl, ?_⟩) hS ?_
                  rotate_left
                  focus (intro w' hw'; go_simp; all_goals with_reducible rfl)
                  try simp only [Act.put, List.setIfInBounds_toArray, List.set_cons_zero, List.set_cons_succ]
                  refine wpAnyH_done (by kernel_rfl) ?_ _
                  refine NoPanic.normal ?_
                  go_wp2
                  go_meet
                  exact ⟨x, y, rfl, rfl, rfl, rfl, (Ex3.row #[.int .i64 ts, .string td, .bool te]).row_other NE _, ((Ey3.row_other (Ne.symm NE) _).row #[.int .i64 vs, .string vd, .bool ve]), hS, Mx, My⟩)
                exact AllReadyH.nil)
              exact AllReadyH.nil)
            exact AllReadyH.nil)
          refine AllReadyH.cons (o := _) (by simp only [List.getElem?_toArray, List.getElem?_cons_succ, List.getElem?_cons_zero] <;> exact rfl) (fun K hK => ?_) ?_
          focus (
            go_simp
            have hz4 := hS.size
            have hS := hS.alloc hS.size (.cells #[.int .i64 0, .string ⟨#[]⟩, .bool false] 30)
            refine hK.out _ _ hS (fun _ => ?_)
            have Ey4 := BlkIs.new wr1 30 #[.int .i64 0, .string ⟨#[]⟩, .bool false]
            obtain ⟨y, hy⟩ : ∃ g, g = wr1.heap.size := ⟨_, rfl⟩
            have My : w9.heap.size ≤ y := by rw [hy]; exact hz4
            rw [← hy] at Ey4 ⊢
            generalize wr1.alloc (.cells #[.int .i64 0, .string ⟨#[]⟩, .bool false] 30) = wa4 at hS Ey4 ⊢
            clear hy hz4
            clear hK K
            try simp only [Act.put, List.setIfInBounds_toArray, List.set_cons_zero, List.set_cons_succ]
            refine wpAnyH_ready (rs := [11]) (by kernel_rfl) (by simp) ?_
            refine AllReadyH.cons (o := _) (by simp only [List.getElem?_toArray, List.getElem?_cons_succ, List.getElem?_cons_zero] <;> exact rfl) (fun K hK => ?_) ?_
            focus (
              go_simp
              have hz5 := hS.size
              have hS := hS.alloc hS.size (.cells #[.int .i64 0, .string ⟨#[]⟩, .bool false] 29)
              refine hK.out _ _ hS (fun _ => ?_)
              have Ey5 := Ey4.alloc (.cells #[.int .i64 0, .string ⟨#[]⟩, .bool false] 29)
              have Ex5 := BlkIs.new wa4 29 #[.int .i64 0, .string ⟨#[]⟩, .bool false]
              obtain ⟨x, hx⟩ : ∃ g, g = wa4.heap.size := ⟨_, rfl⟩
              have Mx : w9.heap.size ≤ x := by rw [hx]; exact hz5
              rw [← hx] at Ex5 ⊢
              have NE : x ≠ y := by have := Ey4.lt; omega
              generalize wa4.alloc (.cells #[.int .i64 0, .string ⟨#[]⟩, .bool false] 29) = wa5 at hS Ex5 Ey5 ⊢
              clear hx hz5
              clear hK K
              try simp only [Act.put, List.setIfInBounds_toArray, List.set_cons_zero, List.set_cons_succ]
              refine wpAnyH_ready (rs := [13]) (by kernel_rfl) (by simp) ?_
              refine AllReadyH.cons (o := _) (by simp only [List.getElem?_toArray, List.getElem?_cons_succ, List.getElem?_cons_zero] <;> exact rfl) (fun K hK => ?_) ?_
              focus (
                refine rgs_store_blk (by rfl) 29 (.tmp 18) (.tmp 89) (by rfl) x #[.int .i64 ts, .string td, .bool te] #[.int .i64 0, .string ⟨#[]⟩, .bool false] 29 (by rfl) (by rfl) Ex5 bk_size rfl (by simp [Value.oneCell']) ?_
                have hS := below_setRow hS Mx #[.int .i64 ts, .string td, .bool te]
                refine hK.out _ _ hS (fun _ => ?_)
                clear hK K
                try simp only [Act.put, List.setIfInBounds_toArray, List.set_cons_zero, List.set_cons_succ]
                refine wpAnyH_ready (rs := [14]) (by kernel_rfl) (by simp) ?_
                refine AllReadyH.cons (o := _) (by simp only [List.getElem?_toArray, List.getElem?_cons_succ, List.getElem?_cons_zero] <;> exact rfl) (fun K hK => ?_) ?_
                focus (
                  refine rgs_store_blk (by rfl) 30 (.tmp 19) (.tmp 90) (by rfl) y #[.int .i64 vs, .string vd, .bool ve] #[.int .i64 0, .string ⟨#[]⟩, .bool false] 30 (by rfl) (by rfl) (Ey5.row_other (Ne.symm NE) _) bw_size rfl (by simp [Value.oneCell']) ?_
                  have hS := below_setRow hS My #[.int .i64 vs, .string vd, .bool ve]
                  refine hK.out _ _ hS (fun _ => ?_)
                  clear hK K
                  try simp only [Act.put, List.setIfInBounds_toArray, List.set_cons_zero, List.set_cons_succ]
                  refine wpAnyH_take (i := 15) (v := ?_) (by simp only [List.getElem?_toArray, List.getElem?_cons_succ, List.getElem?_cons_zero] <;> exact rfl) (by kernel_rfl) (by kernel_rfl) (by kernel_rfl) (fun _ _ _ h => h) (Or.inl ⟨by rfl, ?_⟩) hS ?_
                  rotate_left
                  focus (intro w' hw'; go_simp; all_goals with_reducible rfl)
                  try simp only [Act.put, List.setIfInBounds_toArray, List.set_cons_zero, List.set_cons_succ]
                  refine wpAnyH_take (i := 16) (v := ?_) (by simp only [List.getElem?_toArray, List.getElem?_cons_succ, List.getElem?_cons_zero] <;> exact rfl) (by kernel_rfl) (by kernel_rfl) (by kernel_rfl) (fun _ _ _ h => h) (Or.inl ⟨by rfl, ?_⟩) hS ?_
                  rotate_left
                  focus (intro w' hw'; go_simp; all_goals with_reducible rfl)
                  try simp only [Act.put, List.setIfInBounds_toArray, List.set_cons_zero, List.set_cons_succ]
                  refine wpAnyH_done (by kernel_rfl) ?_ _
                  refine NoPanic.normal ?_
                  go_wp2
                  go_meet
                  exact ⟨x, y, rfl, rfl, rfl, rfl, (Ex5.row #[.int .i64 ts, .string td, .bool te]).row_other NE _, ((Ey5.row_other (Ne.symm NE) _).row #[.int .i64 vs, .string vd, .bool ve]), hS, Mx, My⟩)
                exact AllReadyH.nil)
              exact AllReadyH.nil)
            exact AllReadyH.nil)
          exact AllReadyH.nil)
        refine AllReadyH.cons (o := _) (by simp only [List.getElem?_toArray, List.getElem?_cons_succ, List.getElem?_cons_zero] <;> exact rfl) (fun K hK => ?_) ?_
        focus (
          go_simp
          have hz6 := hS.size
          have hS := hS.alloc hS.size (.cells #[.int .i64 0, .string ⟨#[]⟩, .bool false] 29)
          refine hK.out _ _ hS (fun _ => ?_)
          have Ex6 := BlkIs.new wd 29 #[.int .i64 0, .string ⟨#[]⟩, .bool false]
          obtain ⟨x, hx⟩ : ∃ g, g = wd.heap.size := ⟨_, rfl⟩
          have Mx : w9.heap.size ≤ x := by rw [hx]; exact hz6
          rw [← hx] at Ex6 ⊢
          generalize wd.alloc (.cells #[.int .i64 0, .string ⟨#[]⟩, .bool false] 29) = wa6 at hS Ex6 ⊢
          clear hx hz6
          clear hK K
          try simp only [Act.put, List.setIfInBounds_toArray, List.set_cons_zero, List.set_cons_succ]
          refine wpAnyH_ready (rs := [5, 12]) (by kernel_rfl) (by simp) ?_
          refine AllReadyH.cons (o := _) (by simp only [List.getElem?_toArray, List.getElem?_cons_succ, List.getElem?_cons_zero] <;> exact rfl) (fun K hK => ?_) ?_
          focus (
            go_simp
            go_at_call 7
            refine (HON.out _).mono ?_
            rintro e wr7 ⟨rfl, hb⟩
            have hS := hS.trans (hb.mono hS.size)
            have Ex7 := Ex6.keep hb
            clear hb
            go_wp2_with fail
            refine hK.out _ _ hS (fun _ => ?_)
            clear hK K
            try simp only [Act.put, List.setIfInBounds_toArray, List.set_cons_zero, List.set_cons_succ]
            refine wpAnyH_take (i := 6) (v := ?_) (by simp only [List.getElem?_toArray, List.getElem?_cons_succ, List.getElem?_cons_zero] <;> exact rfl) (by kernel_rfl) (by kernel_rfl) (by kernel_rfl) (fun _ _ _ h => h) (Or.inl ⟨by rfl, ?_⟩) hS ?_
            rotate_left
            focus (intro w' hw'; go_simp; all_goals with_reducible rfl)
            try simp only [Act.put, List.setIfInBounds_toArray, List.set_cons_zero, List.set_cons_succ]
            refine wpAnyH_take (i := 7) (v := ?_) (by simp only [List.getElem?_toArray, List.getElem?_cons_succ, List.getElem?_cons_zero] <;> exact rfl) (by kernel_rfl) (by kernel_rfl) (by kernel_rfl) (fun _ _ _ h => h) (Or.inl ⟨by rfl, ?_⟩) hS ?_
            rotate_left
            focus (intro w' hw'; go_simp; all_goals with_reducible rfl)
            try simp only [Act.put, List.setIfInBounds_toArray, List.set_cons_zero, List.set_cons_succ]
            refine wpAnyH_take (i := 8) (v := ?_) (by simp only [List.getElem?_toArray, List.getElem?_cons_succ, List.getElem?_cons_zero] <;> exact rfl) (by kernel_rfl) (by kernel_rfl) (by kernel_rfl) (fun _ _ _ h => h) (Or.inl ⟨by rfl, ?_⟩) hS ?_
            rotate_left
            focus (intro w' hw'; go_simp; all_goals with_reducible rfl)
            try simp only [Act.put, List.setIfInBounds_toArray, List.set_cons_zero, List.set_cons_succ]
            refine wpAnyH_take (i := 9) (v := ?_) (by simp only [List.getElem?_toArray, List.getElem?_cons_succ, List.getElem?_cons_zero] <;> exact rfl) (by kernel_rfl) (by kernel_rfl) (by kernel_rfl) (fun _ _ _ h => h) (Or.inl ⟨by rfl, ?_⟩) hS ?_
            rotate_left
            focus (intro w' hw'; go_simp; all_goals with_reducible rfl)
            try simp only [Act.put, List.setIfInBounds_toArray, List.set_cons_zero, List.set_cons_succ]
            refine wpAnyH_take (i := 10) (v := ?_) (by simp only [List.getElem?_toArray, List.getElem?_cons_succ, List.getElem?_cons_zero] <;> exact rfl) (by kernel_rfl) (by kernel_rfl) (by kernel_rfl) (fun _ _ _ h => h) (Or.inl ⟨by rfl, ?_⟩) hS ?_
            rotate_left
            focus (intro w' hw'; go_simp; all_goals with_reducible rfl)
            try simp only [Act.put, List.setIfInBounds_toArray, List.set_cons_zero, List.set_cons_succ]
            refine wpAnyH_ready (rs := [12]) (by kernel_rfl) (by simp) ?_
            refine AllReadyH.cons (o := _) (by simp only [List.getElem?_toArray, List.getElem?_cons_succ, List.getElem?_cons_zero] <;> exact rfl) (fun K hK => ?_) ?_
            focus (
              go_simp
              have hz8 := hS.size
              have hS := hS.alloc hS.size (.cells #[.int .i64 0, .string ⟨#[]⟩, .bool false] 30)
              refine hK.out _ _ hS (fun _ => ?_)
              have Ex8 := Ex7.alloc (.cells #[.int .i64 0, .string ⟨#[]⟩, .bool false] 30)
              have Ey8 := BlkIs.new wr7 30 #[.int .i64 0, .string ⟨#[]⟩, .bool false]
              obtain ⟨y, hy⟩ : ∃ g, g = wr7.heap.size := ⟨_, rfl⟩
              have My : w9.heap.size ≤ y := by rw [hy]; exact hz8
              rw [← hy] at Ey8 ⊢
              have NE : x ≠ y := by have := Ex7.lt; omega
              generalize wr7.alloc (.cells #[.int .i64 0, .string ⟨#[]⟩, .bool false] 30) = wa8 at hS Ex8 Ey8 ⊢
              clear hy hz8
              clear hK K
              try simp only [Act.put, List.setIfInBounds_toArray, List.set_cons_zero, List.set_cons_succ]
              refine wpAnyH_ready (rs := [13]) (by kernel_rfl) (by simp) ?_
              refine AllReadyH.cons (o := _) (by simp only [List.getElem?_toArray, List.getElem?_cons_succ, List.getElem?_cons_zero] <;> exact rfl) (fun K hK => ?_) ?_
              focus (
                refine rgs_store_blk (by rfl) 29 (.tmp 18) (.tmp 89) (by rfl) x #[.int .i64 ts, .string td, .bool te] #[.int .i64 0, .string ⟨#[]⟩, .bool false] 29 (by rfl) (by rfl) Ex8 bk_size rfl (by simp [Value.oneCell']) ?_
                have hS := below_setRow hS Mx #[.int .i64 ts, .string td, .bool te]
                refine hK.out _ _ hS (fun _ => ?_)
                clear hK K
                try simp only [Act.put, List.setIfInBounds_toArray, List.set_cons_zero, List.set_cons_succ]
                refine wpAnyH_ready (rs := [14]) (by kernel_rfl) (by simp) ?_
                refine AllReadyH.cons (o := _) (by simp only [List.getElem?_toArray, List.getElem?_cons_succ, List.getElem?_cons_zero] <;> exact rfl) (fun K hK => ?_) ?_
                focus (
                  refine rgs_store_blk (by rfl) 30 (.tmp 19) (.tmp 90) (by rfl) y #[.int .i64 vs, .string vd, .bool ve] #[.int .i64 0, .string ⟨#[]⟩, .bool false] 30 (by rfl) (by rfl) (Ey8.row_other (Ne.symm NE) _) bw_size rfl (by simp [Value.oneCell']) ?_
                  have hS := below_setRow hS My #[.int .i64 vs, .string vd, .bool ve]
                  refine hK.out _ _ hS (fun _ => ?_)
                  clear hK K
                  try simp only [Act.put, List.setIfInBounds_toArray, List.set_cons_zero, List.set_cons_succ]
                  refine wpAnyH_take (i := 15) (v := ?_) (by simp only [List.getElem?_toArray, List.getElem?_cons_succ, List.getElem?_cons_zero] <;> exact rfl) (by kernel_rfl) (by kernel_rfl) (by kernel_rfl) (fun _ _ _ h => h) (Or.inl ⟨by rfl, ?_⟩) hS ?_
                  rotate_left
                  focus (intro w' hw'; go_simp; all_goals with_reducible rfl)
                  try simp only [Act.put, List.setIfInBounds_toArray, List.set_cons_zero, List.set_cons_succ]
                  refine wpAnyH_take (i := 16) (v := ?_) (by simp only [List.getElem?_toArray, List.getElem?_cons_succ, List.getElem?_cons_zero] <;> exact rfl) (by kernel_rfl) (by kernel_rfl) (by kernel_rfl) (fun _ _ _ h => h) (Or.inl ⟨by rfl, ?_⟩) hS ?_
                  rotate_left
                  focus (intro w' hw'; go_simp; all_goals with_reducible rfl)
                  try simp only [Act.put, List.setIfInBounds_toArray, List.set_cons_zero, List.set_cons_succ]
                  refine wpAnyH_done (by kernel_rfl) ?_ _
                  refine NoPanic.normal ?_
                  go_wp2
                  go_meet
                  exact ⟨x, y, rfl, rfl, rfl, rfl, (Ex8.row #[.int .i64 ts, .string td, .bool te]).row_other NE _, ((Ey8.row_other (Ne.symm NE) _).row #[.int .i64 vs, .string vd, .bool ve]), hS, Mx, My⟩)
                exact AllReadyH.nil)
              exact AllReadyH.nil)
            exact AllReadyH.nil)
          refine AllReadyH.cons (o := _) (by simp only [List.getElem?_toArray, List.getElem?_cons_succ, List.getElem?_cons_zero] <;> exact rfl) (fun K hK => ?_) ?_
          focus (
            go_simp
            have hz9 := hS.size
            have hS := hS.alloc hS.size (.cells #[.int .i64 0, .string ⟨#[]⟩, .bool false] 30)
            refine hK.out _ _ hS (fun _ => ?_)
            have Ex9 := Ex6.alloc (.cells #[.int .i64 0, .string ⟨#[]⟩, .bool false] 30)
            have Ey9 := BlkIs.new wa6 30 #[.int .i64 0, .string ⟨#[]⟩, .bool false]
            obtain ⟨y, hy⟩ : ∃ g, g = wa6.heap.size := ⟨_, rfl⟩
            have My : w9.heap.size ≤ y := by rw [hy]; exact hz9
            rw [← hy] at Ey9 ⊢
            have NE : x ≠ y := by have := Ex6.lt; omega
            generalize wa6.alloc (.cells #[.int .i64 0, .string ⟨#[]⟩, .bool false] 30) = wa9 at hS Ex9 Ey9 ⊢
            clear hy hz9
            clear hK K
            try simp only [Act.put, List.setIfInBounds_toArray, List.set_cons_zero, List.set_cons_succ]
            refine wpAnyH_ready (rs := [5]) (by kernel_rfl) (by simp) ?_
            refine AllReadyH.cons (o := _) (by simp only [List.getElem?_toArray, List.getElem?_cons_succ, List.getElem?_cons_zero] <;> exact rfl) (fun K hK => ?_) ?_
            focus (
              go_simp
              go_at_call 7
              refine (HON.out _).mono ?_
              rintro e wr10 ⟨rfl, hb⟩
              have hS := hS.trans (hb.mono hS.size)
              have Ex10 := Ex9.keep hb
              have Ey10 := Ey9.keep hb
              clear hb
              go_wp2_with fail
              refine hK.out _ _ hS (fun _ => ?_)
              clear hK K
              try simp only [Act.put, List.setIfInBounds_toArray, List.set_cons_zero, List.set_cons_succ]
              refine wpAnyH_take (i := 6) (v := ?_) (by simp only [List.getElem?_toArray, List.getElem?_cons_succ, List.getElem?_cons_zero] <;> exact rfl) (by kernel_rfl) (by kernel_rfl) (by kernel_rfl) (fun _ _ _ h => h) (Or.inl ⟨by rfl, ?_⟩) hS ?_
              rotate_left
              focus (intro w' hw'; go_simp; all_goals with_reducible rfl)
              try simp only [Act.put, List.setIfInBounds_toArray, List.set_cons_zero, List.set_cons_succ]
              refine wpAnyH_take (i := 7) (v := ?_) (by simp only [List.getElem?_toArray, List.getElem?_cons_succ, List.getElem?_cons_zero] <;> exact rfl) (by kernel_rfl) (by kernel_rfl) (by kernel_rfl) (fun _ _ _ h => h) (Or.inl ⟨by rfl, ?_⟩) hS ?_
              rotate_left
              focus (intro w' hw'; go_simp; all_goals with_reducible rfl)
              try simp only [Act.put, List.setIfInBounds_toArray, List.set_cons_zero, List.set_cons_succ]
              refine wpAnyH_take (i := 8) (v := ?_) (by simp only [List.getElem?_toArray, List.getElem?_cons_succ, List.getElem?_cons_zero] <;> exact rfl) (by kernel_rfl) (by kernel_rfl) (by kernel_rfl) (fun _ _ _ h => h) (Or.inl ⟨by rfl, ?_⟩) hS ?_
              rotate_left
              focus (intro w' hw'; go_simp; all_goals with_reducible rfl)
              try simp only [Act.put, List.setIfInBounds_toArray, List.set_cons_zero, List.set_cons_succ]
              refine wpAnyH_take (i := 9) (v := ?_) (by simp only [List.getElem?_toArray, List.getElem?_cons_succ, List.getElem?_cons_zero] <;> exact rfl) (by kernel_rfl) (by kernel_rfl) (by kernel_rfl) (fun _ _ _ h => h) (Or.inl ⟨by rfl, ?_⟩) hS ?_
              rotate_left
              focus (intro w' hw'; go_simp; all_goals with_reducible rfl)
              try simp only [Act.put, List.setIfInBounds_toArray, List.set_cons_zero, List.set_cons_succ]
              refine wpAnyH_take (i := 10) (v := ?_) (by simp only [List.getElem?_toArray, List.getElem?_cons_succ, List.getElem?_cons_zero] <;> exact rfl) (by kernel_rfl) (by kernel_rfl) (by kernel_rfl) (fun _ _ _ h => h) (Or.inl ⟨by rfl, ?_⟩) hS ?_
              rotate_left
              focus (intro w' hw'; go_simp; all_goals with_reducible rfl)
              try simp only [Act.put, List.setIfInBounds_toArray, List.set_cons_zero, List.set_cons_succ]
              refine wpAnyH_ready (rs := [13]) (by kernel_rfl) (by simp) ?_
              refine AllReadyH.cons (o := _) (by simp only [List.getElem?_toArray, List.getElem?_cons_succ, List.getElem?_cons_zero] <;> exact rfl) (fun K hK => ?_) ?_
              focus (
                refine rgs_store_blk (by rfl) 29 (.tmp 18) (.tmp 89) (by rfl) x #[.int .i64 ts, .string td, .bool te] #[.int .i64 0, .string ⟨#[]⟩, .bool false] 29 (by rfl) (by rfl) Ex10 bk_size rfl (by simp [Value.oneCell']) ?_
                have hS := below_setRow hS Mx #[.int .i64 ts, .string td, .bool te]
                refine hK.out _ _ hS (fun _ => ?_)
                clear hK K
                try simp only [Act.put, List.setIfInBounds_toArray, List.set_cons_zero, List.set_cons_succ]
                refine wpAnyH_ready (rs := [14]) (by kernel_rfl) (by simp) ?_
                refine AllReadyH.cons (o := _) (by simp only [List.getElem?_toArray, List.getElem?_cons_succ, List.getElem?_cons_zero] <;> exact rfl) (fun K hK => ?_) ?_
                focus (
                  refine rgs_store_blk (by rfl) 30 (.tmp 19) (.tmp 90) (by rfl) y #[.int .i64 vs, .string vd, .bool ve] #[.int .i64 0, .string ⟨#[]⟩, .bool false] 30 (by rfl) (by rfl) (Ey10.row_other (Ne.symm NE) _) bw_size rfl (by simp [Value.oneCell']) ?_
                  have hS := below_setRow hS My #[.int .i64 vs, .string vd, .bool ve]
                  refine hK.out _ _ hS (fun _ => ?_)
                  clear hK K
                  try simp only [Act.put, List.setIfInBounds_toArray, List.set_cons_zero, List.set_cons_succ]
                  refine wpAnyH_take (i := 15) (v := ?_) (by simp only [List.getElem?_toArray, List.getElem?_cons_succ, List.getElem?_cons_zero] <;> exact rfl) (by kernel_rfl) (by kernel_rfl) (by kernel_rfl) (fun _ _ _ h => h) (Or.inl ⟨by rfl, ?_⟩) hS ?_
                  rotate_left
                  focus (intro w' hw'; go_simp; all_goals with_reducible rfl)
                  try simp only [Act.put, List.setIfInBounds_toArray, List.set_cons_zero, List.set_cons_succ]
                  refine wpAnyH_take (i := 16) (v := ?_) (by simp only [List.getElem?_toArray, List.getElem?_cons_succ, List.getElem?_cons_zero] <;> exact rfl) (by kernel_rfl) (by kernel_rfl) (by kernel_rfl) (fun _ _ _ h => h) (Or.inl ⟨by rfl, ?_⟩) hS ?_
                  rotate_left
                  focus (intro w' hw'; go_simp; all_goals with_reducible rfl)
                  try simp only [Act.put, List.setIfInBounds_toArray, List.set_cons_zero, List.set_cons_succ]
                  refine wpAnyH_done (by kernel_rfl) ?_ _
                  refine NoPanic.normal ?_
                  go_wp2
                  go_meet
                  exact ⟨x, y, rfl, rfl, rfl, rfl, (Ex10.row #[.int .i64 ts, .string td, .bool te]).row_other NE _, ((Ey10.row_other (Ne.symm NE) _).row #[.int .i64 vs, .string vd, .bool ve]), hS, Mx, My⟩)
                exact AllReadyH.nil)
              exact AllReadyH.nil)
            exact AllReadyH.nil)
          exact AllReadyH.nil)
        refine AllReadyH.cons (o := _) (by simp only [List.getElem?_toArray, List.getElem?_cons_succ, List.getElem?_cons_zero] <;> exact rfl) (fun K hK => ?_) ?_
        focus (
          go_simp
          have hz11 := hS.size
          have hS := hS.alloc hS.size (.cells #[.int .i64 0, .string ⟨#[]⟩, .bool false] 30)
          refine hK.out _ _ hS (fun _ => ?_)
          have Ey11 := BlkIs.new wd 30 #[.int .i64 0, .string ⟨#[]⟩, .bool false]
          obtain ⟨y, hy⟩ : ∃ g, g = wd.heap.size := ⟨_, rfl⟩
          have My : w9.heap.size ≤ y := by rw [hy]; exact hz11
          rw [← hy] at Ey11 ⊢
          generalize wd.alloc (.cells #[.int .i64 0, .string ⟨#[]⟩, .bool false] 30) = wa11 at hS Ey11 ⊢
          clear hy hz11
          clear hK K
          try simp only [Act.put, List.setIfInBounds_toArray, List.set_cons_zero, List.set_cons_succ]
          refine wpAnyH_ready (rs := [5, 11]) (by kernel_rfl) (by simp) ?_
          refine AllReadyH.cons (o := _) (by simp only [List.getElem?_toArray, List.getElem?_cons_succ, List.getElem?_cons_zero] <;> exact rfl) (fun K hK => ?_) ?_
          focus (
            go_simp
            go_at_call 7
            refine (HON.out _).mono ?_
            rintro e wr12 ⟨rfl, hb⟩
            have hS := hS.trans (hb.mono hS.size)
            have Ey12 := Ey11.keep hb
            clear hb
            go_wp2_with fail
            refine hK.out _ _ hS (fun _ => ?_)
            clear hK K
            try simp only [Act.put, List.setIfInBounds_toArray, List.set_cons_zero, List.set_cons_succ]
            refine wpAnyH_take (i := 6) (v := ?_) (by simp only [List.getElem?_toArray, List.getElem?_cons_succ, List.getElem?_cons_zero] <;> exact rfl) (by kernel_rfl) (by kernel_rfl) (by kernel_rfl) (fun _ _ _ h => h) (Or.inl ⟨by rfl, ?_⟩) hS ?_
            rotate_left
            focus (intro w' hw'; go_simp; all_goals with_reducible rfl)
            try simp only [Act.put, List.setIfInBounds_toArray, List.set_cons_zero, List.set_cons_succ]
            refine wpAnyH_take (i := 7) (v := ?_) (by simp only [List.getElem?_toArray, List.getElem?_cons_succ, List.getElem?_cons_zero] <;> exact rfl) (by kernel_rfl) (by kernel_rfl) (by kernel_rfl) (fun _ _ _ h => h) (Or.inl ⟨by rfl, ?_⟩) hS ?_
            rotate_left
            focus (intro w' hw'; go_simp; all_goals with_reducible rfl)
            try simp only [Act.put, List.setIfInBounds_toArray, List.set_cons_zero, List.set_cons_succ]
            refine wpAnyH_take (i := 8) (v := ?_) (by simp only [List.getElem?_toArray, List.getElem?_cons_succ, List.getElem?_cons_zero] <;> exact rfl) (by kernel_rfl) (by kernel_rfl) (by kernel_rfl) (fun _ _ _ h => h) (Or.inl ⟨by rfl, ?_⟩) hS ?_
            rotate_left
            focus (intro w' hw'; go_simp; all_goals with_reducible rfl)
            try simp only [Act.put, List.setIfInBounds_toArray, List.set_cons_zero, List.set_cons_succ]
            refine wpAnyH_take (i := 9) (v := ?_) (by simp only [List.getElem?_toArray, List.getElem?_cons_succ, List.getElem?_cons_zero] <;> exact rfl) (by kernel_rfl) (by kernel_rfl) (by kernel_rfl) (fun _ _ _ h => h) (Or.inl ⟨by rfl, ?_⟩) hS ?_
            rotate_left
            focus (intro w' hw'; go_simp; all_goals with_reducible rfl)
            try simp only [Act.put, List.setIfInBounds_toArray, List.set_cons_zero, List.set_cons_succ]
            refine wpAnyH_take (i := 10) (v := ?_) (by simp only [List.getElem?_toArray, List.getElem?_cons_succ, List.getElem?_cons_zero] <;> exact rfl) (by kernel_rfl) (by kernel_rfl) (by kernel_rfl) (fun _ _ _ h => h) (Or.inl ⟨by rfl, ?_⟩) hS ?_
            rotate_left
            focus (intro w' hw'; go_simp; all_goals with_reducible rfl)
            try simp only [Act.put, List.setIfInBounds_toArray, List.set_cons_zero, List.set_cons_succ]
            refine wpAnyH_ready (rs := [11]) (by kernel_rfl) (by simp) ?_
            refine AllReadyH.cons (o := _) (by simp only [List.getElem?_toArray, List.getElem?_cons_succ, List.getElem?_cons_zero] <;> exact rfl) (fun K hK => ?_) ?_
            focus (
              go_simp
              have hz13 := hS.size
              have hS := hS.alloc hS.size (.cells #[.int .i64 0, .string ⟨#[]⟩, .bool false] 29)
              refine hK.out _ _ hS (fun _ => ?_)
              have Ey13 := Ey12.alloc (.cells #[.int .i64 0, .string ⟨#[]⟩, .bool false] 29)
              have Ex13 := BlkIs.new wr12 29 #[.int .i64 0, .string ⟨#[]⟩, .bool false]
              obtain ⟨x, hx⟩ : ∃ g, g = wr12.heap.size := ⟨_, rfl⟩
              have Mx : w9.heap.size ≤ x := by rw [hx]; exact hz13
              rw [← hx] at Ex13 ⊢
              have NE : x ≠ y := by have := Ey12.lt; omega
              generalize wr12.alloc (.cells #[.int .i64 0, .string ⟨#[]⟩, .bool false] 29) = wa13 at hS Ex13 Ey13 ⊢
              clear hx hz13
              clear hK K
              try simp only [Act.put, List.setIfInBounds_toArray, List.set_cons_zero, List.set_cons_succ]
              refine wpAnyH_ready (rs := [13]) (by kernel_rfl) (by simp) ?_
              refine AllReadyH.cons (o := _) (by simp only [List.getElem?_toArray, List.getElem?_cons_succ, List.getElem?_cons_zero] <;> exact rfl) (fun K hK => ?_) ?_
              focus (
                refine rgs_store_blk (by rfl) 29 (.tmp 18) (.tmp 89) (by rfl) x #[.int .i64 ts, .string td, .bool te] #[.int .i64 0, .string ⟨#[]⟩, .bool false] 29 (by rfl) (by rfl) Ex13 bk_size rfl (by simp [Value.oneCell']) ?_
                have hS := below_setRow hS Mx #[.int .i64 ts, .string td, .bool te]
                refine hK.out _ _ hS (fun _ => ?_)
                clear hK K
                try simp only [Act.put, List.setIfInBounds_toArray, List.set_cons_zero, List.set_cons_succ]
                refine wpAnyH_ready (rs := [14]) (by kernel_rfl) (by simp) ?_
                refine AllReadyH.cons (o := _) (by simp only [List.getElem?_toArray, List.getElem?_cons_succ, List.getElem?_cons_zero] <;> exact rfl) (fun K hK => ?_) ?_
                focus (
                  refine rgs_store_blk (by rfl) 30 (.tmp 19) (.tmp 90) (by rfl) y #[.int .i64 vs, .string vd, .bool ve] #[.int .i64 0, .string ⟨#[]⟩, .bool false] 30 (by rfl) (by rfl) (Ey13.row_other (Ne.symm NE) _) bw_size rfl (by simp [Value.oneCell']) ?_
                  have hS := below_setRow hS My #[.int .i64 vs, .string vd, .bool ve]
                  refine hK.out _ _ hS (fun _ => ?_)
                  clear hK K
                  try simp only [Act.put, List.setIfInBounds_toArray, List.set_cons_zero, List.set_cons_succ]
                  refine wpAnyH_take (i := 15) (v := ?_) (by simp only [List.getElem?_toArray, List.getElem?_cons_succ, List.getElem?_cons_zero] <;> exact rfl) (by kernel_rfl) (by kernel_rfl) (by kernel_rfl) (fun _ _ _ h => h) (Or.inl ⟨by rfl, ?_⟩) hS ?_
                  rotate_left
                  focus (intro w' hw'; go_simp; all_goals with_reducible rfl)
                  try simp only [Act.put, List.setIfInBounds_toArray, List.set_cons_zero, List.set_cons_succ]
                  refine wpAnyH_take (i := 16) (v := ?_) (by simp only [List.getElem?_toArray, List.getElem?_cons_succ, List.getElem?_cons_zero] <;> exact rfl) (by kernel_rfl) (by kernel_rfl) (by kernel_rfl) (fun _ _ _ h => h) (Or.inl ⟨by rfl, ?_⟩) hS ?_
                  rotate_left
                  focus (intro w' hw'; go_simp; all_goals with_reducible rfl)
                  try simp only [Act.put, List.setIfInBounds_toArray, List.set_cons_zero, List.set_cons_succ]
                  refine wpAnyH_done (by kernel_rfl) ?_ _
                  refine NoPanic.normal ?_
                  go_wp2
                  go_meet
                  exact ⟨x, y, rfl, rfl, rfl, rfl, (Ex13.row #[.int .i64 ts, .string td, .bool te]).row_other NE _, ((Ey13.row_other (Ne.symm NE) _).row #[.int .i64 vs, .string vd, .bool ve]), hS, Mx, My⟩)
                exact AllReadyH.nil)
              exact AllReadyH.nil)
            exact AllReadyH.nil)
          refine AllReadyH.cons (o := _) (by simp only [List.getElem?_toArray, List.getElem?_cons_succ, List.getElem?_cons_zero] <;> exact rfl) (fun K hK => ?_) ?_
          focus (
            go_simp
            have hz14 := hS.size
            have hS := hS.alloc hS.size (.cells #[.int .i64 0, .string ⟨#[]⟩, .bool false] 29)
            refine hK.out _ _ hS (fun _ => ?_)
            have Ey14 := Ey11.alloc (.cells #[.int .i64 0, .string ⟨#[]⟩, .bool false] 29)
            have Ex14 := BlkIs.new wa11 29 #[.int .i64 0, .string ⟨#[]⟩, .bool false]
            obtain ⟨x, hx⟩ : ∃ g, g = wa11.heap.size := ⟨_, rfl⟩
            have Mx : w9.heap.size ≤ x := by rw [hx]; exact hz14
            rw [← hx] at Ex14 ⊢
            have NE : x ≠ y := by have := Ey11.lt; omega
            generalize wa11.alloc (.cells #[.int .i64 0, .string ⟨#[]⟩, .bool false] 29) = wa14 at hS Ex14 Ey14 ⊢
            clear hx hz14
            clear hK K
            try simp only [Act.put, List.setIfInBounds_toArray, List.set_cons_zero, List.set_cons_succ]
            refine wpAnyH_ready (rs := [5]) (by kernel_rfl) (by simp) ?_
            refine AllReadyH.cons (o := _) (by simp only [List.getElem?_toArray, List.getElem?_cons_succ, List.getElem?_cons_zero] <;> exact rfl) (fun K hK => ?_) ?_
            focus (
              go_simp
              go_at_call 7
              refine (HON.out _).mono ?_
              rintro e wr15 ⟨rfl, hb⟩
              have hS := hS.trans (hb.mono hS.size)
              have Ex15 := Ex14.keep hb
              have Ey15 := Ey14.keep hb
              clear hb
              go_wp2_with fail
              refine hK.out _ _ hS (fun _ => ?_)
              clear hK K
              try simp only [Act.put, List.setIfInBounds_toArray, List.set_cons_zero, List.set_cons_succ]
              refine wpAnyH_take (i := 6) (v := ?_) (by simp only [List.getElem?_toArray, List.getElem?_cons_succ, List.getElem?_cons_zero] <;> exact rfl) (by kernel_rfl) (by kernel_rfl) (by kernel_rfl) (fun _ _ _ h => h) (Or.inl ⟨by rfl, ?_⟩) hS ?_
              rotate_left
              focus (intro w' hw'; go_simp; all_goals with_reducible rfl)
              try simp only [Act.put, List.setIfInBounds_toArray, List.set_cons_zero, List.set_cons_succ]
              refine wpAnyH_take (i := 7) (v := ?_) (by simp only [List.getElem?_toArray, List.getElem?_cons_succ, List.getElem?_cons_zero] <;> exact rfl) (by kernel_rfl) (by kernel_rfl) (by kernel_rfl) (fun _ _ _ h => h) (Or.inl ⟨by rfl, ?_⟩) hS ?_
              rotate_left
              focus (intro w' hw'; go_simp; all_goals with_reducible rfl)
              try simp only [Act.put, List.setIfInBounds_toArray, List.set_cons_zero, List.set_cons_succ]
              refine wpAnyH_take (i := 8) (v := ?_) (by simp only [List.getElem?_toArray, List.getElem?_cons_succ, List.getElem?_cons_zero] <;> exact rfl) (by kernel_rfl) (by kernel_rfl) (by kernel_rfl) (fun _ _ _ h => h) (Or.inl ⟨by rfl, ?_⟩) hS ?_
              rotate_left
              focus (intro w' hw'; go_simp; all_goals with_reducible rfl)
              try simp only [Act.put, List.setIfInBounds_toArray, List.set_cons_zero, List.set_cons_succ]
              refine wpAnyH_take (i := 9) (v := ?_) (by simp only [List.getElem?_toArray, List.getElem?_cons_succ, List.getElem?_cons_zero] <;> exact rfl) (by kernel_rfl) (by kernel_rfl) (by kernel_rfl) (fun _ _ _ h => h) (Or.inl ⟨by rfl, ?_⟩) hS ?_
              rotate_left
              focus (intro w' hw'; go_simp; all_goals with_reducible rfl)
              try simp only [Act.put, List.setIfInBounds_toArray, List.set_cons_zero, List.set_cons_succ]
              refine wpAnyH_take (i := 10) (v := ?_) (by simp only [List.getElem?_toArray, List.getElem?_cons_succ, List.getElem?_cons_zero] <;> exact rfl) (by kernel_rfl) (by kernel_rfl) (by kernel_rfl) (fun _ _ _ h => h) (Or.inl ⟨by rfl, ?_⟩) hS ?_
              rotate_left
              focus (intro w' hw'; go_simp; all_goals with_reducible rfl)
              try simp only [Act.put, List.setIfInBounds_toArray, List.set_cons_zero, List.set_cons_succ]
              refine wpAnyH_ready (rs := [13]) (by kernel_rfl) (by simp) ?_
              refine AllReadyH.cons (o := _) (by simp only [List.getElem?_toArray, List.getElem?_cons_succ, List.getElem?_cons_zero] <;> exact rfl) (fun K hK => ?_) ?_
              focus (
                refine rgs_store_blk (by rfl) 29 (.tmp 18) (.tmp 89) (by rfl) x #[.int .i64 ts, .string td, .bool te] #[.int .i64 0, .string ⟨#[]⟩, .bool false] 29 (by rfl) (by rfl) Ex15 bk_size rfl (by simp [Value.oneCell']) ?_
                have hS := below_setRow hS Mx #[.int .i64 ts, .string td, .bool te]
                refine hK.out _ _ hS (fun _ => ?_)
                clear hK K
                try simp only [Act.put, List.setIfInBounds_toArray, List.set_cons_zero, List.set_cons_succ]
                refine wpAnyH_ready (rs := [14]) (by kernel_rfl) (by simp) ?_
                refine AllReadyH.cons (o := _) (by simp only [List.getElem?_toArray, List.getElem?_cons_succ, List.getElem?_cons_zero] <;> exact rfl) (fun K hK => ?_) ?_
                focus (
                  refine rgs_store_blk (by rfl) 30 (.tmp 19) (.tmp 90) (by rfl) y #[.int .i64 vs, .string vd, .bool ve] #[.int .i64 0, .string ⟨#[]⟩, .bool false] 30 (by rfl) (by rfl) (Ey15.row_other (Ne.symm NE) _) bw_size rfl (by simp [Value.oneCell']) ?_
                  have hS := below_setRow hS My #[.int .i64 vs, .string vd, .bool ve]
                  refine hK.out _ _ hS (fun _ => ?_)
                  clear hK K
                  try simp only [Act.put, List.setIfInBounds_toArray, List.set_cons_zero, List.set_cons_succ]
                  refine wpAnyH_take (i := 15) (v := ?_) (by simp only [List.getElem?_toArray, List.getElem?_cons_succ, List.getElem?_cons_zero] <;> exact rfl) (by kernel_rfl) (by kernel_rfl) (by kernel_rfl) (fun _ _ _ h => h) (Or.inl ⟨by rfl, ?_⟩) hS ?_
                  rotate_left
                  focus (intro w' hw'; go_simp; all_goals with_reducible rfl)
                  try simp only [Act.put, List.setIfInBounds_toArray, List.set_cons_zero, List.set_cons_succ]
                  refine wpAnyH_take (i := 16) (v := ?_) (by simp only [List.getElem?_toArray, List.getElem?_cons_succ, List.getElem?_cons_zero] <;> exact rfl) (by kernel_rfl) (by kernel_rfl) (by kernel_rfl) (fun _ _ _ h => h) (Or.inl ⟨by rfl, ?_⟩) hS ?_
                  rotate_left
                  focus (intro w' hw'; go_simp; all_goals with_reducible rfl)
                  try simp only [Act.put, List.setIfInBounds_toArray, List.set_cons_zero, List.set_cons_succ]
                  refine wpAnyH_done (by kernel_rfl) ?_ _
                  refine NoPanic.normal ?_
                  go_wp2
                  go_meet
                  exact ⟨x, y, rfl, rfl, rfl, rfl, (Ex15.row #[.int .i64 ts, .string td, .bool te]).row_other NE _, ((Ey15.row_other (Ne.symm NE) _).row #[.int .i64 vs, .string vd, .bool ve]), hS, Mx, My⟩)
                exact AllReadyH.nil)
              exact AllReadyH.nil)
            exact AllReadyH.nil)
          exact AllReadyH.nil)
        exact AllReadyH.nil
      obtain ⟨w10, hw10⟩ : ∃ x, x = wc := ⟨_, rfl⟩
      subst hw10
      obtain ⟨x, y, rfl, rfl, rfl, rfl, hkx, hky, hb, _, _⟩ := hcut
      have K10 := hide (K9.out.keep hb)
      have B10 := hide (B9.out.trans (hb.mono B9.out.size))
      have KX := hide hkx
      have KY := hide hky
      have HR10 := hide (HR5.out.below B10.out)
      clear hkx hky hb K9 B9 R9 HON HROW
      obtain ⟨hx0, hx1, hbi, hv⟩ := HX.out
      have fst : (c0 = 0 ∧ ¬ (0 : Int) < (i : Int)) ∨ (c0 = 1 ∧ (0 : Int) < (i : Int)) := by
        by_cases h0 : i = 0
        · exact .inl ⟨hx0 h0, by omega⟩
        · exact .inr ⟨hx1 h0, by omega⟩
      have lst : (bi = true ∧ ((i : Int) == (N : Int) - 1) = true ∧ vs = s ∧ vd = strOfNums xs ∧ ve = en) ∨ (bi = false ∧ ((i : Int) == (N : Int) - 1) = false) := by
        by_cases h1 : i + 1 = N
        · exact .inl ⟨by rw [hbi, decide_eq_true h1], by simp; omega, hv h1⟩
        · exact .inr ⟨by rw [hbi, decide_eq_false h1], by simp; omega⟩
      clear hx0 hx1 hbi hv HX HDM H3
      rcases fst with ⟨rfl, hf⟩ | ⟨rfl, hf⟩
      · have HF := hide hf
        clear hf
        rcases lst with ⟨rfl, hl, rfl, rfl, rfl⟩ | ⟨rfl, hl⟩
        · have HL := hide hl
          clear hl
          have hcv := rb_string cap HR10.out
          obtain ⟨y0, y1, y2⟩ := bk_cells KY.out
          have hlst := HL.out
          have hfst := HF.out
          have hl2 : decide ((i : Int) = (N : Int) - 1) = true := by simpa using hlst
          have hf2 : ¬ 0 < i := by omega
          have hf3 : decide (0 < i) = false := by simp [hf2]
          go_upto_region 20 with (fail)
          clear hcv y0 y1 y2 hlst hfst hl2 hf2 hf3
          refine wp_region_lit ?_
          refine wpList_load_blk rfl 29 (.tmp 18) rfl x rfl 29 #[.int .i64 ts, .string td, .bool te] _ KX.out Try.underlying29 rfl bk_size ?_
          simp only [Act.put, List.setIfInBounds_toArray, List.set_cons_zero, List.set_cons_succ]
          refine wpList_store_blk rfl 29 (.tmp 12) (.tmp 124) rfl p #[.int .i64 ts, .string td, .bool te] #[.int .i64 ss, .string sd, .bool se] 29 rfl rfl K10.out bk_size rfl (by simp [Value.oneCell']) ?_
          simp only [Act.put, List.setIfInBounds_toArray, List.set_cons_zero, List.set_cons_succ]
          have K11 := hide (K10.out.row #[.int .i64 ts, .string td, .bool te])
          have B11 := hide (below_setRow B10.out (Nat.le_of_eq HPW.out.symm) #[.int .i64 ts, .string td, .bool te])
          generalize w10.setRow p #[.int .i64 ts, .string td, .bool te] = w11 at K11 B11 ⊢
          clear K10 B10
          go_wp2_with fail
          go_roundw
          case rel => exact ⟨i + 1, ts, td, te, by go_num, by omega, HTS.out, K11.out, B11.out⟩
          case measure => simp [intOf]; omega
        · have HL := hide hl
          clear hl
          have hcv := rb_string cap HR10.out
          obtain ⟨y0, y1, y2⟩ := bk_cells KY.out
          have hlst := HL.out
          have hfst := HF.out
          have hl3 : ¬ (i : Int) = (N : Int) - 1 := by simpa using hlst
          have hl2 : decide ((i : Int) = (N : Int) - 1) = false := by simp [hl3]
          have hf2 : ¬ 0 < i := by omega
          have hf3 : decide (0 < i) = false := by simp [hf2]
          go_upto_region 20 with (fail)
          clear hcv y0 y1 y2 hlst hfst hl2 hl3 hf2 hf3
          refine wp_region_lit ?_
          refine wpList_load_blk rfl 29 (.tmp 18) rfl x rfl 29 #[.int .i64 ts, .string td, .bool te] _ KX.out Try.underlying29 rfl bk_size ?_
          simp only [Act.put, List.setIfInBounds_toArray, List.set_cons_zero, List.set_cons_succ]
          refine wpList_store_blk rfl 29 (.tmp 12) (.tmp 124) rfl p #[.int .i64 ts, .string td, .bool te] #[.int .i64 ss, .string sd, .bool se] 29 rfl rfl K10.out bk_size rfl (by simp [Value.oneCell']) ?_
          simp only [Act.put, List.setIfInBounds_toArray, List.set_cons_zero, List.set_cons_succ]
          have K11 := hide (K10.out.row #[.int .i64 ts, .string td, .bool te])
          have B11 := hide (below_setRow B10.out (Nat.le_of_eq HPW.out.symm) #[.int .i64 ts, .string td, .bool te])
          generalize w10.setRow p #[.int .i64 ts, .string td, .bool te] = w11 at K11 B11 ⊢
          clear K10 B10
          go_wp2_with fail
          go_roundw
          case rel => exact ⟨i + 1, ts, td, te, by go_num, by omega, HTS.out, K11.out, B11.out⟩
          case measure => simp [intOf]; omega
      · have HF := hide hf
        clear hf
        rcases lst with ⟨rfl, hl, rfl, rfl, rfl⟩ | ⟨rfl, hl⟩
        · have HL := hide hl
          clear hl
          have hcv := rb_string cap HR10.out
          obtain ⟨y0, y1, y2⟩ := bk_cells KY.out
          have hlst := HL.out
          have hfst := HF.out
          have hl2 : decide ((i : Int) = (N : Int) - 1) = true := by simpa using hlst
          have hf2 : 0 < i := by omega
          have hf3 : decide (0 < i) = true := by simp [hf2]
          go_upto_region 20 with (fail)
          clear hcv y0 y1 y2 hlst hfst hl2 hf2 hf3
          refine wp_region_lit ?_
          refine wpList_load_blk rfl 29 (.tmp 18) rfl x rfl 29 #[.int .i64 ts, .string td, .bool te] _ KX.out Try.underlying29 rfl bk_size ?_
          simp only [Act.put, List.setIfInBounds_toArray, List.set_cons_zero, List.set_cons_succ]
          refine wpList_store_blk rfl 29 (.tmp 12) (.tmp 124) rfl p #[.int .i64 ts, .string td, .bool te] #[.int .i64 ss, .string sd, .bool se] 29 rfl rfl K10.out bk_size rfl (by simp [Value.oneCell']) ?_
          simp only [Act.put, List.setIfInBounds_toArray, List.set_cons_zero, List.set_cons_succ]
          have K11 := hide (K10.out.row #[.int .i64 ts, .string td, .bool te])
          have B11 := hide (below_setRow B10.out (Nat.le_of_eq HPW.out.symm) #[.int .i64 ts, .string td, .bool te])
          generalize w10.setRow p #[.int .i64 ts, .string td, .bool te] = w11 at K11 B11 ⊢
          clear K10 B10
          go_wp2_with fail
          go_roundw
          case rel => exact ⟨i + 1, ts, td, te, by go_num, by omega, HTS.out, K11.out, B11.out⟩
          case measure => simp [intOf]; omega
        · have HL := hide hl
          clear hl
          have hcv := rb_string cap HR10.out
          obtain ⟨y0, y1, y2⟩ := bk_cells KY.out
          have hlst := HL.out
          have hfst := HF.out
          have hl3 : ¬ (i : Int) = (N : Int) - 1 := by simpa using hlst
          have hl2 : decide ((i : Int) = (N : Int) - 1) = false := by simp [hl3]
          have hf2 : 0 < i := by omega
          have hf3 : decide (0 < i) = true := by simp [hf2]
          go_upto_region 20 with (fail)
          clear hcv y0 y1 y2 hlst hfst hl2 hl3 hf2 hf3
          refine wp_region_lit ?_
          refine wpList_load_blk rfl 29 (.tmp 18) rfl x rfl 29 #[.int .i64 ts, .string td, .bool te] _ KX.out Try.underlying29 rfl bk_size ?_
          simp only [Act.put, List.setIfInBounds_toArray, List.set_cons_zero, List.set_cons_succ]
          refine wpList_store_blk rfl 29 (.tmp 12) (.tmp 124) rfl p #[.int .i64 ts, .string td, .bool te] #[.int .i64 ss, .string sd, .bool se] 29 rfl rfl K10.out bk_size rfl (by simp [Value.oneCell']) ?_
          simp only [Act.put, List.setIfInBounds_toArray, List.set_cons_zero, List.set_cons_succ]
          have K11 := hide (K10.out.row #[.int .i64 ts, .string td, .bool te])
          have B11 := hide (below_setRow B10.out (Nat.le_of_eq HPW.out.symm) #[.int .i64 ts, .string td, .bool te])
          generalize w10.setRow p #[.int .i64 ts, .string td, .bool te] = w11 at K11 B11 ⊢
          clear K10 B10
          go_wp2_with fail
          go_roundw
          case rel => exact ⟨i + 1, ts, td, te, by go_num, by omega, HTS.out, K11.out, B11.out⟩
          case measure => simp [intOf]; omega
    · have hge : ¬ (i : Int) < (N : Int) := by omega
      obtain rfl : i = N := by omega
      have hz : ss = 0 ∧ sd = ⟨#[]⟩ ∧ se = false := by
        rw [HPS.out.2.2.1, stB_end] at hst
        injection hst with e1 e2 e3
        exact ⟨e1.symm, e2.symm, e3.symm⟩
      obtain ⟨rfl, rfl, rfl⟩ := hz
      clear hst hlt hi
      obtain ⟨c0, c1, c2⟩ := bk_cells K0.out
      go_wp2_with fail
      refine (HAW.out _).mono ?_
      rintro e w9 ⟨rfl, hb9⟩
      have B9 := hide ((B5.out.trans (B0.out.mono B5.out.size)).trans (hb9.mono (B5.out.trans (B0.out.mono B5.out.size)).size))
      clear hb9 c0 c1 c2
      go_wp2_with fail
      go_ret
      exact ⟨rfl, B9.out⟩
end Go.Proofs.Ytighhdgaaelcdaa.blockBack
