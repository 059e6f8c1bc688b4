/-
  ResponseBack: its walk.
-/
import Derived.Test.YtdnopjopdklelaaDoorRnAwake
import Derived.Test.YtdnopjopdklelaaDoorRmRead
import Derived.Test.YtdnopjopdklelaaDoorOwnSet
import Derived.BigGuardPart
import Derived.Deep.QuietTactic
import Derived.BigQuiet
import Derived.Deep.CutRange
namespace Go.Proofs.YtdnopjopdklelaaDoor.responseBack
set_option linter.unusedSimpArgs false
set_option linter.unusedVariables false
open Go.RowKit

theorem three {l : List Int} (h : l.length = 3) (hw : ∀ a ∈ l, (Lit.int .u16 a).wf = true) : ∃ a b c : Int, l = [a, b, c] ∧ (0 ≤ a ∧ a ≤ 65535) ∧ (0 ≤ b ∧ b ≤ 65535) ∧ (0 ≤ c ∧ c ≤ 65535) := by
  match l, h with
  | [a, b, c], _ => exact ⟨a, b, c, rfl, Go.bounds_u16 (hw a (by simp)), Go.bounds_u16 (hw b (by simp)), Go.bounds_u16 (hw c (by simp))⟩
theorem flds_len {x : Rp} (h : okP x = true) : 0 < (fldsP x).length ∧ ((fldsP x).length : Int) ≤ 1000 := by
  rw [fldsP_yes h]
  unfold fieldsP
  split <;> simp
theorem flds_mod {x : Rp} (h : okP x = true) : Mod (fldsP x) := by
  obtain ⟨q1, q2, q3, q4, q5, q6⟩ := okP_bd h
  have hz : ∀ {n : Int}, 0 ≤ n → n ≤ 999999999 → ((itoaB n).size : Int) ≤ 100000 := fun {n} h0 h1 => by
    obtain ⟨m, rfl⟩ : ∃ m : Nat, n = m := ⟨n.toNat, by omega⟩
    have := itoa_len 8 m (by omega)
    omega
  refine ⟨(flds_len h).2, fun f hf => ?_⟩
  rw [fldsP_yes h] at hf
  unfold fieldsP at hf
  rw [List.mem_append] at hf
  rcases hf with hf | hf
  · simp only [List.mem_cons, List.not_mem_nil, or_false] at hf
    rcases hf with rfl | rfl
    · exact ⟨show ((nStat.size : Nat) : Int) ≤ 100000 by decide, hz (by omega) (by omega)⟩
    · exact ⟨show ((nLen.size : Nat) : Int) ≤ 100000 by decide, hz q3 q4⟩
  · split at hf
    · cases hf
    · simp at hf; subst hf
      exact ⟨show ((nRetry.size : Nat) : Int) ≤ 100000 by decide, hz q5 q6⟩

theorem xor_fin : ∀ z : Fin 256, 0 ≤ bits BinOp.xor IntKind.u8 (z.val : Int) 1 ∧ bits BinOp.xor IntKind.u8 (z.val : Int) 1 ≤ 255 ∧ bits BinOp.xor IntKind.u8 (z.val : Int) 1 ≠ (z.val : Int) := by decide +kernel
theorem xor_is {z : Int} (h0 : 97 ≤ z) (h1 : z ≤ 122) : 0 ≤ bits BinOp.xor IntKind.u8 z 1 ∧ bits BinOp.xor IntKind.u8 z 1 ≤ 255 ∧ bits BinOp.xor IntKind.u8 z 1 ≠ z := by
  have := xor_fin ⟨z.toNat, by omega⟩
  simp only at this
  rwa [show ((z.toNat : Nat) : Int) = z by omega] at this
theorem set_ne {B : List Int} {J : Nat} {y : Int} (hJ : J < B.length) (h : y ≠ B.getD J 0) : B.set J y ≠ B := fun e => by
  have := congrArg (·.getD J 0) e
  simp only [List.getD, List.getElem?_set_self hJ, Option.getD_some] at this
  exact h (by rw [this]; rfl)

/-- What stands all through: the answer, the three numbers. -/
structure BkS (w0 : World) (gx gn : Nat) (cx cn : Array Value) (w : World) : Prop where
  b : Below w0.heap.size w0 w
  x : BlkIs w gx 28 cx
  n : BlkIs w gn 46 cn
theorem BkS.keep {w0 w w' : World} {gx gn : Nat} {cx cn : Array Value} (h : BkS w0 gx gn cx cn w) (hb : Below w.heap.size w w') : BkS w0 gx gn cx cn w' :=
  ⟨h.b.trans (hb.mono h.b.size), h.x.keep hb, h.n.keep hb⟩

/-- And the body that was put together. -/
structure BkB (w0 : World) (gx gn gz : Nat) (cx cn : Array Value) (base : Nat) (v : Value) (L : List Int) (w : World) : Prop where
  s : BkS w0 gx gn cx cn w
  z : BlkIs w gz 28 cx
  o : w.ownsRow base 5 1 v L.length (u8s L)
  lo : w0.heap.size ≤ base
  lx : gx < base
  ln : gn < base
  lz : gz < base
  bs : base ≤ w.heap.size
section
variable {w0 w w' : World} {gx gn gz : Nat} {cx cn : Array Value} {base : Nat} {v v' : Value} {L L' : List Int}
theorem BkB.keep (h : BkB w0 gx gn gz cx cn base v L w) (hb : Below w.heap.size w w') : BkB w0 gx gn gz cx cn base v L w' :=
  ⟨h.s.keep hb, h.z.keep hb, own_low h.o hb, h.lo, h.lx, h.ln, h.lz, Nat.le_trans h.bs hb.size⟩
theorem BkB.grow (h : BkB w0 gx gn gz cx cn base v L w) (ho : w'.ownsRow base 5 1 v' L'.length (u8s L')) (hg : w.grownBy w' v.ownBlock) : BkB w0 gx gn gz cx cn base v' L' w' :=
  ⟨⟨own_bel h.o h.s.b h.lo (Nat.le_refl _) hg, h.s.x.grown hg (own_ne h.o h.lx), h.s.n.grown hg (own_ne h.o h.ln)⟩, h.z.grown hg (own_ne h.o h.lz), ho, h.lo, h.lx, h.ln, h.lz, Nat.le_trans h.bs hg.size⟩
theorem BkB.set {g M cb : Nat} (h : BkB w0 gx gn gz cx cn base (.slice (some ⟨g, 0, none⟩) M cb) L w) (hl : L.length = M) (J : Nat) (hJ : J < M) (y : Int) : BkB w0 gx gn gz cx cn base (.slice (some ⟨g, 0, none⟩) M cb) (L.set J y) (w.setCell ⟨g, J, none⟩ (.int .u8 y)) := by
  have ho := h.o
  rw [hl] at ho
  obtain ⟨hg1, hg2⟩ := own_lt ho
  have hs := own_set ho J hJ (.int .u8 y)
  have e : (u8s L).set J (.int .u8 y) = u8s (L.set J y) := by unfold u8s; rw [List.map_set]
  rw [e] at hs
  have hx := h.lx
  have hn := h.ln
  have hz := h.lz
  have hlo := h.lo
  exact ⟨⟨h.s.b.setCell (show w0.heap.size ≤ g by omega) _, h.s.x.far (show gx ≠ g by omega) _, h.s.n.far (show gn ≠ g by omega) _⟩, h.z.far (show gz ≠ g by omega) _, by rw [List.length_set, hl]; exact hs, hlo, hx, hn, hz, by simpa [World.setCell] using h.bs⟩
theorem BkB.start (h : BkS w0 gx gn cx cn w) (hz : BlkIs w gz 28 cx) : BkB w0 gx gn gz cx cn w.heap.size (.slice (some ⟨w.heap.size, 0, none⟩) 0 0) [] (w.alloc (.cells #[] 5)) :=
  ⟨h.keep (bel1 w _), hz.alloc _, ⟨rfl, .inr ⟨w.heap.size, 0, #[], rfl, Nat.le_refl _, BlkIs.new w _ _, Nat.le_refl _, by unfold maxLen; omega, rfl, rfl⟩⟩, h.b.size, h.x.lt, h.n.lt, hz.lt, by simp⟩
end

set_option maxRecDepth 100000 in
set_option maxHeartbeats 6400000 in
theorem walk (s l r : Int) (ns : List Int) (hns : ns.length = 3) (hnw : ∀ a ∈ ns, (Lit.int .u16 a).wf = true) (t : Int) (w : World) (ht : TabOk w) (_ : (Lit.int .i64 s).wf = true) (_ : (Lit.int .i64 l).wf = true) (_ : (Lit.int .i64 r).wf = true) (wt : (Lit.int .u32 t).wf = true) :
    Calls Tryd.prog 5 #[.agg #[.int .i64 s, .int .i64 l, .int .i64 r], .agg (ns.map (Value.int .u16)).toArray, .int .u32 t] w fun e w' => e = .returned (.bool true) ∧ Below w.heap.size w w' := by
  obtain ⟨a, b, c, rfl, ha, hb, hc⟩ := three hns hnw
  obtain ⟨t0, t1⟩ := Go.bounds_u32 wt
  have HT := hide (fun w' (hb : Below w.heap.size w w') => ht.keep hb)
  clear hns hnw ht wt
  simp only [List.map_cons, List.map_nil]
  go_enter Tryd.func5, Tryd.ntmps5
  go_upto_region 2 with (fail)
  have HS0 := hide (show BkS w (w.heap.size + 1 + 1) (w.heap.size + 1) #[.int .i64 s, .int .i64 l, .int .i64 r] #[.int .u16 a, .int .u16 b, .int .u16 c] (((w.alloc (.cells #[.int .i64 s, .int .i64 l, .int .i64 r] 23)).alloc (.cells #[.int .u16 a, .int .u16 b, .int .u16 c] 46)).alloc (.cells #[.int .i64 s, .int .i64 l, .int .i64 r] 28)) from ⟨bel3 w _ _ _, new3 w _ _ _ _, (new2 w _ _ _).alloc _⟩)
  obtain ⟨gx, hgx⟩ : ∃ g, g = w.heap.size + 1 + 1 := ⟨_, rfl⟩
  obtain ⟨gn, hgn⟩ : ∃ g, g = w.heap.size + 1 := ⟨_, rfl⟩
  rw [← hgx, ← hgn] at HS0
  rw [← hgx, ← hgn]
  generalize ((w.alloc (.cells #[.int .i64 s, .int .i64 l, .int .i64 r] 23)).alloc (.cells #[.int .u16 a, .int .u16 b, .int .u16 c] 46)).alloc (.cells #[.int .i64 s, .int .i64 l, .int .i64 r] 28) = w0 at HS0 ⊢
  clear hgx hgn
  have x0 := HS0.out.x.cell 0
  have x1 := HS0.out.x.cell 1
  have x2 := HS0.out.x.cell 2
  simp only [List.getElem?_toArray, List.getElem?_cons_zero, List.getElem?_cons_succ] at x0 x1 x2
  by_cases hok : okP ⟨s, l, r⟩ = true
  · have HOK := hide hok
    have HFN := hide (flds_len hok)
    clear hok
    go_wp2_with fail
    refine (rn_Fields s l r w0 (HT.out _ HS0.out.b)).mono ?_
    rintro e w1 ⟨v, rfl, hown, hb1⟩
    rw [chkP_yes HOK.out]
    obtain ⟨n9, hn9⟩ : ∃ n, n = (fldsP ⟨s, l, r⟩).length := ⟨_, rfl⟩
    rw [← hn9] at hown HFN
    have hn90 := HFN.out.1
    have hn91 := HFN.out.2
    obtain ⟨g1, c1, rfl, -⟩ := own_some_f hown hn90
    have HL1 := hide (FL.of_own hown)
    have HS1 := hide (HS0.out.keep hb1)
    clear hown hb1 HS0 x0 x1 x2 hn9
    have x0 := HS1.out.x.cell 0
    have x1 := HS1.out.x.cell 1
    have x2 := HS1.out.x.cell 2
    simp only [List.getElem?_toArray, List.getElem?_cons_zero, List.getElem?_cons_succ] at x0 x1 x2
    go_wp2_with fail
    refine (rn_Check s l r _).mono ?_
    rintro e w2 ⟨rfl, hb2⟩
    rw [chkP_yes HOK.out]
    have HS2 := hide (HS1.out.keep hb2)
    have HL2 := hide (HL1.out.keep hb2)
    clear hb2 HS1 x0 x1 x2 HL1
    go_wp2_with fail
    refine (rn_Read _ _ _ _ w2 HL2.out (flds_mod HOK.out)).mono ?_
    rintro e w3 ⟨rfl, hb3⟩
    rw [show ansP (readP (fldsP ⟨s, l, r⟩)) = .tuple #[.agg #[.int .i64 s, .int .i64 l, .int .i64 r], .bool true] by rw [fldsP_yes HOK.out, fields_back HOK.out]; rfl]
    have HS3 := hide (HS2.out.keep (hb3.trans ((bel1 w3 (.cells #[.int .i64 s, .int .i64 l, .int .i64 r] 28)).mono hb3.size)))
    have HZ3 := hide (BlkIs.new w3 28 #[.int .i64 s, .int .i64 l, .int .i64 r])
    clear hb3 HS2 HL2 hn90 hn91 HFN HOK
    go_upto_region 6 with (fail)
    obtain ⟨gz, hgz⟩ : ∃ g, g = w3.heap.size := ⟨_, rfl⟩
    rw [← hgz] at HZ3
    rw [← hgz]
    generalize w3.alloc (.cells #[.int .i64 s, .int .i64 l, .int .i64 r] 28) = w4 at HS3 HZ3 ⊢
    clear hgz
    obtain ⟨F, rfl⟩ : ∃ F : Nat, a = F := ⟨a.toNat, by omega⟩
    obtain ⟨M, hM⟩ : ∃ M : Nat, b % 2001 = M := ⟨(b % 2001).toNat, by omega⟩
    obtain ⟨K, hK⟩ : ∃ K : Nat, c % ((M : Int) + 1) = K := ⟨(c % ((M : Int) + 1)).toNat, by
      have := Int.emod_nonneg c (show (M : Int) + 1 ≠ 0 by omega)
      omega⟩
    have hM2 : b.tmod 2001 = (M : Int) := by rw [Int.tmod_eq_emod_of_nonneg hb.1]; exact hM
    have hK2 : c.tmod ((M : Int) + 1) = (K : Int) := by rw [Int.tmod_eq_emod_of_nonneg hc.1]; exact hK
    have hM3 : (M : Int) ≤ 2000 := by omega
    have hK3 : (K : Int) ≤ (M : Int) := by
      have := Int.emod_lt_of_pos c (show 0 < (M : Int) + 1 by omega)
      omega
    obtain ⟨a0, a1⟩ := ha
    obtain ⟨b0, b1⟩ := hb
    obtain ⟨c0, c1⟩ := hc
    have n0 := HS3.out.n.cell 0
    have n1 := HS3.out.n.cell 1
    have n2 := HS3.out.n.cell 2
    simp only [List.getElem?_toArray, List.getElem?_cons_zero, List.getElem?_cons_succ] at n0 n1 n2
    go_quiet (fail)
    go_upto_region 8 with (fail)
    have HS5 := hide (HS3.out.keep (below_drewN (Below.refl _ _) nq))
    have HZ5 := hide (HZ3.out.keep (below_drewN (Below.refl _ _) nq))
    generalize w4.drewN nq = w5 at HS5 HZ5 ⊢
    clear n0 n1 n2 HS3 HZ3
    have HB5 := hide (BkB.start HS5.out HZ5.out)
    have HN5 := hide HS5.out.n
    have HXY := hide (show bodyL (F : Int) (K : Int) ++ bodyL ((F : Int) + (K : Int)) ((M : Int) - (K : Int)) = bodyN F M by
      obtain ⟨d, rfl⟩ : ∃ d, M = K + d := ⟨M - K, by omega⟩
      rw [show ((K + d : Nat) : Int) - (K : Int) = (d : Int) by omega, bodyL_nat (by omega) (by omega), bodyL_nat (by omega) (by omega), bodyN_app])
    have HXL := hide (show (bodyL (F : Int) (K : Int)).length ≤ 65536 ∧ (bodyL ((F : Int) + (K : Int)) ((M : Int) - (K : Int))).length ≤ 65536 from ⟨bodyL_len _ _, bodyL_len _ _⟩)
    have HC1 := hide (fun w => rn_Body (F : Int) (K : Int) w)
    have HC2 := hide (fun w => rn_Body ((F : Int) + (K : Int)) ((M : Int) - (K : Int)) w)
    have HD1 := hide (body_bd (F : Int) (K : Int))
    have HD2 := hide (body_bd ((F : Int) + (K : Int)) ((M : Int) - (K : Int)))
    generalize bodyL (F : Int) (K : Int) = X at HXY HXL HC1 HD1
    generalize bodyL ((F : Int) + (K : Int)) ((M : Int) - (K : Int)) = Y at HXY HXL HC2 HD2
    obtain ⟨i0, hi0, hz0, hz1, hz2⟩ := info_parts u8_info
    have HI := hide (And.intro hi0 (And.intro hz0 (And.intro hz1 hz2)))
    clear hi0 hz0 hz1 hz2
    go_wp2_with fail
    obtain ⟨base, hbase⟩ : ∃ g, g = w5.heap.size := ⟨_, rfl⟩
    rw [← hbase] at HB5
    rw [← hbase]
    generalize w5.alloc (.cells #[] 5) = w6 at HB5 ⊢
    clear HS5 HZ5 HN5 hbase
    refine (HC1.out _).mono ?_
    rintro e w7 ⟨v, rfl, hown, hb7⟩
    obtain ⟨A7, n7, rfl⟩ := own_form hown
    have HN7 := hide (own_nil hown)
    have HR7 := hide (rb_of_own hown HD1.out).1
    have HB7 := hide (HB5.out.keep hb7)
    clear hown hb7 HB5 HC1
    go_wp2_with (at_builtin; refine wpList_append_rb _ rfl (.tmp 56) (.tmp 59) 42 rfl base 5 i0 Tryd.underlying42 HI.out.1 HI.out.2.1 HI.out.2.2.1 HI.out.2.2.2 _ [] rfl HB7.out.o A7 X.length n7 X rfl HR7.out HN7.out (by have := HXL.out.1; simp; omega) HB7.out.bs ?_; intro v8 w8 hown8 hg8; have HB8 := hide (HB7.out.grow hown8 hg8); clear hown8 hg8)
    rw [List.nil_append] at HB8
    clear HB7 HR7 HN7
    refine (HC2.out _).mono ?_
    rintro e w9 ⟨v, rfl, hown, hb9⟩
    obtain ⟨A9, n9', rfl⟩ := own_form hown
    have HN9 := hide (own_nil hown)
    have HR9 := hide (rb_of_own hown HD2.out).1
    have HB9 := hide (HB8.out.keep hb9)
    clear hown hb9 HB8 HC2
    go_wp2_with (at_builtin; refine wpList_append_rb _ rfl (.tmp 60) (.tmp 67) 42 rfl base 5 i0 Tryd.underlying42 HI.out.1 HI.out.2.1 HI.out.2.2.1 HI.out.2.2.2 _ X rfl HB9.out.o A9 Y.length n9' Y rfl HR9.out HN9.out (by have := HXL.out; omega) HB9.out.bs ?_; intro v10 w10 hown10 hg10; have HB10 := hide (HB9.out.grow hown10 hg10); clear hown10 hg10)
    rw [HXY.out] at HB10
    clear HB9 HR9 HN9 HD1 HD2 HXL HXY HI
    obtain ⟨A, cb, rfl⟩ : ∃ A cb, v10 = .slice A M cb := by have := own_form HB10.out.o; rwa [bodyN_len] at this
    have HC3 := hide (fun w => rn_Body (F : Int) (M : Int) w)
    have HEB := hide (show bodyL (F : Int) (M : Int) = bodyN F M from bodyL_nat (by omega) (by omega))
    rw [HEB.out] at HC3
    have HBB := hide (show ∀ z ∈ bodyN F M, 0 ≤ z ∧ z ≤ 255 from fun z hz => by have := bodyN_byte F M z hz; omega)
    have HBC := hide (bodyN_byte (F : Int) M)
    have HBL := hide (bodyN_len (F : Int) M)
    have HWE := hide (show ∀ Z : List Int, Z.length = M → wholeP Z F = decide (Z = bodyN F M) from fun Z hz => by unfold wholeP; rw [hz, HEB.out])
    clear HEB
    generalize bodyN (F : Int) M = B at HB10 HC3 HBB HBC HBL HWE
    have HWB := hide (show wholeP B F = true by rw [HWE.out B HBL.out, decide_eq_true rfl])
    have HRB := hide (show RB w10 A M B by have h := HB10.out.o; rw [HBL.out] at h; exact (rb_of_own h HBB.out).1)
    have HBX := hide HB10.out.s.x
    have HBZ := hide HB10.out.z
    refine wp_region_noPanic ?_
    refine wp_region_held_drew (S := fun w' => Below w10.heap.size w10 w') (by kernel_rfl) (Below.refl _ _).drew (fun hS => ?_)
    generalize w10.drew = wd at hS ⊢
    refine wpAnyH_take (i := 0) (v := ?_) (by simp only [List.getElem?_toArray, List.getElem?_cons_succ, List.getElem?_cons_zero] <;> exact rfl) (by kernel_rfl) (by kernel_rfl) (by kernel_rfl) (fun _ _ _ h => h) (Or.inl ⟨by rfl, ?_⟩) hS ?_
    rotate_left
    focus (intro w' hw'; go_simp; all_goals with_reducible rfl)
    try simp only [Act.put, List.setIfInBounds_toArray, List.set_cons_zero, List.set_cons_succ]
    refine wpAnyH_take (i := 1) (v := ?_) (by simp only [List.getElem?_toArray, List.getElem?_cons_succ, List.getElem?_cons_zero] <;> exact rfl) (by kernel_rfl) (by kernel_rfl) (by kernel_rfl) (fun _ _ _ h => h) (Or.inl ⟨by rfl, ?_⟩) hS ?_
    rotate_left
    focus (intro w' hw'; go_simp; all_goals with_reducible rfl)
    try simp only [Act.put, List.setIfInBounds_toArray, List.set_cons_zero, List.set_cons_succ]
    refine wpAnyH_take (i := 2) (v := ?_) (by simp only [List.getElem?_toArray, List.getElem?_cons_succ, List.getElem?_cons_zero] <;> exact rfl) (by kernel_rfl) (by kernel_rfl) (by kernel_rfl) (fun _ _ _ h => h) (Or.inl ⟨by rfl, ?_⟩) hS ?_
    rotate_left
    focus (intro w' hw'; go_simp; all_goals with_reducible rfl)
    try simp only [Act.put, List.setIfInBounds_toArray, List.set_cons_zero, List.set_cons_succ]
    refine wpAnyH_take (i := 3) (v := ?_) (by simp only [List.getElem?_toArray, List.getElem?_cons_succ, List.getElem?_cons_zero] <;> exact rfl) (by kernel_rfl) (by kernel_rfl) (by kernel_rfl) (fun _ _ _ h => h) (Or.inl ⟨by rfl, ?_⟩) hS ?_
    rotate_left
    focus (intro w' hw'; go_simp; all_goals with_reducible rfl)
    try simp only [Act.put, List.setIfInBounds_toArray, List.set_cons_zero, List.set_cons_succ]
    refine wpAnyH_take (i := 4) (v := ?_) (by simp only [List.getElem?_toArray, List.getElem?_cons_succ, List.getElem?_cons_zero] <;> exact rfl) (by kernel_rfl) (by kernel_rfl) (by kernel_rfl) (fun _ _ _ h => h) (Or.inl ⟨by rfl, ?_⟩) hS ?_
    rotate_left
    focus (intro w' hw'; go_simp; all_goals with_reducible rfl)
    try simp only [Act.put, List.setIfInBounds_toArray, List.set_cons_zero, List.set_cons_succ]
    refine wpAnyH_take (i := 5) (v := ?_) (by simp only [List.getElem?_toArray, List.getElem?_cons_succ, List.getElem?_cons_zero] <;> exact rfl) (by kernel_rfl) (by kernel_rfl) (by kernel_rfl) (fun _ _ _ h => h) (Or.inl ⟨by rfl, ?_⟩) hS ?_
    rotate_left
    focus (intro w' hw'; go_simp; all_goals with_reducible rfl)
    try simp only [Act.put, List.setIfInBounds_toArray, List.set_cons_zero, List.set_cons_succ]
    refine wpAnyH_take (i := 6) (v := ?_) (by simp only [List.getElem?_toArray, List.getElem?_cons_succ, List.getElem?_cons_zero] <;> exact rfl) (by kernel_rfl) (by kernel_rfl) (by kernel_rfl) (fun _ _ _ h => h) (Or.inl ⟨by rfl, ?_⟩) hS ?_
    rotate_left
    focus (intro w' hw'; go_simp; all_goals with_reducible rfl)
    try simp only [Act.put, List.setIfInBounds_toArray, List.set_cons_zero, List.set_cons_succ]
    refine wpAnyH_take (i := 7) (by simp only [List.getElem?_toArray, List.getElem?_cons_succ, List.getElem?_cons_zero] <;> exact rfl) (by kernel_rfl) (by kernel_rfl) (by kernel_rfl) (fun _ _ _ h => h) (rgs_yields_blk (by rfl) 28 (.tmp 10) (by rfl) gz (by rfl) 28 #[.int .i64 s, .int .i64 l, .int .i64 r] _ (fun w' hw' => HBZ.out.keep hw') Tryd.underlying28 rfl rn_size) hS ?_
    try simp only [Act.put, List.setIfInBounds_toArray, List.set_cons_zero, List.set_cons_succ]
    refine wpAnyH_take (i := 8) (by simp only [List.getElem?_toArray, List.getElem?_cons_succ, List.getElem?_cons_zero] <;> exact rfl) (by kernel_rfl) (by kernel_rfl) (by kernel_rfl) (fun _ _ _ h => h) (rgs_yields_blk (by rfl) 28 (.tmp 7) (by rfl) gx (by rfl) 28 #[.int .i64 s, .int .i64 l, .int .i64 r] _ (fun w' hw' => HBX.out.keep hw') Tryd.underlying28 rfl rn_size) hS ?_
    try simp only [Act.put, List.setIfInBounds_toArray, List.set_cons_zero, List.set_cons_succ]
    refine wpAnyH_take (i := 9) (v := ?_) (by simp only [List.getElem?_toArray, List.getElem?_cons_succ, List.getElem?_cons_zero] <;> exact rfl) (by kernel_rfl) (by kernel_rfl) (by kernel_rfl) (fun _ _ _ h => h) (Or.inl ⟨by rfl, ?_⟩) hS ?_
    rotate_left
    focus (intro w' hw'; go_simp; all_goals with_reducible rfl)
    try simp only [Act.put, List.setIfInBounds_toArray, List.set_cons_zero, List.set_cons_succ]
    refine wpAnyH_take (i := 10) (v := ?_) (by simp only [List.getElem?_toArray, List.getElem?_cons_succ, List.getElem?_cons_zero] <;> exact rfl) (by kernel_rfl) (by kernel_rfl) (by kernel_rfl) (fun _ _ _ h => h) (Or.inl ⟨by rfl, ?_⟩) hS ?_
    rotate_left
    focus (intro w' hw'; go_simp; all_goals with_reducible rfl)
    try simp only [Act.put, List.setIfInBounds_toArray, List.set_cons_zero, List.set_cons_succ]
    refine wpAnyH_take (i := 11) (v := ?_) (by simp only [List.getElem?_toArray, List.getElem?_cons_succ, List.getElem?_cons_zero] <;> exact rfl) (by kernel_rfl) (by kernel_rfl) (by kernel_rfl) (fun _ _ _ h => h) (Or.inl ⟨by rfl, ?_⟩) hS ?_
    rotate_left
    focus (intro w' hw'; go_simp; all_goals with_reducible rfl)
    try simp only [Act.put, List.setIfInBounds_toArray, List.set_cons_zero, List.set_cons_succ]
    refine wpAnyH_take (i := 12) (v := ?_) (by simp only [List.getElem?_toArray, List.getElem?_cons_succ, List.getElem?_cons_zero] <;> exact rfl) (by kernel_rfl) (by kernel_rfl) (by kernel_rfl) (fun _ _ _ h => h) (Or.inl ⟨by rfl, ?_⟩) hS ?_
    rotate_left
    focus (intro w' hw'; go_simp; all_goals with_reducible rfl)
    try simp only [Act.put, List.setIfInBounds_toArray, List.set_cons_zero, List.set_cons_succ]
    refine wpAnyH_take (i := 13) (v := ?_) (by simp only [List.getElem?_toArray, List.getElem?_cons_succ, List.getElem?_cons_zero] <;> exact rfl) (by kernel_rfl) (by kernel_rfl) (by kernel_rfl) (fun _ _ _ h => h) (Or.inl ⟨by rfl, ?_⟩) hS ?_
    rotate_left
    focus (intro w' hw'; have kk := rb_string cb (HRB.out.below hw'); go_simp; all_goals with_reducible rfl)
    try simp only [Act.put, List.setIfInBounds_toArray, List.set_cons_zero, List.set_cons_succ]
    refine wpAnyH_take (i := 14) (v := ?_) (by simp only [List.getElem?_toArray, List.getElem?_cons_succ, List.getElem?_cons_zero] <;> exact rfl) (by kernel_rfl) (by kernel_rfl) (by kernel_rfl) (fun _ _ _ h => h) (Or.inl ⟨by rfl, ?_⟩) hS ?_
    rotate_left
    focus (intro w' hw'; go_simp; all_goals with_reducible rfl)
    try simp only [Act.put, List.setIfInBounds_toArray, List.set_cons_zero, List.set_cons_succ]
    refine wpAnyH_take (i := 15) (v := ?_) (by simp only [List.getElem?_toArray, List.getElem?_cons_succ, List.getElem?_cons_zero] <;> exact rfl) (by kernel_rfl) (by kernel_rfl) (by kernel_rfl) (fun _ _ _ h => h) (Or.inl ⟨by rfl, ?_⟩) hS ?_
    rotate_left
    focus (intro w' hw'; go_simp; all_goals with_reducible rfl)
    try simp only [Act.put, List.setIfInBounds_toArray, List.set_cons_zero, List.set_cons_succ]
    refine wpAnyH_ready (rs := [16]) (by kernel_rfl) (by simp) ?_
    refine AllReadyH.cons (o := _) (by simp only [List.getElem?_toArray, List.getElem?_cons_succ, List.getElem?_cons_zero] <;> exact rfl) (fun K hK => ?_) ?_
    focus (
      go_simp
      go_at_call 17
      refine (HC3.out _).mono ?_
      rintro e wc1 ⟨r, rfl, hown, hb⟩
      have hS := hS.trans (hb.mono hS.size)
      obtain ⟨A9, c9, rfl, h9⟩ := gives_rb HBB.out hown
      clear hown
      clear hb
      go_wp2_with fail
      refine hK.out _ _ hS (fun _ => ?_)
      clear hK K
      try simp only [Act.put, List.setIfInBounds_toArray, List.set_cons_zero, List.set_cons_succ]
      refine wpAnyH_ready (rs := [17]) (by kernel_rfl) (by simp) ?_
      refine AllReadyH.cons (o := _) (by simp only [List.getElem?_toArray, List.getElem?_cons_succ, List.getElem?_cons_zero] <;> exact rfl) (fun K hK => ?_) ?_
      focus (
        have hst := rb_string c9 h9
        go_simp
        clear hst
        refine hK.out _ _ hS (fun _ => ?_)
        clear hK K
        try simp only [Act.put, List.setIfInBounds_toArray, List.set_cons_zero, List.set_cons_succ]
        refine wpAnyH_take (i := 18) (v := ?_) (by simp only [List.getElem?_toArray, List.getElem?_cons_succ, List.getElem?_cons_zero] <;> exact rfl) (by kernel_rfl) (by kernel_rfl) (by kernel_rfl) (fun _ _ _ h => h) (Or.inl ⟨by rfl, ?_⟩) hS ?_
        rotate_left
        focus (intro w' hw'; go_simp; all_goals with_reducible rfl)
        try simp only [Act.put, List.setIfInBounds_toArray, List.set_cons_zero, List.set_cons_succ]
        refine wpAnyH_take (i := 19) (v := ?_) (by simp only [List.getElem?_toArray, List.getElem?_cons_succ, List.getElem?_cons_zero] <;> exact rfl) (by kernel_rfl) (by kernel_rfl) (by kernel_rfl) (fun _ _ _ h => h) (Or.inl ⟨by rfl, ?_⟩) hS ?_
        rotate_left
        focus (intro w' hw'; go_simp; all_goals with_reducible rfl)
        try simp only [Act.put, List.setIfInBounds_toArray, List.set_cons_zero, List.set_cons_succ]
        refine wpAnyH_take (i := 20) (v := ?_) (by simp only [List.getElem?_toArray, List.getElem?_cons_succ, List.getElem?_cons_zero] <;> exact rfl) (by kernel_rfl) (by kernel_rfl) (by kernel_rfl) (fun _ _ _ h => h) (Or.inl ⟨by rfl, ?_⟩) hS ?_
        rotate_left
        focus (intro w' hw'; go_simp; all_goals with_reducible rfl)
        try simp only [Act.put, List.setIfInBounds_toArray, List.set_cons_zero, List.set_cons_succ]
        refine wpAnyH_take (i := 21) (v := ?_) (by simp only [List.getElem?_toArray, List.getElem?_cons_succ, List.getElem?_cons_zero] <;> exact rfl) (by kernel_rfl) (by kernel_rfl) (by kernel_rfl) (fun _ _ _ h => h) (Or.inl ⟨by rfl, ?_⟩) hS ?_
        rotate_left
        focus (intro w' hw'; go_simp; all_goals with_reducible rfl)
        try simp only [Act.put, List.setIfInBounds_toArray, List.set_cons_zero, List.set_cons_succ]
        refine wpAnyH_take (i := 22) (v := ?_) (by simp only [List.getElem?_toArray, List.getElem?_cons_succ, List.getElem?_cons_zero] <;> exact rfl) (by kernel_rfl) (by kernel_rfl) (by kernel_rfl) (fun _ _ _ h => h) (Or.inl ⟨by rfl, ?_⟩) hS ?_
        rotate_left
        focus (intro w' hw'; go_simp; all_goals with_reducible rfl)
        try simp only [Act.put, List.setIfInBounds_toArray, List.set_cons_zero, List.set_cons_succ]
        refine wpAnyH_take (i := 23) (v := ?_) (by simp only [List.getElem?_toArray, List.getElem?_cons_succ, List.getElem?_cons_zero] <;> exact rfl) (by kernel_rfl) (by kernel_rfl) (by kernel_rfl) (fun _ _ _ h => h) (Or.inl ⟨by rfl, ?_⟩) hS ?_
        rotate_left
        focus (intro w' hw'; go_simp; all_goals with_reducible rfl)
        try simp only [Act.put, List.setIfInBounds_toArray, List.set_cons_zero, List.set_cons_succ]
        refine wpAnyH_take (i := 24) (v := ?_) (by simp only [List.getElem?_toArray, List.getElem?_cons_succ, List.getElem?_cons_zero] <;> exact rfl) (by kernel_rfl) (by kernel_rfl) (by kernel_rfl) (fun _ _ _ h => h) (Or.inl ⟨by rfl, ?_⟩) hS ?_
        rotate_left
        focus (intro w' hw'; go_simp; all_goals with_reducible rfl)
        try simp only [Act.put, List.setIfInBounds_toArray, List.set_cons_zero, List.set_cons_succ]
        refine wpAnyH_take (i := 25) (v := ?_) (by simp only [List.getElem?_toArray, List.getElem?_cons_succ, List.getElem?_cons_zero] <;> exact rfl) (by kernel_rfl) (by kernel_rfl) (by kernel_rfl) (fun _ _ _ h => h) (Or.inl ⟨by rfl, ?_⟩) hS ?_
        rotate_left
        focus (intro w' hw'; go_simp; all_goals with_reducible rfl)
        try simp only [Act.put, List.setIfInBounds_toArray, List.set_cons_zero, List.set_cons_succ]
        refine wpAnyH_take (i := 26) (v := ?_) (by simp only [List.getElem?_toArray, List.getElem?_cons_succ, List.getElem?_cons_zero] <;> exact rfl) (by kernel_rfl) (by kernel_rfl) (by kernel_rfl) (fun _ _ _ h => h) (Or.inl ⟨by rfl, ?_⟩) hS ?_
        rotate_left
        focus (intro w' hw'; go_simp; all_goals with_reducible rfl)
        try simp only [Act.put, List.setIfInBounds_toArray, List.set_cons_zero, List.set_cons_succ]
        refine wpAnyH_take (i := 27) (v := ?_) (by simp only [List.getElem?_toArray, List.getElem?_cons_succ, List.getElem?_cons_zero] <;> exact rfl) (by kernel_rfl) (by kernel_rfl) (by kernel_rfl) (fun _ _ _ h => h) (Or.inl ⟨by rfl, ?_⟩) hS ?_
        rotate_left
        focus (intro w' hw'; go_simp; all_goals with_reducible rfl)
        try simp only [Act.put, List.setIfInBounds_toArray, List.set_cons_zero, List.set_cons_succ]
        refine wpAnyH_take (i := 28) (v := ?_) (by simp only [List.getElem?_toArray, List.getElem?_cons_succ, List.getElem?_cons_zero] <;> exact rfl) (by kernel_rfl) (by kernel_rfl) (by kernel_rfl) (fun _ _ _ h => h) (Or.inl ⟨by rfl, ?_⟩) hS ?_
        rotate_left
        focus (intro w' hw'; go_simp; all_goals with_reducible rfl)
        try simp only [Act.put, List.setIfInBounds_toArray, List.set_cons_zero, List.set_cons_succ]
        refine wpAnyH_ready (rs := [29]) (by kernel_rfl) (by simp) ?_
        refine AllReadyH.cons (o := _) (by simp only [List.getElem?_toArray, List.getElem?_cons_succ, List.getElem?_cons_zero] <;> exact rfl) (fun K hK => ?_) ?_
        focus (
          go_simp
          go_at_call 19
          refine (rn_Whole A M cb B (F : Int) _ (HRB.out.below hS)).mono ?_
          rintro e wc2 ⟨rfl, hb⟩
          have hS := hS.trans (hb.mono hS.size)
          rw [HWB.out]
          clear hb
          go_wp2_with fail
          refine hK.out _ _ hS (fun _ => ?_)
          clear hK K
          try simp only [Act.put, List.setIfInBounds_toArray, List.set_cons_zero, List.set_cons_succ]
          refine wpAnyH_take (i := 30) (v := ?_) (by simp only [List.getElem?_toArray, List.getElem?_cons_succ, List.getElem?_cons_zero] <;> exact rfl) (by kernel_rfl) (by kernel_rfl) (by kernel_rfl) (fun _ _ _ h => h) (Or.inl ⟨by rfl, ?_⟩) hS ?_
          rotate_left
          focus (intro w' hw'; go_simp; all_goals with_reducible rfl)
          try simp only [Act.put, List.setIfInBounds_toArray, List.set_cons_zero, List.set_cons_succ]
          refine wpAnyH_take (i := 31) (v := ?_) (by simp only [List.getElem?_toArray, List.getElem?_cons_succ, List.getElem?_cons_zero] <;> exact rfl) (by kernel_rfl) (by kernel_rfl) (by kernel_rfl) (fun _ _ _ h => h) (Or.inl ⟨by rfl, ?_⟩) hS ?_
          rotate_left
          focus (intro w' hw'; go_simp; all_goals with_reducible rfl)
          try simp only [Act.put, List.setIfInBounds_toArray, List.set_cons_zero, List.set_cons_succ]
          refine wpAnyH_done (by kernel_rfl) ?_ _
          refine NoPanic.normal ?_
          have HB11 := hide (HB10.out.keep hS)
          clear hS h9
          clear HB10 HC3 HWB HRB HBX HBZ
          go_upto_if 102 with (fail)
          go_cut [15] from 102 to 114 (fun s15 wx => s15 = .slice A M cb ∧ ∃ Z : List Int, Hid (Z.length = M ∧ wholeP Z F = decide (M = 0) ∧ ∀ z ∈ Z, 0 ≤ z ∧ z ≤ 255) ∧ Hid (BkB w gx gn gz #[.int .i64 s, .int .i64 l, .int .i64 r] #[.int .u16 (F : Int), .int .u16 b, .int .u16 c] base (.slice A M cb) Z wx))
          case first =>
            by_cases hM0 : M = 0
            · have HM0 := hide hM0
              simp only [decide_eq_false (show ¬ 0 < M by omega)]
              clear hM0
              go_wp2_with fail
              all_goals (go_meet; exact ⟨rfl, B, ⟨HBL.out, by rw [HWE.out B HBL.out, decide_eq_true rfl, decide_eq_true HM0.out], HBB.out⟩, HB11.out⟩)
            · simp only [decide_eq_true (show 0 < M by omega)]
              obtain ⟨g, cb', hA, -, -⟩ := own_at HB11.out.o (by rw [HBL.out]; omega)
              injection hA with hA1 hA2 hA3
              subst hA1 hA3
              clear hA2
              obtain ⟨J, hJ⟩ : ∃ J : Nat, (K : Int) % (M : Int) = J := ⟨((K : Int) % (M : Int)).toNat, by
                have := Int.emod_nonneg (K : Int) (show (M : Int) ≠ 0 by omega)
                omega⟩
              have hJ2 : (K : Int).tmod (M : Int) = (J : Int) := by rw [Int.tmod_eq_emod_of_nonneg (by omega)]; exact hJ
              have hJ3 : (J : Int) < (M : Int) := by
                have := Int.emod_lt_of_pos (K : Int) (show 0 < (M : Int) by omega)
                omega
              have hJ4 : (0 : Int) ≤ (J : Int) := by omega
              have hO := HB11.out.o
              rw [HBL.out] at hO
              have HO := hide hO
              have hfz := own_frozen hO J
              obtain ⟨z, hz⟩ : ∃ z, z = B.getD J 0 := ⟨_, rfl⟩
              have hcz : wc2.cell? ⟨g, J, none⟩ = some (.int .u8 z) := by
                obtain ⟨b', off', e, -, hc⟩ := (rb_of_own hO HBB.out).1.2.1 (by omega)
                injection e with e
                injection e with e1 e2
                subst e1 e2
                have := hc J (by omega)
                rw [Nat.zero_add] at this
                rw [this, hz]
              have hzb : 97 ≤ z ∧ z ≤ 122 := by
                rw [hz, List.getD, List.getElem?_eq_getElem (by rw [HBL.out]; omega)]
                exact HBC.out _ (List.getElem_mem _)
              have HZ := hide hz
              obtain ⟨z0, z1⟩ := hzb
              have hM1 : ¬ (M : Int) = 0 := by omega
              have hM9 : ¬ (M : Int) = -1 := by omega
              clear hO hz hM0
              go_upto_region 12 with (fail)
              go_region
              obtain ⟨y0, y1, y2⟩ := xor_is z0 z1
              generalize bits BinOp.xor IntKind.u8 z 1 = y at y0 y1 y2 ⊢
              have hJM : J < M := by omega
              go_wp2_with fail
              go_meet
              exact ⟨rfl, B.set J y, ⟨by rw [List.length_set]; exact HBL.out, by rw [HWE.out _ (by rw [List.length_set]; exact HBL.out), decide_eq_false (set_ne (by rw [HBL.out]; exact hJM) (by rw [← HZ.out]; exact y2)), decide_eq_false (by omega)], fun q hq => by
                rcases List.mem_or_eq_of_mem_set hq with hq | hq
                · exact HBB.out q hq
                · subst hq; exact ⟨y0, y1⟩⟩, (HB11.out.set HBL.out J hJM y).keep (below_drewN (Below.refl _ _) 1)⟩
          case rest =>
            obtain ⟨rfl, Z, HZ, HB12⟩ := hcut
            clear HB11 HWE HBC HBL HBB
            obtain ⟨d, hd⟩ : ∃ d, d = decide (M = 0) := ⟨_, rfl⟩
            have e0 : ((M : Int) == 0) = d := by
              rw [hd]
              by_cases h : M = 0
              · subst h; rfl
              · rw [decide_eq_false h]; exact beq_eq_false_iff_ne.2 (by omega)
            rw [← hd] at HZ
            have n2 := HB12.out.s.n.cell 2
            simp only [List.getElem?_toArray, List.getElem?_cons_zero, List.getElem?_cons_succ] at n2
            obtain ⟨p, hp⟩ : ∃ p, 1 + c = p := ⟨_, rfl⟩
            have hp0 : 1 ≤ p := by omega
            have hp1 : p ≤ 65536 := by omega
            clear hd hM hM2 hK hK2 hM3 hK3 a0 a1 b0 b1
            go_upto_region 13 with (fail)
            go_quiet (fail)
            go_upto_region 14 with (fail)
            have HB13 := hide (HB12.out.keep (below_drewN (Below.refl _ _) nq))
            generalize wc.drewN nq = w13 at HB13 ⊢
            clear HB12 n2 hp c0 c1 hS
            have HR := hide (show RB w13 A M Z by have h := HB13.out.o; rw [HZ.out.1] at h; exact (rb_of_own h HZ.out.2.2).1)
            go_wp2_with fail
            refine (rn_Wait t p (by omega) _).mono ?_
            rintro e w14 ⟨rfl, rfl⟩
            obtain ⟨q, hq⟩ : ∃ q, q = waitI t p := ⟨_, rfl⟩
            rw [← hq]
            have HQ := hide hq
            clear hq
            go_wp2_with fail
            refine (rn_Whole A M cb Z (F : Int) _ HR.out).mono ?_
            rintro e w15 ⟨rfl, hb15⟩
            rw [HZ.out.2.1]
            have HB15 := hide (HB13.out.keep hb15)
            clear hb15 HB13 HR HZ
            have ed : (d == d) = true := by cases d <;> rfl
            by_cases hz : t = 0
            · subst hz
              obtain rfl : q = 0 := by rw [HQ.out]; exact waitI_no (by omega)
              clear hp0 hp1 t0 t1
              go_wp2_with fail
              refine (aw_awake _ (HT.out _ HB15.out.s.b)).mono ?_
              rintro e w16 ⟨rfl, hb16⟩
              have HB16 := hide (HB15.out.s.b.trans (hb16.mono HB15.out.s.b.size))
              clear hb16
              go_wp2_with fail
              go_ret
              exact ⟨rfl, HB16.out⟩
            · have hb := waitI_bd (t := t) (p := p) (by omega) hp0
              rw [← HQ.out] at hb
              obtain ⟨q1, q2, q3, q4, q5⟩ := hb
              have dz : (t == 0) = false := by simpa using hz
              obtain ⟨P1, hP1⟩ : ∃ P1, q * p = P1 := ⟨_, rfl⟩
              obtain ⟨P2, hP2⟩ : ∃ P2, (q - 1) * p = P2 := ⟨_, rfl⟩
              rw [hP1] at q3 q5
              rw [hP2] at q4
              have hP0 : 0 ≤ P2 := by rw [← hP2]; exact Int.mul_nonneg (by omega) (by omega)
              have hw0 : wrap64 (q - 1) = q - 1 := by unfold wrap64; omega
              have hw1 : wrap64 P1 = P1 := by unfold wrap64; omega
              have hw2 : wrap64 P2 = P2 := by unfold wrap64; omega
              have D1 : decide (1 ≤ q) = true := decide_eq_true q1
              have D2 : decide (t ≤ P1) = true := decide_eq_true q3
              have D3 : decide (P2 < t) = true := decide_eq_true q4
              clear hz q5 hP0
              go_wp2_with fail
              all_goals first
                | (exfalso; omega)
                | (refine (aw_awake _ (HT.out _ HB15.out.s.b)).mono ?_
                   rintro e w16 ⟨rfl, hb16⟩
                   have HB16 := hide (HB15.out.s.b.trans (hb16.mono HB15.out.s.b.size))
                   clear hb16
                   go_wp2_with fail
                   go_ret
                   exact ⟨rfl, HB16.out⟩))
        exact AllReadyH.nil)
      exact AllReadyH.nil)
    exact AllReadyH.nil
  · have hno : okP ⟨s, l, r⟩ = false := by simpa using hok
    have HNO := hide hno
    clear hok hno ha hb hc t0 t1
    go_wp2_with fail
    refine (rn_Fields s l r w0 (HT.out _ HS0.out.b)).mono ?_
    rintro e w1 ⟨v, rfl, hown, hb1⟩
    rw [chkP_no HNO.out]
    rw [fldsP_no HNO.out] at hown
    obtain ⟨A1, c1, rfl, -⟩ := own_fields hown
    have HS1 := hide (HS0.out.keep hb1)
    clear hown hb1 HS0 x0 x1 x2
    rw [show ([] : List Fd).length = 0 from rfl]
    have x0 := HS1.out.x.cell 0
    have x1 := HS1.out.x.cell 1
    have x2 := HS1.out.x.cell 2
    simp only [List.getElem?_toArray, List.getElem?_cons_zero, List.getElem?_cons_succ] at x0 x1 x2
    go_wp2_with fail
    refine (rn_Check s l r _).mono ?_
    rintro e w2 ⟨rfl, hb2⟩
    rw [chkP_no HNO.out]
    have HS2 := hide (HS1.out.keep hb2)
    clear hb2 HS1 x0 x1 x2
    go_wp2_with fail
    refine (aw_awake _ (HT.out _ HS2.out.b)).mono ?_
    rintro e w3 ⟨rfl, hb3⟩
    have HS3 := hide (HS2.out.keep hb3)
    clear hb3 HS2
    go_wp2_with fail
    go_ret
    exact ⟨rfl, HS3.out.b⟩
end Go.Proofs.YtdnopjopdklelaaDoor.responseBack
