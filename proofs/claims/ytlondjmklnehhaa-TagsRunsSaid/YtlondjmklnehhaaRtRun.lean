/-
  Layer 25: Run: the document's.
-/
import Derived.Test.YtlondjmklnehhaaTgTurn
import Derived.Test.YtlondjmklnehhaaRtFirst
import Derived.Test.YtlondjmklnehhaaRtServe
import Derived.Test.YtlondjmklnehhaaTgRunM
namespace Go.Proofs.Ytlondjmklnehhaa
set_option linter.unusedSimpArgs false
set_option linter.unusedVariables false
open Go.RowKit

set_option maxRecDepth 100000 in
set_option maxHeartbeats 6400000 in
theorem rt_Run (A : Option Addr) (n c : Nat) (l : List Tg) (B : Option Addr) (N d : Nat) (cs : List Int) (w : World) (hl : SL tgF w A n c l) (hc : NL .i64 w B N d cs) (hn : (n : Int) ≤ 1000) (hN : (N : Int) ≤ 1000) :
    Calls Try.prog 20 #[.slice A n c, .slice B N d] w (GivesR l cs n N w) := by
  have HL := hide hl
  have HC := hide hc
  have HLN := hide hl.len
  have HN := hide hN
  have HN1 := hide hn
  have HLE := hide hc.len
  have HO0 := hide (World.ownsRow_nil w w.heap.size 23 4)
  clear hl hc
  go_enter Try.func20, Try.ntmps20
  go_wp2_with (at_builtin; refine wpList_append_sl isTr w rfl (.tmp 13) (.tmp 14) rfl w.heap.size _ 0 [] rfl HO0.out A n c l rfl HL.out (by have := HN1.out; omega) (Nat.le_refl _) ?_; intro A1 c1 w1 hown1 hg1; have HO1 := hide hown1; have HG1 := hide (own_bel HO0.out (Below.refl w.heap.size w) (Nat.le_refl _) (Nat.le_refl _) hg1); clear hown1 hg1)
  have HJ0 := hide (show RnJ 23 w w1 (.slice none 0 0) A1 n c1 l cs 0 from
    ⟨World.ownsRow_nil _ _ _ _, (by have h := HO1.out; simp only [List.nil_append, Nat.zero_add] at h; exact h), (fun x hx hy => by cases hx), HG1.out⟩)
  clear HO0 HO1 HG1 HL
  go_loopw [7, 8] (fun s7 s8 wr => ∃ i : Nat, i ≤ N ∧ s8 = .int .i64 (i : Int) ∧ Hid (RnJ 23 w wr s7 A1 n c1 l cs i)) (fun _ s8 _ => N - (intOf s8).toNat)
  case atStart => exact ⟨0, by omega, rfl, HJ0.out⟩
  case round =>
    clear HJ0
    obtain ⟨i, hi, rfl, HJ⟩ := hrel
    by_cases h2 : i < N
    · have h2' : (i : Int) < (N : Int) := by omega
      have HI := hide h2
      obtain ⟨x, b, off, hx, rfl, hbl, x0, hwf⟩ := (HC.out.keep HJ.out.bel).round h2
      have HX := hide hx
      have HBL := hide hbl
      have X0 := hide x0
      clear hx hwf hbl x0
      have HJT := hide (run_take (l := l) HX.out)
      have HLL := hide (show (runT l (cs.take i)).1.length = n from own_lenS (F := tgF) HJ.out.oh)
      have HF := hide (rt_First A1 n c1 (runT l (cs.take i)).1 wr (SL.of_own (F := tgF) HJ.out.oh) hn)
      have HL0 := hide HJ.out.ol
      have HH0 := hide HJ.out.oh
      have HB0 := hide HJ.out.bel
      have HAPS := hide HJ.out.ap
      clear HJ
      obtain ⟨l1, hl1⟩ : ∃ q, q = (runT l (cs.take i)).1 := ⟨_, rfl⟩
      obtain ⟨who, hwho⟩ : ∃ q, q = (runT l (cs.take i)).2 := ⟨_, rfl⟩
      rw [← hl1] at HJT HLL HF HH0
      rw [← hwho] at HJT HL0
      clear hl1 hwho
      rcases Nat.eq_zero_or_pos n with h0 | h0
      · have HT := hide (turn_no (l := l1) (c := x) (.inl (by rw [HLL.out]; exact h0)))
        have HE0 : l1.length = 0 := by rw [HLL.out]; exact h0
        rw [show fstI l1 = -1 from by rw [fstI, HE0]; rfl] at HF
        clear HE0 h0
        go_wp2_with fail
        refine HF.out.mono ?_
        rintro e w2 ⟨rfl, hb⟩
        have HH2 := hide (own_keepT HH0.out hb)
        have HL2 := hide (own_keepT HL0.out hb)
        have HB2 := hide (HB0.out.trans (hb.mono HB0.out.size))
        have X2 := hide ((hb.cell (p := ⟨b, off + i, none⟩) HBL.out).trans X0.out)
        have HBL2 := hide (Nat.lt_of_lt_of_le HBL.out hb.size)
        clear hb HF HH0 HL0 HB0 X0 HBL
        have x2 := X2.out
        have KX := hide (BlkIs.new w2 3 #[.int .i64 (-1)])
        have HL6 := hide (HL2.out.alloc (.cells #[.int .i64 (-1)] 3))
        have HH6 := hide (HH2.out.alloc (.cells #[.int .i64 (-1)] 3))
        have HB6 := hide (HB2.out.alloc HB2.out.size (.cells #[.int .i64 (-1)] 3))
        have HLT6 := hide (fun b (e : (Value.slice A1 n c1).ownBlock = some b) => (HH6.out.lt b e).2)
        go_wp2_with (at_builtin; refine wpList_append_n1 _ rfl (.tmp 33) (.tmp 34) rfl w.heap.size _ i _ rfl HL6.out w2.heap.size (-1) rfl KX.out (by have := HI.out; have := HN.out; omega) HB6.out.size ?_; intro g7 c7 w7 ho7 hg7 hl7; have HL7 := hide ho7; have HH7 := hide (own_growS HH6.out hg7 HAPS.out); have HB7 := hide (own_bel HL6.out HB6.out (Nat.le_refl _) (Nat.le_refl _) hg7); have HA7 := hide (show u7.ownBlock = some g7 ∨ g7 = (w2.alloc (.cells #[.int .i64 (-1)] 3)).heap.size from hl7); clear ho7 hg7 hl7)
        go_roundw
        case rel =>
          refine ⟨i + 1, HI.out, by go_num, ?_, ?_, ?_, HB7.out⟩
          · rw [HJT.out, HT.out]; exact HL7.out
          · rw [HJT.out, HT.out]; exact HH7.out
          · intro y hy he
            simp only [Value.ownBlock, Option.some.injEq] at hy
            subst hy
            rcases HA7.out with h1 | h1
            · exact HAPS.out g7 h1 he
            · have := HLT6.out g7 he
              omega
        case measure => simp [intOf]; omega
      · obtain ⟨m, hm⟩ : ∃ m, fsN l1 l1.length = m := ⟨_, rfl⟩
        have hmn : m < n := by rw [← hm, ← HLL.out]; exact fsN_lt l1 l1.length (by rw [HLL.out]; exact h0)
        rw [show fstI l1 = (m : Int) from by rw [fstI_pos (by rw [HLL.out]; exact h0), hm]] at HF
        have hmn1 : (m : Int) < (n : Int) := by omega
        have hmz : decide ((m : Int) < 0) = false := decide_eq_false (by omega)
        by_cases h1 : x < 1
        · have HT := hide (turn_no (l := l1) (c := x) (.inr h1))
          have k1 : decide (x < 1) = true := decide_eq_true h1
          clear h1 h0 hm
          go_wp2_with fail
          refine HF.out.mono ?_
          rintro e w2 ⟨rfl, hb⟩
          have HH2 := hide (own_keepT HH0.out hb)
          have HL2 := hide (own_keepT HL0.out hb)
          have HB2 := hide (HB0.out.trans (hb.mono HB0.out.size))
          have X2 := hide ((hb.cell (p := ⟨b, off + i, none⟩) HBL.out).trans X0.out)
          have HBL2 := hide (Nat.lt_of_lt_of_le HBL.out hb.size)
          clear hb HF HH0 HL0 HB0 X0 HBL
          have x2 := X2.out
          have KX := hide (BlkIs.new w2 3 #[.int .i64 (-1)])
          have HL6 := hide (HL2.out.alloc (.cells #[.int .i64 (-1)] 3))
          have HH6 := hide (HH2.out.alloc (.cells #[.int .i64 (-1)] 3))
          have HB6 := hide (HB2.out.alloc HB2.out.size (.cells #[.int .i64 (-1)] 3))
          have HLT6 := hide (fun b (e : (Value.slice A1 n c1).ownBlock = some b) => (HH6.out.lt b e).2)
          go_wp2_with (at_builtin; refine wpList_append_n1 _ rfl (.tmp 33) (.tmp 34) rfl w.heap.size _ i _ rfl HL6.out w2.heap.size (-1) rfl KX.out (by have := HI.out; have := HN.out; omega) HB6.out.size ?_; intro g7 c7 w7 ho7 hg7 hl7; have HL7 := hide ho7; have HH7 := hide (own_growS HH6.out hg7 HAPS.out); have HB7 := hide (own_bel HL6.out HB6.out (Nat.le_refl _) (Nat.le_refl _) hg7); have HA7 := hide (show u7.ownBlock = some g7 ∨ g7 = (w2.alloc (.cells #[.int .i64 (-1)] 3)).heap.size from hl7); clear ho7 hg7 hl7)
          go_roundw
          case rel =>
            refine ⟨i + 1, HI.out, by go_num, ?_, ?_, ?_, HB7.out⟩
            · rw [HJT.out, HT.out]; exact HL7.out
            · rw [HJT.out, HT.out]; exact HH7.out
            · intro y hy he
              simp only [Value.ownBlock, Option.some.injEq] at hy
              subst hy
              rcases HA7.out with h1 | h1
              · exact HAPS.out g7 h1 he
              · have := HLT6.out g7 he
                omega
          case measure => simp [intOf]; omega
        · have k1 : decide (x < 1) = false := decide_eq_false h1
          have HNO := hide (show ¬ (l1.length = 0 ∨ x < 1) from fun q => by rw [HLL.out] at q; omega)
          obtain ⟨t, ht⟩ : ∃ t, gtT l1 m = t := ⟨_, rfl⟩
          have HTG := hide ht
          obtain ⟨g, rfl⟩ := own_someS HH0.out h0
          have HS := hide (fun w => rt_Serve 0 t x w)
          obtain ⟨v9, hv⟩ : ∃ v, v = (srvT 0 t x).1 := ⟨_, rfl⟩
          obtain ⟨y, hy⟩ : ∃ y, y = (srvT 0 t x).2.1 := ⟨_, rfl⟩
          obtain ⟨er, he⟩ : ∃ e, e = (srvT 0 t x).2.2 := ⟨_, rfl⟩
          rw [← hv, ← hy, ← he] at HS
          have HTE := hide (show ¬ er = 0 → turnT l1 x = (l1, -1) from fun q => turn_err HNO.out 0 (by rw [hm, ht, ← he]; exact q))
          have HTY := hide (show er = 0 → turnT l1 x = (l1.set m y, (m : Int)) from fun q => by rw [turn_yes HNO.out 0 (by rw [hm, ht, ← he]; exact q), hm, ht, ← hy])
          clear h1 h0 ht hm hv hy he HNO
          go_wp2_with fail
          refine HF.out.mono ?_
          rintro e w2 ⟨rfl, hb⟩
          have HH2 := hide (own_keepT HH0.out hb)
          have HL2 := hide (own_keepT HL0.out hb)
          have HB2 := hide (HB0.out.trans (hb.mono HB0.out.size))
          have X2 := hide ((hb.cell (p := ⟨b, off + i, none⟩) HBL.out).trans X0.out)
          have HBL2 := hide (Nat.lt_of_lt_of_le HBL.out hb.size)
          clear hb HF HH0 HL0 HB0 X0 HBL
          obtain ⟨c0, c1_, c2, c3⟩ := tg_cells HH2.out hmn HTG.out
          have hbg : g < w2.heap.size := (own_ltS HH2.out).2
          have C0 := hide c0
          have C1 := hide c1_
          have C2 := hide c2
          have C3 := hide c3
          clear c0 c1_ c2 c3
          have x2 := X2.out
          go_upto_region 10 with (fail)
          clear x2
          go_cut [10, 11, 12] from 36 to 49 (fun s10 s11 s12 wx => s12 = .int .i64 er ∧ NewT w2 23 y s11 wx)
          case first =>
            refine wp_region_noPanic ?_
            refine wp_region_held_drew (S := fun w' => Below w2.heap.size w2 w') (by kernel_rfl) (Below.refl _ _).drew (fun hS => ?_)
            generalize w2.drew = wd at hS  ⊢
            refine wpAnyH_take (i := 0) (v := ?_) (by simp only [List.getElem?_toArray, List.getElem?_cons_succ, List.getElem?_cons_zero] <;> exact rfl) (by kernel_rfl) (by kernel_rfl) (by kernel_rfl) (fun _ _ _ h => h) (Or.inl ⟨by rfl, ?_⟩) hS ?_
            rotate_left
            focus (intro w' hw'; go_simp; all_goals with_reducible rfl)
            try simp only [Act.put, List.setIfInBounds_toArray, List.set_cons_zero, List.set_cons_succ]
            refine wpAnyH_take (i := 1) (v := ?_) (by simp only [List.getElem?_toArray, List.getElem?_cons_succ, List.getElem?_cons_zero] <;> exact rfl) (by kernel_rfl) (by kernel_rfl) (by kernel_rfl) (fun _ _ _ h => h) (Or.inl ⟨by rfl, ?_⟩) hS ?_
            rotate_left
            focus (intro w' hw'; go_simp; all_goals with_reducible rfl)
            try simp only [Act.put, List.setIfInBounds_toArray, List.set_cons_zero, List.set_cons_succ]
            refine wpAnyH_take (i := 2) (v := ?_) (by simp only [List.getElem?_toArray, List.getElem?_cons_succ, List.getElem?_cons_zero] <;> exact rfl) (by kernel_rfl) (by kernel_rfl) (by kernel_rfl) (fun _ _ _ h => h) (Or.inl ⟨by rfl, ?_⟩) hS ?_
            rotate_left
            focus (intro w' hw'; go_simp; all_goals with_reducible rfl)
            try simp only [Act.put, List.setIfInBounds_toArray, List.set_cons_zero, List.set_cons_succ]
            refine wpAnyH_take (i := 3) (v := .agg #[.int .i64 t.w, .int .i64 t.s, .int .i64 t.f, .int .i64 t.k]) (by simp only [List.getElem?_toArray, List.getElem?_cons_succ, List.getElem?_cons_zero] <;> exact rfl) (by kernel_rfl) (by kernel_rfl) (by kernel_rfl) (fun _ _ _ h => h) (Or.inl ⟨by rfl, ?_⟩) hS ?_
            focus (intro w' hw'; have kk0 := (hw'.cell (p := ⟨g, _, none⟩) hbg).trans C0.out; have kk1 := (hw'.cell (p := ⟨g, _, none⟩) hbg).trans C1.out; have kk2 := (hw'.cell (p := ⟨g, _, none⟩) hbg).trans C2.out; have kk3 := (hw'.cell (p := ⟨g, _, none⟩) hbg).trans C3.out; go_simp)
            try simp only [Act.put, List.setIfInBounds_toArray, List.set_cons_zero, List.set_cons_succ]
            refine wpAnyH_take (i := 4) (v := ?_) (by simp only [List.getElem?_toArray, List.getElem?_cons_succ, List.getElem?_cons_zero] <;> exact rfl) (by kernel_rfl) (by kernel_rfl) (by kernel_rfl) (fun _ _ _ h => h) (Or.inl ⟨by rfl, ?_⟩) hS ?_
            rotate_left
            focus (intro w' hw'; go_simp; all_goals with_reducible rfl)
            try simp only [Act.put, List.setIfInBounds_toArray, List.set_cons_zero, List.set_cons_succ]
            refine wpAnyH_take (i := 5) (v := ?_) (by simp only [List.getElem?_toArray, List.getElem?_cons_succ, List.getElem?_cons_zero] <;> exact rfl) (by kernel_rfl) (by kernel_rfl) (by kernel_rfl) (fun _ _ _ h => h) (Or.inl ⟨by rfl, ?_⟩) hS ?_
            rotate_left
            focus (intro w' hw'; go_simp; all_goals with_reducible rfl)
            try simp only [Act.put, List.setIfInBounds_toArray, List.set_cons_zero, List.set_cons_succ]
            refine wpAnyH_take (i := 6) (v := ?_) (by simp only [List.getElem?_toArray, List.getElem?_cons_succ, List.getElem?_cons_zero] <;> exact rfl) (by kernel_rfl) (by kernel_rfl) (by kernel_rfl) (fun _ _ _ h => h) (Or.inl ⟨by rfl, ?_⟩) hS ?_
            rotate_left
            focus (intro w' hw'; go_simp; all_goals with_reducible rfl)
            try simp only [Act.put, List.setIfInBounds_toArray, List.set_cons_zero, List.set_cons_succ]
            refine wpAnyH_take (i := 7) (v := ?_) (by simp only [List.getElem?_toArray, List.getElem?_cons_succ, List.getElem?_cons_zero] <;> exact rfl) (by kernel_rfl) (by kernel_rfl) (by kernel_rfl) (fun _ _ _ h => h) (Or.inl ⟨by rfl, ?_⟩) hS ?_
            rotate_left
            focus (intro w' hw'; have kx := (hw'.cell (p := ⟨b, off + i, none⟩) HBL2.out).trans X2.out; go_simp; all_goals with_reducible rfl)
            try simp only [Act.put, List.setIfInBounds_toArray, List.set_cons_zero, List.set_cons_succ]
            refine wpAnyH_ready (rs := [8, 13]) (by kernel_rfl) (by simp) ?_
            refine AllReadyH.cons (o := _) (by simp only [List.getElem?_toArray, List.getElem?_cons_succ, List.getElem?_cons_zero] <;> exact rfl) (fun K hK => ?_) ?_
            focus (
              go_simp
              go_at_call 8
              refine (HS.out _).mono ?_
              rintro e wr1 ⟨rfl, hb⟩
              have hS := hS.trans (hb.mono hS.size)
              clear hb
              go_wp2_with fail
              refine hK.out _ _ hS (fun _ => ?_)
              clear hK K
              try simp only [Act.put, List.setIfInBounds_toArray, List.set_cons_zero, List.set_cons_succ]
              refine wpAnyH_take (i := 9) (v := ?_) (by simp only [List.getElem?_toArray, List.getElem?_cons_succ, List.getElem?_cons_zero] <;> exact rfl) (by kernel_rfl) (by kernel_rfl) (by kernel_rfl) (fun _ _ _ h => h) (Or.inl ⟨by rfl, ?_⟩) hS ?_
              rotate_left
              focus (intro w' hw'; go_simp; all_goals with_reducible rfl)
              try simp only [Act.put, List.setIfInBounds_toArray, List.set_cons_zero, List.set_cons_succ]
              refine wpAnyH_take (i := 10) (v := ?_) (by simp only [List.getElem?_toArray, List.getElem?_cons_succ, List.getElem?_cons_zero] <;> exact rfl) (by kernel_rfl) (by kernel_rfl) (by kernel_rfl) (fun _ _ _ h => h) (Or.inl ⟨by rfl, ?_⟩) hS ?_
              rotate_left
              focus (intro w' hw'; go_simp; all_goals with_reducible rfl)
              try simp only [Act.put, List.setIfInBounds_toArray, List.set_cons_zero, List.set_cons_succ]
              refine wpAnyH_take (i := 11) (v := ?_) (by simp only [List.getElem?_toArray, List.getElem?_cons_succ, List.getElem?_cons_zero] <;> exact rfl) (by kernel_rfl) (by kernel_rfl) (by kernel_rfl) (fun _ _ _ h => h) (Or.inl ⟨by rfl, ?_⟩) hS ?_
              rotate_left
              focus (intro w' hw'; go_simp; all_goals with_reducible rfl)
              try simp only [Act.put, List.setIfInBounds_toArray, List.set_cons_zero, List.set_cons_succ]
              refine wpAnyH_take (i := 12) (v := ?_) (by simp only [List.getElem?_toArray, List.getElem?_cons_succ, List.getElem?_cons_zero] <;> exact rfl) (by kernel_rfl) (by kernel_rfl) (by kernel_rfl) (fun _ _ _ h => h) (Or.inl ⟨by rfl, ?_⟩) hS ?_
              rotate_left
              focus (intro w' hw'; go_simp; all_goals with_reducible rfl)
              try simp only [Act.put, List.setIfInBounds_toArray, List.set_cons_zero, List.set_cons_succ]
              refine wpAnyH_ready (rs := [13]) (by kernel_rfl) (by simp) ?_
              refine AllReadyH.cons (o := _) (by simp only [List.getElem?_toArray, List.getElem?_cons_succ, List.getElem?_cons_zero] <;> exact rfl) (fun K hK => ?_) ?_
              focus (
                go_simp
                have hz2 := hS.size
                have hS := hS.alloc hS.size (.cells #[.int .i64 0, .int .i64 0, .int .i64 0, .int .i64 0] 23)
                refine hK.out _ _ hS (fun _ => ?_)
                have Egy2 := BlkIs.new wr1 23 #[.int .i64 0, .int .i64 0, .int .i64 0, .int .i64 0]
                obtain ⟨gy, hgy⟩ : ∃ g, g = wr1.heap.size := ⟨_, rfl⟩
                have Mgy : w2.heap.size ≤ gy := by rw [hgy]; exact hz2
                rw [← hgy] at Egy2 ⊢
                generalize wr1.alloc (.cells #[.int .i64 0, .int .i64 0, .int .i64 0, .int .i64 0] 23) = wa2 at hS Egy2 ⊢
                clear hgy hz2
                clear hK K
                try simp only [Act.put, List.setIfInBounds_toArray, List.set_cons_zero, List.set_cons_succ]
                refine wpAnyH_take (i := 14) (v := ?_) (by simp only [List.getElem?_toArray, List.getElem?_cons_succ, List.getElem?_cons_zero] <;> exact rfl) (by kernel_rfl) (by kernel_rfl) (by kernel_rfl) (fun _ _ _ h => h) (Or.inl ⟨by rfl, ?_⟩) hS ?_
                rotate_left
                focus (intro w' hw'; go_simp; all_goals with_reducible rfl)
                try simp only [Act.put, List.setIfInBounds_toArray, List.set_cons_zero, List.set_cons_succ]
                refine wpAnyH_ready (rs := [15]) (by kernel_rfl) (by simp) ?_
                refine AllReadyH.cons (o := _) (by simp only [List.getElem?_toArray, List.getElem?_cons_succ, List.getElem?_cons_zero] <;> exact rfl) (fun K hK => ?_) ?_
                focus (
                  refine rgs_store_blk (by rfl) 23 (.tmp 11) (.tmp 47) (by rfl) gy y.cs #[.int .i64 0, .int .i64 0, .int .i64 0, .int .i64 0] 23 (by rfl) (by rfl) Egy2 rt_size rfl (Tg.cs_one y) ?_
                  have hS := below_setRow hS Mgy y.cs
                  have Egy3 := Egy2.row y.cs
                  refine hK.out _ _ hS (fun _ => ?_)
                  generalize wa2.setRow gy y.cs = ws3 at hS Egy3 ⊢
                  clear hK K
                  try simp only [Act.put, List.setIfInBounds_toArray, List.set_cons_zero, List.set_cons_succ]
                  refine wpAnyH_take (i := 16) (v := ?_) (by simp only [List.getElem?_toArray, List.getElem?_cons_succ, List.getElem?_cons_zero] <;> exact rfl) (by kernel_rfl) (by kernel_rfl) (by kernel_rfl) (fun _ _ _ h => h) (Or.inl ⟨by rfl, ?_⟩) hS ?_
                  rotate_left
                  focus (intro w' hw'; go_simp; all_goals with_reducible rfl)
                  try simp only [Act.put, List.setIfInBounds_toArray, List.set_cons_zero, List.set_cons_succ]
                  refine wpAnyH_done (by kernel_rfl) ?_ _
                  refine NoPanic.normal ?_
                  go_wp2_with fail
                  go_meet
                  exact ⟨rfl, gy, rfl, Mgy, Egy3, hS⟩)
                exact AllReadyH.nil)
              exact AllReadyH.nil)
            refine AllReadyH.cons (o := _) (by simp only [List.getElem?_toArray, List.getElem?_cons_succ, List.getElem?_cons_zero] <;> exact rfl) (fun K hK => ?_) ?_
            focus (
              go_simp
              have hz4 := hS.size
              have hS := hS.alloc hS.size (.cells #[.int .i64 0, .int .i64 0, .int .i64 0, .int .i64 0] 23)
              refine hK.out _ _ hS (fun _ => ?_)
              have Egy4 := BlkIs.new wd 23 #[.int .i64 0, .int .i64 0, .int .i64 0, .int .i64 0]
              obtain ⟨gy, hgy⟩ : ∃ g, g = wd.heap.size := ⟨_, rfl⟩
              have Mgy : w2.heap.size ≤ gy := by rw [hgy]; exact hz4
              rw [← hgy] at Egy4 ⊢
              generalize wd.alloc (.cells #[.int .i64 0, .int .i64 0, .int .i64 0, .int .i64 0] 23) = wa4 at hS Egy4 ⊢
              clear hgy hz4
              clear hK K
              try simp only [Act.put, List.setIfInBounds_toArray, List.set_cons_zero, List.set_cons_succ]
              refine wpAnyH_ready (rs := [8]) (by kernel_rfl) (by simp) ?_
              refine AllReadyH.cons (o := _) (by simp only [List.getElem?_toArray, List.getElem?_cons_succ, List.getElem?_cons_zero] <;> exact rfl) (fun K hK => ?_) ?_
              focus (
                go_simp
                go_at_call 8
                refine (HS.out _).mono ?_
                rintro e wr5 ⟨rfl, hb⟩
                have hS := hS.trans (hb.mono hS.size)
                have Egy5 := Egy4.keep hb
                clear hb
                go_wp2_with fail
                refine hK.out _ _ hS (fun _ => ?_)
                clear hK K
                try simp only [Act.put, List.setIfInBounds_toArray, List.set_cons_zero, List.set_cons_succ]
                refine wpAnyH_take (i := 9) (v := ?_) (by simp only [List.getElem?_toArray, List.getElem?_cons_succ, List.getElem?_cons_zero] <;> exact rfl) (by kernel_rfl) (by kernel_rfl) (by kernel_rfl) (fun _ _ _ h => h) (Or.inl ⟨by rfl, ?_⟩) hS ?_
                rotate_left
                focus (intro w' hw'; go_simp; all_goals with_reducible rfl)
                try simp only [Act.put, List.setIfInBounds_toArray, List.set_cons_zero, List.set_cons_succ]
                refine wpAnyH_take (i := 10) (v := ?_) (by simp only [List.getElem?_toArray, List.getElem?_cons_succ, List.getElem?_cons_zero] <;> exact rfl) (by kernel_rfl) (by kernel_rfl) (by kernel_rfl) (fun _ _ _ h => h) (Or.inl ⟨by rfl, ?_⟩) hS ?_
                rotate_left
                focus (intro w' hw'; go_simp; all_goals with_reducible rfl)
                try simp only [Act.put, List.setIfInBounds_toArray, List.set_cons_zero, List.set_cons_succ]
                refine wpAnyH_take (i := 11) (v := ?_) (by simp only [List.getElem?_toArray, List.getElem?_cons_succ, List.getElem?_cons_zero] <;> exact rfl) (by kernel_rfl) (by kernel_rfl) (by kernel_rfl) (fun _ _ _ h => h) (Or.inl ⟨by rfl, ?_⟩) hS ?_
                rotate_left
                focus (intro w' hw'; go_simp; all_goals with_reducible rfl)
                try simp only [Act.put, List.setIfInBounds_toArray, List.set_cons_zero, List.set_cons_succ]
                refine wpAnyH_take (i := 12) (v := ?_) (by simp only [List.getElem?_toArray, List.getElem?_cons_succ, List.getElem?_cons_zero] <;> exact rfl) (by kernel_rfl) (by kernel_rfl) (by kernel_rfl) (fun _ _ _ h => h) (Or.inl ⟨by rfl, ?_⟩) hS ?_
                rotate_left
                focus (intro w' hw'; go_simp; all_goals with_reducible rfl)
                try simp only [Act.put, List.setIfInBounds_toArray, List.set_cons_zero, List.set_cons_succ]
                refine wpAnyH_take (i := 14) (v := ?_) (by simp only [List.getElem?_toArray, List.getElem?_cons_succ, List.getElem?_cons_zero] <;> exact rfl) (by kernel_rfl) (by kernel_rfl) (by kernel_rfl) (fun _ _ _ h => h) (Or.inl ⟨by rfl, ?_⟩) hS ?_
                rotate_left
                focus (intro w' hw'; go_simp; all_goals with_reducible rfl)
                try simp only [Act.put, List.setIfInBounds_toArray, List.set_cons_zero, List.set_cons_succ]
                refine wpAnyH_ready (rs := [15]) (by kernel_rfl) (by simp) ?_
                refine AllReadyH.cons (o := _) (by simp only [List.getElem?_toArray, List.getElem?_cons_succ, List.getElem?_cons_zero] <;> exact rfl) (fun K hK => ?_) ?_
                focus (
                  refine rgs_store_blk (by rfl) 23 (.tmp 11) (.tmp 47) (by rfl) gy y.cs #[.int .i64 0, .int .i64 0, .int .i64 0, .int .i64 0] 23 (by rfl) (by rfl) Egy5 rt_size rfl (Tg.cs_one y) ?_
                  have hS := below_setRow hS Mgy y.cs
                  have Egy6 := Egy5.row y.cs
                  refine hK.out _ _ hS (fun _ => ?_)
                  generalize wr5.setRow gy y.cs = ws6 at hS Egy6 ⊢
                  clear hK K
                  try simp only [Act.put, List.setIfInBounds_toArray, List.set_cons_zero, List.set_cons_succ]
                  refine wpAnyH_take (i := 16) (v := ?_) (by simp only [List.getElem?_toArray, List.getElem?_cons_succ, List.getElem?_cons_zero] <;> exact rfl) (by kernel_rfl) (by kernel_rfl) (by kernel_rfl) (fun _ _ _ h => h) (Or.inl ⟨by rfl, ?_⟩) hS ?_
                  rotate_left
                  focus (intro w' hw'; go_simp; all_goals with_reducible rfl)
                  try simp only [Act.put, List.setIfInBounds_toArray, List.set_cons_zero, List.set_cons_succ]
                  refine wpAnyH_done (by kernel_rfl) ?_ _
                  refine NoPanic.normal ?_
                  go_wp2_with fail
                  go_meet
                  exact ⟨rfl, gy, rfl, Mgy, Egy6, hS⟩)
                exact AllReadyH.nil)
              exact AllReadyH.nil)
            exact AllReadyH.nil
          case rest =>
            obtain ⟨rfl, gy, rfl, hgy, hY, hb⟩ := hcut
            have HY := hide hY
            have HH3 := hide (own_keepT HH2.out hb)
            have HL3 := hide (own_keepT HL2.out hb)
            have HB3 := hide (HB2.out.trans (hb.mono HB2.out.size))
            clear hb hY HH2 HL2 HB2 HS C0 C1 C2 C3 X2 HBL2
            generalize wc = w3 at *
            by_cases hz : er = 0
            · have HT := hide (HTY.out hz)
              have HH4 := hide (tg_elem HH3.out m hmn y)
              have HKB := hide (kb_tag (KB.refl (· = g) w3) (g := g) (fun _ => rfl) (m * 4) (m * 4 + 1) (m * 4 + 2) (m * 4 + 3) (.int .i64 y.w) (.int .i64 y.s) (.int .i64 y.f) (.int .i64 y.k))
              have HL4 := hide (own_kbx HL3.out HKB.out (.inr (fun e => HAPS.out g e rfl)))
              have HB4 := hide (kb_belowT HB3.out (own_ltS HH3.out).1 HKB.out HB3.out.size)
              subst hz
              obtain ⟨c0, c1_, c2, c3⟩ := tg_cells HH3.out hmn HTG.out
              have f0 := own_frozenS HH3.out (m * 4)
              have f1 := own_frozenS HH3.out (m * 4 + 1)
              have f2 := own_frozenS HH3.out (m * 4 + 2)
              have f3 := own_frozenS HH3.out (m * 4 + 3)
              clear HTE HTY HH3 HL3 HB3 HKB
              go_upto_region 14 with (first | (refine wpList_load_blk rfl 23 (.tmp 11) rfl gy rfl 23 #[.int .i64 y.w, .int .i64 y.s, .int .i64 y.f, .int .i64 y.k] _ HY.out Try.underlying23 rfl rt_size ?_))
              clear c0 c1_ c2 c3 f0 f1 f2 f3
              generalize ((((w3.setCell ⟨g, m * 4, none⟩ (.int .i64 y.w)).setCell ⟨g, m * 4 + 1, none⟩ (.int .i64 y.s)).setCell ⟨g, m * 4 + 2, none⟩ (.int .i64 y.f)).setCell ⟨g, m * 4 + 3, none⟩ (.int .i64 y.k)) = w4 at *
              have KX := hide (BlkIs.new w4 3 #[.int .i64 (m : Int)])
              have HL6 := hide (HL4.out.alloc (.cells #[.int .i64 (m : Int)] 3))
              have HH6 := hide (HH4.out.alloc (.cells #[.int .i64 (m : Int)] 3))
              have HB6 := hide (HB4.out.alloc HB4.out.size (.cells #[.int .i64 (m : Int)] 3))
              have HLT6 := hide (fun b (e : (Value.slice (some ⟨g, 0, none⟩) n c1).ownBlock = some b) => (HH6.out.lt b e).2)
              go_wp2_with (at_builtin; refine wpList_append_n1 _ rfl (.tmp 58) (.tmp 60) rfl w.heap.size _ i _ rfl HL6.out w4.heap.size (m : Int) rfl KX.out (by have := HI.out; have := HN.out; omega) HB6.out.size ?_; intro g7 c7 w7 ho7 hg7 hl7; have HL7 := hide ho7; have HH7 := hide (own_growS HH6.out hg7 HAPS.out); have HB7 := hide (own_bel HL6.out HB6.out (Nat.le_refl _) (Nat.le_refl _) hg7); have HA7 := hide (show u7.ownBlock = some g7 ∨ g7 = (w4.alloc (.cells #[.int .i64 (m : Int)] 3)).heap.size from hl7); clear ho7 hg7 hl7)
              go_roundw
              case rel =>
                refine ⟨i + 1, HI.out, by go_num, ?_, ?_, ?_, HB7.out⟩
                · rw [HJT.out, HT.out]; exact HL7.out
                · rw [HJT.out, HT.out]; exact HH7.out
                · intro y hy he
                  simp only [Value.ownBlock, Option.some.injEq] at hy
                  subst hy
                  rcases HA7.out with h1 | h1
                  · exact HAPS.out g7 h1 he
                  · have := HLT6.out g7 he
                    omega
              case measure => simp [intOf]; omega
            · have HT := hide (HTE.out hz)
              have hz1 : (er != 0) = true := by rw [bne_iff_ne]; exact hz
              clear HTE HTY hz
              have KX := hide (BlkIs.new w3 3 #[.int .i64 (-1)])
              have HL6 := hide (HL3.out.alloc (.cells #[.int .i64 (-1)] 3))
              have HH6 := hide (HH3.out.alloc (.cells #[.int .i64 (-1)] 3))
              have HB6 := hide (HB3.out.alloc HB3.out.size (.cells #[.int .i64 (-1)] 3))
              have HLT6 := hide (fun b (e : (Value.slice (some ⟨g, 0, none⟩) n c1).ownBlock = some b) => (HH6.out.lt b e).2)
              go_wp2_with (at_builtin; refine wpList_append_n1 _ rfl (.tmp 51) (.tmp 52) rfl w.heap.size _ i _ rfl HL6.out w3.heap.size (-1) rfl KX.out (by have := HI.out; have := HN.out; omega) HB6.out.size ?_; intro g7 c7 w7 ho7 hg7 hl7; have HL7 := hide ho7; have HH7 := hide (own_growS HH6.out hg7 HAPS.out); have HB7 := hide (own_bel HL6.out HB6.out (Nat.le_refl _) (Nat.le_refl _) hg7); have HA7 := hide (show u7.ownBlock = some g7 ∨ g7 = (w3.alloc (.cells #[.int .i64 (-1)] 3)).heap.size from hl7); clear ho7 hg7 hl7)
              go_roundw
              case rel =>
                refine ⟨i + 1, HI.out, by go_num, ?_, ?_, ?_, HB7.out⟩
                · rw [HJT.out, HT.out]; exact HL7.out
                · rw [HJT.out, HT.out]; exact HH7.out
                · intro y hy he
                  simp only [Value.ownBlock, Option.some.injEq] at hy
                  subst hy
                  rcases HA7.out with h1 | h1
                  · exact HAPS.out g7 h1 he
                  · have := HLT6.out g7 he
                    omega
              case measure => simp [intOf]; omega
    · obtain rfl : i = N := by omega
      have h2' : ¬ (i : Int) < (i : Int) := by omega
      obtain ⟨B6, d6, hs6⟩ := own_slice HJ.out.ol
      subst hs6
      obtain ⟨r1, r2, r3⟩ := HJ.out.done HLE.out (by rw [HLN.out]; exact hn)
      have HR1 := hide r1
      have HR2 := hide r2
      have HR3 := hide r3
      clear r1 r2 r3 HJ
      go_wp2_with fail
      go_ret2
      exact ⟨A1, c1, B6, d6, rfl, HR1.out, HR2.out, HR3.out⟩
end Go.Proofs.Ytlondjmklnehhaa
