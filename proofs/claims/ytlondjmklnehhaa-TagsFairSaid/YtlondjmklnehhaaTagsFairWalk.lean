/-
  TagsFair: its walk (written by gen25fair.py).
-/
import Derived.Test.YtlondjmklnehhaaTagsFairMath
import Derived.Test.YtlondjmklnehhaaTgAwake
import Derived.Lib.MinMax
import Derived.Deep.QuietTactic
import Derived.BigQuiet
namespace Go.Proofs.Ytlondjmklnehhaa.tagsFair
set_option linter.unusedSimpArgs false
set_option linter.unusedVariables false
open Go.RowKit

/-- Two rows of numbers that grow side by side: the first S ones, and all. -/
structure FrJ (w wr : World) (u v : Value) (C : List Int) (S i : Nat) : Prop where
  fo : wr.ownsRow w.heap.size 3 1 u (min i S) (ncs ((C.take i).take S))
  al : wr.ownsRow w.heap.size 3 1 v i (ncs (C.take i))
  ap : ∀ x, u.ownBlock = some x → v.ownBlock ≠ some x
  bel : Below w.heap.size w wr
theorem take_take_lt {C : List Int} {S i : Nat} {x : Int} (h : C[i]? = some x) (hi : i < S) : (C.take (i + 1)).take S = (C.take i).take S ++ [x] := by
  rw [List.take_take, List.take_take, Nat.min_eq_right (by omega), Nat.min_eq_right (by omega), List.take_add_one, h]; rfl
theorem take_take_ge {C : List Int} {S i : Nat} (hi : S ≤ i) : (C.take (i + 1)).take S = (C.take i).take S := by
  rw [List.take_take, List.take_take, Nat.min_eq_left (by omega), Nat.min_eq_left (by omega)]
theorem take_snoc {C : List Int} {i : Nat} {x : Int} (h : C[i]? = some x) : C.take (i + 1) = C.take i ++ [x] := by rw [List.take_add_one, h]; rfl
theorem new_take {W8 : List Int} {i : Nat} {x : Int} (h : W8[i]? = some x) : newL 0 (W8.take (i + 1)) = newL 0 (W8.take i) ++ [⟨x, 0, 0, 0⟩] := by
  rw [take_snoc h, newL, List.map_append]; rfl
theorem all_wf {l : List Int} (h : ∀ x ∈ l, 1 ≤ x ∧ x ≤ 65536) : AllN l := fun x hx => WalkArith.wf_i64 (by have := h x hx; omega)

set_option maxRecDepth 100000 in
set_option maxHeartbeats 12800000 in
theorem walk (A : Option Addr) (n c : Nat) (zs : List Int) (B : Option Addr) (N d : Nat) (zt : List Int) (s : Int) (w : World) (hz : IsRow .u8 w A n c zs) (ht : IsRow .u16 w B N d zt) (hs : (Lit.int .u8 s).wf = true) :
    Calls Try.prog 5 #[.slice A n c, .slice B N d, .int .u8 s] w fun e w' => e = .returned (.bool true) ∧ Below w.heap.size w w' := by
  have HAW := hide aw_tags
  have hl := nl_of_row hz
  have hc := nl_of_row ht
  clear hz ht
  obtain ⟨wl, hwl⟩ : ∃ q, q = zs.take n := ⟨_, rfl⟩
  obtain ⟨cl, hcl⟩ : ∃ q, q = zt.take N := ⟨_, rfl⟩
  rw [← hwl] at hl
  rw [← hcl] at hc
  clear hwl hcl
  have HMX := hide hl.max
  have HLE := hide hl.le
  have HMC := hide hc.max
  have HLC := hide hc.le
  have HLN := hide hl.len
  have HLM := hide hc.len
  have HL := hide hl
  have HC := hide hc
  clear hl hc
  obtain ⟨S, rfl⟩ : ∃ S : Nat, s = (S : Int) := ⟨s.toNat, by have := bounds_u8 hs; omega⟩
  have hS : (S : Int) ≤ 255 := by have := bounds_u8 hs; omega
  clear hs
  by_cases hn : 8 < (n : Int)
  · have kn : decide (8 < (n : Int)) = true := decide_eq_true hn
    clear hn hS
    go_enter Try.func5, Try.ntmps5
    go_wp2_with fail
    refine (HAW.out _).mono ?_
    rintro e w9 ⟨rfl, hb⟩
    go_wp2_with fail
    go_ret
    exact ⟨rfl, hb⟩
  have kn : decide (8 < (n : Int)) = false := decide_eq_false hn
  by_cases hm : (n : Int) < 2
  · have km : decide ((n : Int) < 2) = true := decide_eq_true hm
    clear hn hm hS
    go_enter Try.func5, Try.ntmps5
    go_wp2_with fail
    refine (HAW.out _).mono ?_
    rintro e w9 ⟨rfl, hb⟩
    go_wp2_with fail
    go_ret
    exact ⟨rfl, hb⟩
  have km : decide ((n : Int) < 2) = false := decide_eq_false hm
  by_cases hN : 80 < (N : Int)
  · have kN : decide (80 < (N : Int)) = true := decide_eq_true hN
    clear hn hm hN hS
    go_enter Try.func5, Try.ntmps5
    go_wp2_with fail
    refine (HAW.out _).mono ?_
    rintro e w9 ⟨rfl, hb⟩
    go_wp2_with fail
    go_ret
    exact ⟨rfl, hb⟩
  have kN : decide (80 < (N : Int)) = false := decide_eq_false hN
  obtain ⟨W8, hW8⟩ : ∃ q, q = wl.map (fun x => 1 + x % 16) := ⟨_, rfl⟩
  obtain ⟨C, hC⟩ : ∃ q, q = cl.map (fun x => 1 + x) := ⟨_, rfl⟩
  have HWN := hide (show W8.length = n by rw [hW8, List.length_map, HLN.out])
  have HCN := hide (show C.length = N by rw [hC, List.length_map, HLM.out])
  have HWT := hide (show ∀ x ∈ W8, WtI x by intro x hx; rw [hW8] at hx; obtain ⟨y, _, rfl⟩ := List.mem_map.1 hx; exact ⟨by omega, by omega⟩)
  have HCT := hide (show ∀ x ∈ C, 1 ≤ x ∧ x ≤ 65536 by intro x hx; rw [hC] at hx; obtain ⟨y, hy, rfl⟩ := List.mem_map.1 hx; obtain ⟨k, hk, rfl⟩ := List.getElem_of_mem hy; obtain ⟨_, _, _, _, _, hwf⟩ := HC.out.at_ k _ (List.getElem?_eq_getElem hk); have := bounds_u16 hwf; omega)
  have HW8 := hide (show ∀ (i : Nat) (x : Int), wl[i]? = some x → W8[i]? = some (1 + x % 16) by intro i x h; subst hW8; simp [h])
  have HC8 := hide (show ∀ (i : Nat) (x : Int), cl[i]? = some x → C[i]? = some (1 + x) by intro i x h; subst hC; simp [h])
  have HN8 := hide (show n ≤ 8 by omega)
  have HN2 := hide (show 0 < n by omega)
  have HN80 := hide (show N ≤ 80 by omega)
  have HS := hide hS
  clear hn hm hN hW8 hC
  go_enter Try.func5, Try.ntmps5
  go_wp2_with fail
  clear kn km kN
  go_loopw [7, 9] (fun s7 s9 wr => ∃ i : Nat, i ≤ n ∧ s9 = .int .i64 (i : Int) ∧ Hid (wr.ownsRow w.heap.size 24 4 s7 i (flc tgF (newL 0 (W8.take i)))) ∧ Hid (Below w.heap.size w wr)) (fun _ s9 _ => n - (intOf s9).toNat)
  case atStart => exact ⟨0, by omega, rfl, World.ownsRow_nil _ _ _ _, Below.refl _ _⟩
  case round =>
    obtain ⟨i, hi, rfl, HO, HB⟩ := hrel
    by_cases h2 : i < n
    · have h2' : (i : Int) < (n : Int) := by omega
      have hn9 : (n : Int) ≤ 8 := by have := HN8.out; omega
      obtain ⟨x, b, off, hx, rfl, hbl, x0, hwf⟩ := (HL.out.keep HB.out).round h2
      have hx0 := bounds_u8 hwf
      have HX := hide (HW8.out i x hx)
      obtain ⟨k, hk⟩ : ∃ k, x % 16 = k := ⟨_, rfl⟩
      have hk0 : 0 ≤ k ∧ k ≤ 15 := by omega
      rw [hk] at HX
      have e1 : x.tmod 16 = k := by rw [Int.tmod_eq_emod_of_nonneg hx0.1, hk]
      have e2 : IntKind.u8.wrap k = k := IntWalk.u8_in _ (by omega)
      have e3 : IntKind.i64.wrap k = k := IntWalk.i64_in _ (by omega)
      have e4 : IntKind.i64.wrap (1 + k) = 1 + k := IntWalk.i64_in _ (by omega)
      have QN := hide (fun w => tg_New (1 + k) w)
      rw [newT_yes (w := 1 + k) ⟨by omega, by omega⟩] at QN
      have HI := hide h2
      clear hx hwf hk hx0 hk0 hi
      go_wp2_with fail
      refine (QN.out _).mono ?_
      rintro e w1 ⟨rfl, hb⟩
      clear x0 e1 e2 e3 e4 QN
      have HO1 := hide (own_low HO.out hb)
      have HB1 := hide (HB.out.trans (hb.mono HB.out.size))
      clear hb HO HB
      obtain ⟨y, hy⟩ : ∃ y : Tg, y = ⟨1 + k, 0, 0, 0⟩ := ⟨_, rfl⟩
      rw [← hy]
      have HY := hide hy
      clear hy
      obtain ⟨gv, hg⟩ : ∃ g, g = w1.heap.size := ⟨_, rfl⟩
      have GV := hide hg.symm
      have NV := hide (show BlkIs (w1.alloc (.cells y.cs 24)) gv 24 y.cs by rw [hg]; exact BlkIs.new w1 _ _)
      have HO2 := hide (HO1.out.alloc (.cells y.cs 24))
      have HB2 := hide (HB1.out.alloc HB1.out.size (.cells y.cs 24))
      clear hg HO1 HB1
      go_upto_region 9 with (first | (refine wpList_store_new rfl 24 (.tmp 10) (.tmp 55) rfl y.cs _ 24 rfl rfl tg_size rfl (Tg.cs_one y) ?_))
      rw [GV.out]
      generalize w1.alloc (.cells y.cs 24) = w2 at *
      go_upto_region 11 with (fail)
      have KX := hide (BlkIs.new w2 24 #[.int .i64 y.w, .int .i64 y.s, .int .i64 y.f, .int .i64 y.k])
      have HO3 := hide (HO2.out.alloc (.cells #[.int .i64 y.w, .int .i64 y.s, .int .i64 y.f, .int .i64 y.k] 24))
      have HB3 := hide (HB2.out.alloc HB2.out.size (.cells #[.int .i64 y.w, .int .i64 y.s, .int .i64 y.f, .int .i64 y.k] 24))
      go_wp2_with (first | (at_builtin; refine wpList_append_sl isTg _ rfl (.tmp 59) (.tmp 61) rfl w.heap.size _ i _ rfl HO3.out (some ⟨w2.heap.size, 0, none⟩) 1 1 [y] rfl (tg_new1 KX.out) (by have := HN8.out; have := HI.out; omega) HB3.out.size ?_; intro A7 c7 w7 ho7 hg7; have HO7 := hide ho7; have HB7 := hide (own_bel HO3.out HB3.out (Nat.le_refl _) (Nat.le_refl _) hg7); clear ho7 hg7) | (refine wpList_load_blk rfl 24 (.tmp 10) rfl gv rfl 24 #[.int .i64 y.w, .int .i64 y.s, .int .i64 y.f, .int .i64 y.k] _ NV.out Try.underlying24 rfl tg_size ?_))
      go_roundw
      case rel => exact ⟨i + 1, HI.out, by go_num, by rw [new_take HX.out, ← HY.out]; exact HO7.out, HB7.out⟩
      case measure => simp [intOf]; omega
    · obtain rfl : i = n := by omega
      have h2' : ¬ (i : Int) < (i : Int) := by omega
      have ho := HO.out
      rw [List.take_of_length_le (by rw [HWN.out]; exact Nat.le_refl _)] at ho
      obtain ⟨A7, c7, rfl, hsl⟩ := own_sl (F := tgF) ho
      have HT := hide hsl
      clear ho hsl HO
      go_wp2_with fail
      have HJ0 := hide (show FrJ wr wr (.slice none 0 0) (.slice none 0 0) C S 0 from ⟨by rw [Nat.zero_min, List.take_zero, List.take_nil]; exact World.ownsRow_nil _ _ _ _, by rw [List.take_zero]; exact World.ownsRow_nil _ _ _ _, (fun x h => by cases h), Below.refl _ _⟩)
      obtain ⟨w3, hw3⟩ : ∃ q, wr = q := ⟨_, rfl⟩
      rw [hw3] at HJ0 HT HB ⊢
      clear hw3
      go_loopw [8, 12, 13, 14] (fun s8 s12 s13 s14 wx => ∃ j : Nat, j ≤ N ∧ s14 = .int .i64 (j : Int) ∧ s8 = .int .i64 (mxQ (C.take j)) ∧ Hid (FrJ w3 wx s12 s13 C S j)) (fun _ _ _ s14 _ => N - (intOf s14).toNat)
      case atStart => exact ⟨0, by omega, rfl, rfl, HJ0.out⟩
      case round =>
        clear HJ0
        obtain ⟨j, hj, rfl, rfl, HJ⟩ := hrel
        by_cases h3 : j < N
        · have h3' : (j : Int) < (N : Int) := by omega
          have hN9 : (N : Int) ≤ 80 := by have := HN80.out; omega
          obtain ⟨x, b, off, hx, rfl, hbl, x0, hwf⟩ := (HC.out.keep (HB.out.trans (HJ.out.bel.mono HB.out.size))).round h3
          have hx0 := bounds_u16 hwf
          have HX := hide (HC8.out j x hx)
          have HJ3 := hide h3
          obtain ⟨v, hv⟩ : ∃ v, 1 + x = v := ⟨_, rfl⟩
          have hv0 : 1 ≤ v ∧ v ≤ 65536 := by omega
          rw [hv] at HX
          have e1 : IntKind.i64.wrap x = x := IntWalk.i64_in _ (by omega)
          have e2 : IntKind.i64.wrap v = v := IntWalk.i64_in _ (by omega)
          have HQ := hide (mxQ_take HX.out)
          obtain ⟨q, hq⟩ : ∃ q, mxQ (C.take j) = q := ⟨_, rfl⟩
          rw [hq] at HQ ⊢
          obtain ⟨q2, hq2⟩ : ∃ q2, max q v = q2 := ⟨_, rfl⟩
          rw [hq2] at HQ
          have e3 : IntKind.i64.wrap (S : Int) = (S : Int) := IntWalk.i64_in _ (by have := HS.out; omega)
          have HF0 := hide HJ.out.fo
          have HA0 := hide HJ.out.al
          have HP0 := hide HJ.out.ap
          have HB0 := hide HJ.out.bel
          clear hx hwf hq hj HJ hx0 hv0
          by_cases h4 : j < S
          · have h4' : (j : Int) < (S : Int) := by omega
            have KX := hide (BlkIs.new wr 3 #[.int .i64 v])
            have HA6 := hide (HF0.out.alloc (.cells #[.int .i64 v] 3))
            have HO6 := hide (HA0.out.alloc (.cells #[.int .i64 v] 3))
            have HB6 := hide (HB0.out.alloc HB0.out.size (.cells #[.int .i64 v] 3))
            go_upto_region 20 with (at_builtin; refine wpList_append_n1 _ rfl (.tmp 82) (.tmp 84) rfl w3.heap.size _ (min j S) _ rfl HA6.out wr.heap.size v rfl KX.out (by have := HJ3.out; have := HN80.out; omega) HB6.out.size ?_; intro g7 c7 w7 ho7 hg7 hl7; have HF7 := hide ho7; have HA7 := hide (own_growS HO6.out hg7 HP0.out); have HB7 := hide (own_bel HA6.out HB6.out (Nat.le_refl _) (Nat.le_refl _) hg7); have HL7 := hide (show u12.ownBlock = some g7 ∨ g7 = (wr.alloc (.cells #[.int .i64 v] 3)).heap.size from hl7); have HLT := hide (fun b h => (HO6.out.lt b h).2); clear ho7 hg7 hl7)
            clear KX HA6 HO6 HB6
            have HNE := hide (show ∀ y, u13.ownBlock = some y → (Value.slice (some ⟨g7, 0, none⟩) (min j S + 1) c7).ownBlock ≠ some y from fun y hy he => by simp only [Value.ownBlock, Option.some.injEq] at he; subst he; rcases HL7.out with h | h; exact HP0.out g7 h hy; have := HLT.out g7 hy; omega)
            have KX := hide (BlkIs.new w7 3 #[.int .i64 v])
            have HA6 := hide (HA7.out.alloc (.cells #[.int .i64 v] 3))
            have HO6 := hide (HF7.out.alloc (.cells #[.int .i64 v] 3))
            have HB6 := hide (HB7.out.alloc HB7.out.size (.cells #[.int .i64 v] 3))
            go_wp2_with (at_builtin; refine wpList_append_n1 _ rfl (.tmp 86) (.tmp 88) rfl w3.heap.size _ j _ rfl HA6.out w7.heap.size v rfl KX.out (by have := HJ3.out; have := HN80.out; omega) HB6.out.size ?_; intro g8 c8 w8 ho7 hg7 hl7; have HA8 := hide ho7; have HF8 := hide (own_growS HO6.out hg7 HNE.out); have HB8 := hide (own_bel HA6.out HB6.out (Nat.le_refl _) (Nat.le_refl _) hg7); have HL8 := hide (show u13.ownBlock = some g8 ∨ g8 = (w7.alloc (.cells #[.int .i64 v] 3)).heap.size from hl7); have HLT8 := hide (fun b h => (HO6.out.lt b h).2); clear ho7 hg7 hl7)
            go_roundw
            case rel =>
              refine ⟨j + 1, HJ3.out, by go_num, by rw [HQ.out], ?_, ?_, ?_, HB8.out⟩
              · rw [take_take_lt HX.out h4, show min (j + 1) S = min j S + 1 by omega]; exact HF8.out
              · rw [take_snoc HX.out]; exact HA8.out
              · intro y hy he
                simp only [Value.ownBlock, Option.some.injEq] at hy he
                subst hy
                rcases HL8.out with h | h
                · exact HNE.out g7 (by rw [h, he]) rfl
                · have := HLT8.out g7 rfl
                  omega
            case measure => simp [intOf]; omega
          · have h4' : ¬ (j : Int) < (S : Int) := by omega
            have HNE := hide (show ∀ y, u13.ownBlock = some y → u12.ownBlock ≠ some y from fun y hy he => HP0.out y he hy)
            go_upto_region 20 with (fail)
            have KX := hide (BlkIs.new wr 3 #[.int .i64 v])
            have HA6 := hide (HA0.out.alloc (.cells #[.int .i64 v] 3))
            have HO6 := hide (HF0.out.alloc (.cells #[.int .i64 v] 3))
            have HB6 := hide (HB0.out.alloc HB0.out.size (.cells #[.int .i64 v] 3))
            go_wp2_with (at_builtin; refine wpList_append_n1 _ rfl (.tmp 86) (.tmp 88) rfl w3.heap.size _ j _ rfl HA6.out wr.heap.size v rfl KX.out (by have := HJ3.out; have := HN80.out; omega) HB6.out.size ?_; intro g8 c8 w8 ho7 hg7 hl7; have HA8 := hide ho7; have HF8 := hide (own_growS HO6.out hg7 HNE.out); have HB8 := hide (own_bel HA6.out HB6.out (Nat.le_refl _) (Nat.le_refl _) hg7); have HL8 := hide (show u13.ownBlock = some g8 ∨ g8 = (wr.alloc (.cells #[.int .i64 v] 3)).heap.size from hl7); have HLT8 := hide (fun b h => (HO6.out.lt b h).2); clear ho7 hg7 hl7)
            go_roundw
            case rel =>
              refine ⟨j + 1, HJ3.out, by go_num, by rw [HQ.out], ?_, ?_, ?_, HB8.out⟩
              · rw [take_take_ge (by omega), show min (j + 1) S = min j S by omega]; exact HF8.out
              · rw [take_snoc HX.out]; exact HA8.out
              · intro y hy he
                simp only [Value.ownBlock, Option.some.injEq] at he
                subst he
                rcases HL8.out with h | h
                · exact HP0.out g8 hy h
                · have := HLT8.out g8 hy
                  omega
            case measure => simp [intOf]; omega
        · obtain rfl : j = N := by omega
          have h3' : ¬ (j : Int) < (j : Int) := by omega
          have hfo := HJ.out.fo
          have hal := HJ.out.al
          have hqe : C.take j = C := List.take_of_length_le (by rw [HCN.out]; exact Nat.le_refl _)
          rw [hqe] at hfo hal
          obtain ⟨B1, d1, rfl⟩ := own_slice hfo
          obtain ⟨B2, d2, rfl⟩ := own_slice hal
          have HN1 := hide (nl_own hfo (all_wf (fun x hx => HCT.out x (List.mem_of_mem_take hx))))
          have HN3 := hide (nl_own hal (all_wf HCT.out))
          have HTX := hide (HT.out.keep HJ.out.bel)
          have HBX := hide (HB.out.trans (HJ.out.bel.mono HB.out.size))
          have FF := hide (fair_all (ws := W8) (C := C) HWT.out (by rw [HWN.out]; exact HN2.out) HCT.out (by rw [HCN.out]; exact HN80.out) S)
          rw [HWN.out] at FF
          have HQL := hide (mxQ_low C)
          have HQH := hide (mxQ_le (l := C) (B := 65536) (by omega) (fun x hx => (HCT.out x hx).2))
          rw [hqe]
          obtain ⟨Q, hQ⟩ : ∃ q, mxQ C = q := ⟨_, rfl⟩
          rw [hQ] at FF HQL HQH ⊢
          clear hfo hal HJ HT HB hqe hQ
          go_wp2_with fail
          refine (tg_Run A7 i c7 _ B1 (min j S) d1 _ _ HTX.out HN1.out (by have := HN8.out; omega) (by have := HN80.out; omega)).mono ?_
          rintro e w4 ⟨A8, c8, B8, d8, rfl, hs, hm, hb⟩
          have HW1 := hide hs
          have HTY := hide (HTX.out.keep hb)
          have HN4 := hide (HN3.out.keep hb)
          have HBY := hide (HBX.out.trans (hb.mono HBX.out.size))
          clear hs hm hb HTX HN1 HN3 HBX
          go_wp2_with fail
          refine (tg_Run A7 i c7 _ B2 j d2 _ _ HTY.out HN4.out (by have := HN8.out; omega) (by have := HN80.out; omega)).mono ?_
          rintro e w5 ⟨A9, c9, B9, d9, rfl, hs, hm, hb⟩
          have HW2 := hide (HW1.out.keep hb)
          have HW3 := hide hs
          have HBZ := hide (HBY.out.trans (hb.mono HBY.out.size))
          clear hs hm hb HTY HN4 HBY HW1
          obtain ⟨l1, hl1⟩ : ∃ q, q = (runT (newL 0 W8) (C.take S)).1 := ⟨_, rfl⟩
          obtain ⟨l2, hl2⟩ : ∃ q, q = (runT (newL 0 W8) C).1 := ⟨_, rfl⟩
          rw [← hl1] at HW2 FF
          rw [← hl2] at HW3 FF
          clear hl1 hl2
          go_wp2_with fail
          go_loopw [20] (fun s20 wy => ∃ a : Nat, a ≤ i ∧ s20 = .int .i64 (a : Int) ∧ Hid (Below w5.heap.size w5 wy)) (fun s20 _ => i - (intOf s20).toNat)
          case atStart => exact ⟨0, by omega, rfl, Below.refl _ _⟩
          case round =>
            obtain ⟨a, ha, rfl, HV⟩ := hrel
            have hi9 : (i : Int) ≤ 8 := by have := HN8.out; omega
            by_cases h5 : a < i
            · have h5' : (a : Int) < (i : Int) := by omega
              go_wp2_with fail
              go_loopw [21] (fun s21 wz => ∃ b : Nat, b ≤ a ∧ s21 = .int .i64 (b : Int) ∧ Hid (Below w5.heap.size w5 wz)) (fun s21 _ => a - (intOf s21).toNat)
              case atStart => exact ⟨0, by omega, rfl, HV.out⟩
              case round =>
                clear HV
                obtain ⟨b, hb, rfl, HV⟩ := hrel
                by_cases h6 : b < a
                · have h6' : (b : Int) < (a : Int) := by omega
                  have h7 : b < i := by omega
                  have h7' : (b : Int) < (i : Int) := by omega
                  obtain ⟨x, bx, ox, hx, hA9, hbl, x0, x1, x2, x3⟩ := tg_round (HW3.out.keep HV.out) h5
                  obtain ⟨y, by_, oy, hy, hA, _, y0, y1, y2, y3⟩ := tg_round (HW3.out.keep HV.out) h7
                  rw [hA9] at hA
                  obtain ⟨rfl, rfl⟩ : bx = by_ ∧ ox = oy := by injection hA with e; injection e with e1 e2; exact ⟨e1, e2⟩
                  clear hA
                  subst hA9
                  obtain ⟨p, bp, op, hp, hA8, hbp, p0, p1, p2, p3⟩ := tg_round (HW2.out.keep HV.out) h5
                  obtain ⟨r, br, or_, hr, hA, _, r0, r1, r2, r3⟩ := tg_round (HW2.out.keep HV.out) h7
                  rw [hA8] at hA
                  obtain ⟨rfl, rfl⟩ : bp = br ∧ op = or_ := by injection hA with e; injection e with e1 e2; exact ⟨e1, e2⟩
                  clear hA p0 p1 p2 r0 r1 r2
                  subst hA8
                  have HNR := hide (FF.out.near a b h5 h7)
                  have HC1 := hide (FF.out.cok a h5)
                  have HC2 := hide (FF.out.cok b h7)
                  have HST := hide (And.intro (FF.out.st a h5) (FF.out.st b h7))
                  have HAP := hide (FF.out.ap a b h5 h7)
                  rw [hx, hy, hp, hr] at HNR
                  rw [hx] at HC1 HST HAP
                  rw [hy] at HC2 HST HAP
                  clear hx hy hp hr ha hb
                  obtain ⟨x0_, x1_, x2_, x3_⟩ := x
                  obtain ⟨y0_, y1_, y2_, y3_⟩ := y
                  obtain ⟨p0_, p1_, p2_, p3_⟩ := p
                  obtain ⟨r0_, r1_, r2_, r3_⟩ := r
                  simp only at x0 x1 x2 x3 y0 y1 y2 y3 p3 r3 HNR HC1 HC2 HST HAP
                  obtain ⟨cx, hcx⟩ : ∃ q, chg Q x0_ = q := ⟨_, rfl⟩
                  obtain ⟨cy, hcy⟩ : ∃ q, chg Q y0_ = q := ⟨_, rfl⟩
                  rw [hcx] at HC1 HAP
                  rw [hcy] at HC2 HAP
                  clear hcx hcy
                  have QC1 := hide (fun w => tg_Charge Q x0_ w)
                  have QC2 := hide (fun w => tg_Charge Q y0_ w)
                  rw [HC1.out] at QC1
                  rw [HC2.out] at QC2
                  have QN := hide (fun w => tg_Near ⟨x0_, x1_, x2_, x3_⟩ ⟨y0_, y1_, y2_, y3_⟩ p3_ r3_ Q w)
                  rw [HNR.out] at QN
                  simp only [Tg.cs] at QN
                  clear HC1 HC2 HNR
                  go_wp2_with fail
                  refine (QC1.out _).mono ?_
                  rintro e wq ⟨rfl, rfl⟩
                  go_wp2_with fail
                  refine (QC2.out _).mono ?_
                  rintro e wq ⟨rfl, rfl⟩
                  go_upto_region 33 with (fail)
                  have X0 := hide x0
                  have X1 := hide x1
                  have X2 := hide x2
                  have X3 := hide x3
                  have Y0 := hide y0
                  have Y1 := hide y1
                  have Y2 := hide y2
                  have Y3 := hide y3
                  have P3 := hide p3
                  have R3 := hide r3
                  have HBLX := hide hbl
                  have HBLP := hide hbp
                  clear x0 x1 x2 x3 y0 y1 y2 y3 p3 r3
                  refine wp_region_noPanic ?_
                  refine wp_region_mask (S := fun w' => Below wr.heap.size wr w') (by kernel_rfl) (Below.refl _ _).drew (fun hS => ?_)
                  generalize wr.drew = wd at hS ⊢
                  refine wpAnyH_mask (i := 0) (m' := 1) (v := ?_) (by simp only [List.getElem?_toArray, List.getElem?_cons_succ, List.getElem?_cons_zero] <;> exact rfl) (by kernel_rfl) (by kernel_rfl) (by kernel_rfl) (fun _ _ _ h => h) (Or.inl ⟨by rfl, ?_⟩) hS ?_
                  rotate_left
                  focus (intro w' hw'; go_simp; all_goals with_reducible rfl)
                  try simp only [Act.put, List.setIfInBounds_toArray, List.set_cons_zero, List.set_cons_succ]
                  refine wpAnyH_mask (i := 1) (m' := 3) (v := ?_) (by simp only [List.getElem?_toArray, List.getElem?_cons_succ, List.getElem?_cons_zero] <;> exact rfl) (by kernel_rfl) (by kernel_rfl) (by kernel_rfl) (fun _ _ _ h => h) (Or.inl ⟨by rfl, ?_⟩) hS ?_
                  rotate_left
                  focus (intro w' hw'; go_simp; all_goals with_reducible rfl)
                  try simp only [Act.put, List.setIfInBounds_toArray, List.set_cons_zero, List.set_cons_succ]
                  refine wpAnyH_mask (i := 2) (m' := 7) (v := ?_) (by simp only [List.getElem?_toArray, List.getElem?_cons_succ, List.getElem?_cons_zero] <;> exact rfl) (by kernel_rfl) (by kernel_rfl) (by kernel_rfl) (fun _ _ _ h => h) (Or.inl ⟨by rfl, ?_⟩) hS ?_
                  rotate_left
                  focus (intro w' hw'; go_simp; all_goals with_reducible rfl)
                  try simp only [Act.put, List.setIfInBounds_toArray, List.set_cons_zero, List.set_cons_succ]
                  refine wpAnyH_mask (i := 3) (m' := 15) (v := ?_) (by simp only [List.getElem?_toArray, List.getElem?_cons_succ, List.getElem?_cons_zero] <;> exact rfl) (by kernel_rfl) (by kernel_rfl) (by kernel_rfl) (fun _ _ _ h => h) (Or.inl ⟨by rfl, ?_⟩) hS ?_
                  rotate_left
                  focus (intro w' hw'; go_simp; all_goals with_reducible rfl)
                  try simp only [Act.put, List.setIfInBounds_toArray, List.set_cons_zero, List.set_cons_succ]
                  refine wpAnyH_mask (i := 4) (m' := 31) (v := ?_) (by simp only [List.getElem?_toArray, List.getElem?_cons_succ, List.getElem?_cons_zero] <;> exact rfl) (by kernel_rfl) (by kernel_rfl) (by kernel_rfl) (fun _ _ _ h => h) (Or.inl ⟨by rfl, ?_⟩) hS ?_
                  rotate_left
                  focus (intro w' hw'; go_simp; all_goals with_reducible rfl)
                  try simp only [Act.put, List.setIfInBounds_toArray, List.set_cons_zero, List.set_cons_succ]
                  refine wpAnyH_mask (i := 5) (m' := 63) (v := ?_) (by simp only [List.getElem?_toArray, List.getElem?_cons_succ, List.getElem?_cons_zero] <;> exact rfl) (by kernel_rfl) (by kernel_rfl) (by kernel_rfl) (fun _ _ _ h => h) (Or.inl ⟨by rfl, ?_⟩) hS ?_
                  rotate_left
                  focus (intro w' hw'; go_simp; all_goals with_reducible rfl)
                  try simp only [Act.put, List.setIfInBounds_toArray, List.set_cons_zero, List.set_cons_succ]
                  refine wpAnyH_mask (i := 6) (m' := 127) (v := ?_) (by simp only [List.getElem?_toArray, List.getElem?_cons_succ, List.getElem?_cons_zero] <;> exact rfl) (by kernel_rfl) (by kernel_rfl) (by kernel_rfl) (fun _ _ _ h => h) (Or.inl ⟨by rfl, ?_⟩) hS ?_
                  rotate_left
                  focus (intro w' hw'; go_simp; all_goals with_reducible rfl)
                  try simp only [Act.put, List.setIfInBounds_toArray, List.set_cons_zero, List.set_cons_succ]
                  refine wpAnyH_mask (i := 7) (m' := 255) (v := ?_) (by simp only [List.getElem?_toArray, List.getElem?_cons_succ, List.getElem?_cons_zero] <;> exact rfl) (by kernel_rfl) (by kernel_rfl) (by kernel_rfl) (fun _ _ _ h => h) (Or.inl ⟨by rfl, ?_⟩) hS ?_
                  rotate_left
                  focus (intro w' hw'; go_simp; all_goals with_reducible rfl)
                  try simp only [Act.put, List.setIfInBounds_toArray, List.set_cons_zero, List.set_cons_succ]
                  refine wpAnyH_mask (i := 8) (m' := 511) (v := ?_) (by simp only [List.getElem?_toArray, List.getElem?_cons_succ, List.getElem?_cons_zero] <;> exact rfl) (by kernel_rfl) (by kernel_rfl) (by kernel_rfl) (fun _ _ _ h => h) (Or.inl ⟨by rfl, ?_⟩) hS ?_
                  rotate_left
                  focus (intro w' hw'; go_simp; all_goals with_reducible rfl)
                  try simp only [Act.put, List.setIfInBounds_toArray, List.set_cons_zero, List.set_cons_succ]
                  refine wpAnyH_mask (i := 9) (m' := 1023) (v := ?_) (by simp only [List.getElem?_toArray, List.getElem?_cons_succ, List.getElem?_cons_zero] <;> exact rfl) (by kernel_rfl) (by kernel_rfl) (by kernel_rfl) (fun _ _ _ h => h) (Or.inl ⟨by rfl, ?_⟩) hS ?_
                  rotate_left
                  focus (intro w' hw'; go_simp; all_goals with_reducible rfl)
                  try simp only [Act.put, List.setIfInBounds_toArray, List.set_cons_zero, List.set_cons_succ]
                  refine wpAnyH_mask (i := 10) (m' := 2047) (v := .agg #[.int .i64 x0_, .int .i64 x1_, .int .i64 x2_, .int .i64 x3_]) (by simp only [List.getElem?_toArray, List.getElem?_cons_succ, List.getElem?_cons_zero] <;> exact rfl) (by kernel_rfl) (by kernel_rfl) (by kernel_rfl) (fun _ _ _ h => h) (Or.inl ⟨by rfl, ?_⟩) hS ?_
                  focus (intro w' hw'; have k0 := (hw'.cell (p := ⟨bx, _, none⟩) HBLX.out).trans X0.out; have k1 := (hw'.cell (p := ⟨bx, _, none⟩) HBLX.out).trans X1.out; have k2 := (hw'.cell (p := ⟨bx, _, none⟩) HBLX.out).trans X2.out; have k3 := (hw'.cell (p := ⟨bx, _, none⟩) HBLX.out).trans X3.out; go_simp)
                  try simp only [Act.put, List.setIfInBounds_toArray, List.set_cons_zero, List.set_cons_succ]
                  refine wpAnyH_mask (i := 11) (m' := 4095) (v := ?_) (by simp only [List.getElem?_toArray, List.getElem?_cons_succ, List.getElem?_cons_zero] <;> exact rfl) (by kernel_rfl) (by kernel_rfl) (by kernel_rfl) (fun _ _ _ h => h) (Or.inl ⟨by rfl, ?_⟩) hS ?_
                  rotate_left
                  focus (intro w' hw'; go_simp; all_goals with_reducible rfl)
                  try simp only [Act.put, List.setIfInBounds_toArray, List.set_cons_zero, List.set_cons_succ]
                  refine wpAnyH_mask (i := 12) (m' := 8191) (v := ?_) (by simp only [List.getElem?_toArray, List.getElem?_cons_succ, List.getElem?_cons_zero] <;> exact rfl) (by kernel_rfl) (by kernel_rfl) (by kernel_rfl) (fun _ _ _ h => h) (Or.inl ⟨by rfl, ?_⟩) hS ?_
                  rotate_left
                  focus (intro w' hw'; go_simp; all_goals with_reducible rfl)
                  try simp only [Act.put, List.setIfInBounds_toArray, List.set_cons_zero, List.set_cons_succ]
                  refine wpAnyH_mask (i := 13) (m' := 16383) (v := ?_) (by simp only [List.getElem?_toArray, List.getElem?_cons_succ, List.getElem?_cons_zero] <;> exact rfl) (by kernel_rfl) (by kernel_rfl) (by kernel_rfl) (fun _ _ _ h => h) (Or.inl ⟨by rfl, ?_⟩) hS ?_
                  rotate_left
                  focus (intro w' hw'; go_simp; all_goals with_reducible rfl)
                  try simp only [Act.put, List.setIfInBounds_toArray, List.set_cons_zero, List.set_cons_succ]
                  refine wpAnyH_mask (i := 14) (m' := 32767) (v := .agg #[.int .i64 y0_, .int .i64 y1_, .int .i64 y2_, .int .i64 y3_]) (by simp only [List.getElem?_toArray, List.getElem?_cons_succ, List.getElem?_cons_zero] <;> exact rfl) (by kernel_rfl) (by kernel_rfl) (by kernel_rfl) (fun _ _ _ h => h) (Or.inl ⟨by rfl, ?_⟩) hS ?_
                  focus (intro w' hw'; have k0 := (hw'.cell (p := ⟨bx, _, none⟩) HBLX.out).trans Y0.out; have k1 := (hw'.cell (p := ⟨bx, _, none⟩) HBLX.out).trans Y1.out; have k2 := (hw'.cell (p := ⟨bx, _, none⟩) HBLX.out).trans Y2.out; have k3 := (hw'.cell (p := ⟨bx, _, none⟩) HBLX.out).trans Y3.out; go_simp)
                  try simp only [Act.put, List.setIfInBounds_toArray, List.set_cons_zero, List.set_cons_succ]
                  refine wpAnyH_mask (i := 15) (m' := 65535) (v := ?_) (by simp only [List.getElem?_toArray, List.getElem?_cons_succ, List.getElem?_cons_zero] <;> exact rfl) (by kernel_rfl) (by kernel_rfl) (by kernel_rfl) (fun _ _ _ h => h) (Or.inl ⟨by rfl, ?_⟩) hS ?_
                  rotate_left
                  focus (intro w' hw'; go_simp; all_goals with_reducible rfl)
                  try simp only [Act.put, List.setIfInBounds_toArray, List.set_cons_zero, List.set_cons_succ]
                  refine wpAnyH_mask (i := 16) (m' := 131071) (v := ?_) (by simp only [List.getElem?_toArray, List.getElem?_cons_succ, List.getElem?_cons_zero] <;> exact rfl) (by kernel_rfl) (by kernel_rfl) (by kernel_rfl) (fun _ _ _ h => h) (Or.inl ⟨by rfl, ?_⟩) hS ?_
                  rotate_left
                  focus (intro w' hw'; go_simp; all_goals with_reducible rfl)
                  try simp only [Act.put, List.setIfInBounds_toArray, List.set_cons_zero, List.set_cons_succ]
                  refine wpAnyH_mask (i := 17) (m' := 262143) (v := ?_) (by simp only [List.getElem?_toArray, List.getElem?_cons_succ, List.getElem?_cons_zero] <;> exact rfl) (by kernel_rfl) (by kernel_rfl) (by kernel_rfl) (fun _ _ _ h => h) (Or.inl ⟨by rfl, ?_⟩) hS ?_
                  rotate_left
                  focus (intro w' hw'; go_simp; all_goals with_reducible rfl)
                  try simp only [Act.put, List.setIfInBounds_toArray, List.set_cons_zero, List.set_cons_succ]
                  refine wpAnyH_mask (i := 18) (m' := 524287) (v := ?_) (by simp only [List.getElem?_toArray, List.getElem?_cons_succ, List.getElem?_cons_zero] <;> exact rfl) (by kernel_rfl) (by kernel_rfl) (by kernel_rfl) (fun _ _ _ h => h) (Or.inl ⟨by rfl, ?_⟩) hS ?_
                  rotate_left
                  focus (intro w' hw'; go_simp; all_goals with_reducible rfl)
                  try simp only [Act.put, List.setIfInBounds_toArray, List.set_cons_zero, List.set_cons_succ]
                  refine wpAnyH_mask (i := 19) (m' := 1048575) (v := ?_) (by simp only [List.getElem?_toArray, List.getElem?_cons_succ, List.getElem?_cons_zero] <;> exact rfl) (by kernel_rfl) (by kernel_rfl) (by kernel_rfl) (fun _ _ _ h => h) (Or.inl ⟨by rfl, ?_⟩) hS ?_
                  rotate_left
                  focus (intro w' hw'; have kk := (hw'.cell (p := ⟨bp, _, none⟩) HBLP.out).trans P3.out; go_simp; all_goals with_reducible rfl)
                  try simp only [Act.put, List.setIfInBounds_toArray, List.set_cons_zero, List.set_cons_succ]
                  refine wpAnyH_mask (i := 20) (m' := 2097151) (v := ?_) (by simp only [List.getElem?_toArray, List.getElem?_cons_succ, List.getElem?_cons_zero] <;> exact rfl) (by kernel_rfl) (by kernel_rfl) (by kernel_rfl) (fun _ _ _ h => h) (Or.inl ⟨by rfl, ?_⟩) hS ?_
                  rotate_left
                  focus (intro w' hw'; go_simp; all_goals with_reducible rfl)
                  try simp only [Act.put, List.setIfInBounds_toArray, List.set_cons_zero, List.set_cons_succ]
                  refine wpAnyH_mask (i := 21) (m' := 4194303) (v := ?_) (by simp only [List.getElem?_toArray, List.getElem?_cons_succ, List.getElem?_cons_zero] <;> exact rfl) (by kernel_rfl) (by kernel_rfl) (by kernel_rfl) (fun _ _ _ h => h) (Or.inl ⟨by rfl, ?_⟩) hS ?_
                  rotate_left
                  focus (intro w' hw'; go_simp; all_goals with_reducible rfl)
                  try simp only [Act.put, List.setIfInBounds_toArray, List.set_cons_zero, List.set_cons_succ]
                  refine wpAnyH_mask (i := 22) (m' := 8388607) (v := ?_) (by simp only [List.getElem?_toArray, List.getElem?_cons_succ, List.getElem?_cons_zero] <;> exact rfl) (by kernel_rfl) (by kernel_rfl) (by kernel_rfl) (fun _ _ _ h => h) (Or.inl ⟨by rfl, ?_⟩) hS ?_
                  rotate_left
                  focus (intro w' hw'; go_simp; all_goals with_reducible rfl)
                  try simp only [Act.put, List.setIfInBounds_toArray, List.set_cons_zero, List.set_cons_succ]
                  refine wpAnyH_mask (i := 23) (m' := 16777215) (v := ?_) (by simp only [List.getElem?_toArray, List.getElem?_cons_succ, List.getElem?_cons_zero] <;> exact rfl) (by kernel_rfl) (by kernel_rfl) (by kernel_rfl) (fun _ _ _ h => h) (Or.inl ⟨by rfl, ?_⟩) hS ?_
                  rotate_left
                  focus (intro w' hw'; go_simp; all_goals with_reducible rfl)
                  try simp only [Act.put, List.setIfInBounds_toArray, List.set_cons_zero, List.set_cons_succ]
                  refine wpAnyH_mask (i := 24) (m' := 33554431) (v := ?_) (by simp only [List.getElem?_toArray, List.getElem?_cons_succ, List.getElem?_cons_zero] <;> exact rfl) (by kernel_rfl) (by kernel_rfl) (by kernel_rfl) (fun _ _ _ h => h) (Or.inl ⟨by rfl, ?_⟩) hS ?_
                  rotate_left
                  focus (intro w' hw'; have kk := (hw'.cell (p := ⟨bp, _, none⟩) HBLP.out).trans R3.out; go_simp; all_goals with_reducible rfl)
                  try simp only [Act.put, List.setIfInBounds_toArray, List.set_cons_zero, List.set_cons_succ]
                  refine wpAnyH_mask (i := 25) (m' := 67108863) (v := .agg #[.int .i64 p3_, .int .i64 r3_]) (by simp only [List.getElem?_toArray, List.getElem?_cons_succ, List.getElem?_cons_zero] <;> exact rfl) (by kernel_rfl) (by kernel_rfl) (by kernel_rfl) (fun _ _ _ h => h) (Or.inl ⟨by rfl, ?_⟩) hS ?_
                  focus (intro w' hw'; go_simp)
                  try simp only [Act.put, List.setIfInBounds_toArray, List.set_cons_zero, List.set_cons_succ]
                  refine wpAnyH_mask (i := 26) (m' := 134217727) (v := ?_) (by simp only [List.getElem?_toArray, List.getElem?_cons_succ, List.getElem?_cons_zero] <;> exact rfl) (by kernel_rfl) (by kernel_rfl) (by kernel_rfl) (fun _ _ _ h => h) (Or.inl ⟨by rfl, ?_⟩) hS ?_
                  rotate_left
                  focus (intro w' hw'; go_simp; all_goals with_reducible rfl)
                  try simp only [Act.put, List.setIfInBounds_toArray, List.set_cons_zero, List.set_cons_succ]
                  refine wpAnyH_ready (rs := [27]) (ready_mask (by kernel_rfl)) (by simp) ?_
                  refine AllReadyH.cons (o := _) (by simp only [List.getElem?_toArray, List.getElem?_cons_succ, List.getElem?_cons_zero] <;> exact rfl) (fun K hK => ?_) ?_
                  focus (
                    go_simp
                    go_at_call 26
                    refine (QN.out _).mono ?_
                    rintro e wc1 ⟨rfl, hb⟩
                    have hS := hS.trans (hb.mono hS.size)
                    clear hb
                    go_wp2_with fail
                    refine hK.out _ _ hS (fun _ => ?_)
                    clear hK K
                    try simp only [Act.put, List.setIfInBounds_toArray, List.set_cons_zero, List.set_cons_succ]
                    refine wpAnyH_marked (m' := 268435455) (of_decide_eq_true (by kernel_rfl)) (by kernel_rfl) ?_
                    refine wpAnyH_mask (i := 28) (m' := 536870911) (v := ?_) (by simp only [List.getElem?_toArray, List.getElem?_cons_succ, List.getElem?_cons_zero] <;> exact rfl) (by kernel_rfl) (by kernel_rfl) (by kernel_rfl) (fun _ _ _ h => h) (Or.inl ⟨by rfl, ?_⟩) hS ?_
                    rotate_left
                    focus (intro w' hw'; go_simp; all_goals with_reducible rfl)
                    try simp only [Act.put, List.setIfInBounds_toArray, List.set_cons_zero, List.set_cons_succ]
                    refine wpAnyH_mask (i := 29) (m' := 1073741823) (v := ?_) (by simp only [List.getElem?_toArray, List.getElem?_cons_succ, List.getElem?_cons_zero] <;> exact rfl) (by kernel_rfl) (by kernel_rfl) (by kernel_rfl) (fun _ _ _ h => h) (Or.inl ⟨by rfl, ?_⟩) hS ?_
                    rotate_left
                    focus (intro w' hw'; go_simp; all_goals with_reducible rfl)
                    try simp only [Act.put, List.setIfInBounds_toArray, List.set_cons_zero, List.set_cons_succ]
                    refine wpAnyH_done (ready_mask (by kernel_rfl)) ?_ _
                    refine NoPanic.normal ?_
                    have HV2 := hide (HV.out.trans (hS.mono HV.out.size))
                    have x1 := (hS.cell (p := ⟨bx, ox + a * 4 + 1, none⟩) HBLX.out).trans X1.out
                    have y1 := (hS.cell (p := ⟨bx, ox + b * 4 + 1, none⟩) HBLX.out).trans Y1.out
                    clear hS HV QN QC1 QC2
                    obtain ⟨⟨s0, s1⟩, ⟨t0, t1⟩⟩ := HST.out
                    obtain ⟨ap1, ap2⟩ := HAP.out
                    have e1 : IntKind.i64.wrap (x1_ - y1_) = x1_ - y1_ := IntWalk.i64_in _ (by omega)
                    have e2 : IntKind.i64.wrap (y1_ - x1_) = y1_ - x1_ := IntWalk.i64_in _ (by omega)
                    obtain ⟨mx, hmx⟩ : ∃ q, max cx cy = q := ⟨_, rfl⟩
                    rw [hmx] at ap1 ap2
                    have k1 : decide (mx < x1_ - y1_) = false := decide_eq_false (by omega)
                    have k2 : decide (mx < y1_ - x1_) = false := decide_eq_false (by omega)
                    clear s0 s1 t0 t1 ap1 ap2 HST HAP
                    go_upto_region 35 with (fail)
                    go_quiet (fail)
                    clear x1 y1 e1 e2 hmx k1 k2
                    go_wp2_with fail
                    go_roundw
                    case rel => exact ⟨b + 1, by omega, by go_num, below_drewN HV2.out _⟩
                    case measure => simp [intOf]; omega)
                  exact AllReadyH.nil
                · obtain rfl : b = a := by omega
                  have h6' : ¬ (b : Int) < (b : Int) := by omega
                  go_wp2_with fail
                  go_roundw
                  case rel => exact ⟨b + 1, h5, by go_num, HV.out⟩
                  case measure => simp [intOf]; omega
            · obtain rfl : a = i := by omega
              have h5' : ¬ (a : Int) < (a : Int) := by omega
              have HB5 := hide (HBZ.out.trans (HV.out.mono HBZ.out.size))
              clear HV HW2 HW3
              go_wp2_with fail
              refine (HAW.out _).mono ?_
              rintro e w9 ⟨rfl, hb⟩
              have HB9 := hide (HB5.out.trans (hb.mono HB5.out.size))
              clear hb
              go_wp2_with fail
              go_ret
              exact ⟨rfl, HB9.out⟩
end Go.Proofs.Ytlondjmklnehhaa.tagsFair
