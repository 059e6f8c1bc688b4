/-
  Layer 24: the document's Sorted.
-/
import Derived.Test.YtofnpmmbfcnlgaaHpLaw
import Derived.Test.YtofnpmmbfcnlgaaRhLess
import Derived.BigGuardPart
import Derived.Deep.RegionHeld3
import Derived.Deep.CutRange
import Derived.Deep.DeepCutAuto
namespace Go.Proofs.Ytofnpmmbfcnlgaa
set_option linter.unusedSimpArgs false
set_option linter.unusedVariables false
open Go.RowKit

/-- append in a drawn region: how many there are then is said beside. -/
theorem step_append_to {T E : TypeId} (hI : IsIt T E) (w : World) {ops : Array Oper} {o : Oper} {a : Act} {K : Act → World → Prop} {Q : Exit → Act → World → Prop} {F : Prop} (hgd : o.guard = none) (s x : Operand)
    (ho : o.op = .call { callee := .builtin .append, args := #[s, x], argTypes := #[T, T] })
    (base : Nat) (v : Value) (n : Nat) (xs : List It) (hs : a.eval s = v) (hown : w.ownsRow base E 2 v n (ics xs))
    (A : Option Addr) (m c : Nat) (ys : List It) (hx : a.eval x = .slice A m c) (hr : IL w A m c ys) (h63 : n + m ≤ 1000000) (hbase : base ≤ w.heap.size) (N : Nat) (hN : n + m = N) (zs : List It) (hz : xs ++ ys = zs)
    (h : ∀ A' c' w', w'.ownsRow base E 2 (.slice A' N c') N (ics zs) → w.grownBy w' v.ownBlock → K (a.put o.dst (.slice A' N c')) w') : if Region.wanted o (yielded ops a.tmps) = true then Oper.wp Try.prog o a w K Q else F := by
  subst hN hz
  exact step_append_il hI w hgd s x ho base v n xs hs hown A m c ys hx hr h63 hbase h
theorem held2 {wk w' : World} {b o : Nat} {u v : Value} (hb : Below wk.heap.size wk w') (hlt : b < wk.heap.size) (c0 : wk.cell? ⟨b, o, none⟩ = some u) (c1 : wk.cell? ⟨b, o + 1, none⟩ = some v) : w'.cell? ⟨b, o, none⟩ = some u ∧ w'.cell? ⟨b, o + 1, none⟩ = some v :=
  ⟨(hb.cell (p := ⟨b, _, none⟩) hlt).trans c0, (hb.cell (p := ⟨b, _, none⟩) hlt).trans c1⟩
theorem ins_zero (l : List It) (x : It) : insK l x 0 = 0 := rfl
theorem ins_down {l : List It} {x : It} {k : Nat} (h : ltB x (gt l k) = true) : insK l x (k + 1) = insK l x k := by rw [insK, if_pos h]
theorem ins_stop {l : List It} {x : It} {k : Nat} (h : ltB x (gt l k) = false) : insK l x (k + 1) = k + 1 := by rw [insK, if_neg (by rw [h]; simp)]
theorem fold_next {l : List It} {i : Nat} {x : It} (h : l[i]? = some x) : (l.take (i + 1)).foldl insL [] = insL ((l.take i).foldl insL []) x := by
  rw [List.take_add_one, h]
  simp
set_option maxRecDepth 100000 in
set_option maxHeartbeats 3200000 in
theorem rh_Sorted (A : Option Addr) (n c : Nat) (l : List It) (w : World) (hl : IL w A n c l) (hn : (n : Int) ≤ 1000) :
    Calls Try.prog 12 #[.slice A n c] w (GivesIt 24 (sortR l) w) := by
  have HL := hide hl
  have hln := hl.len
  subst hln
  have HN := hide hn
  clear hl
  go_enter Try.func12, Try.ntmps12
  go_wp2_with fail
  go_loopw [3, 4] (fun s3 s4 wr => ∃ (i : Nat) (A3 : Option Addr) (c3 : Nat), i ≤ l.length ∧ s4 = .int .i64 (i : Int) ∧ s3 = .slice A3 i c3 ∧ Hid (wr.ownsRow w.heap.size 24 2 (.slice A3 i c3) i (ics ((l.take i).foldl insL []))) ∧ Hid (Below w.heap.size w wr)) (fun _ s4 _ => l.length - (intOf s4).toNat)
  case atStart => exact ⟨0, none, 0, by omega, rfl, rfl, World.ownsRow_nil _ _ _ _, Below.refl _ _⟩
  case round =>
    obtain ⟨i, A3, c3, hi, rfl, rfl, HO, HB⟩ := hrel
    obtain ⟨wq, rfl⟩ : ∃ wq, wq = wr := ⟨_, rfl⟩
    by_cases h2 : i < l.length
    · have h2' : (i : Int) < (l.length : Int) := by omega
      obtain ⟨x, b, off, hx, rfl, hbl, c0, c1⟩ := (HL.out.keep HB.out).round h2
      have HX := hide hx
      have HFN := hide (fold_next hx)
      clear hx
      obtain ⟨out, hout⟩ : ∃ out, (l.take i).foldl insL [] = out := ⟨_, rfl⟩
      rw [hout] at HO HFN
      clear hout
      have HLO := hide (own_len HO.out)
      have HIL := hide (own_ils HO.out)
      have hi1 : (i : Int) ≤ 1000 := by have := HN.out; omega
      go_wp2_with fail
      go_loopw [5] (fun s5 wr => ∃ k : Nat, k ≤ i ∧ s5 = .int .i64 (k : Int) ∧ Hid (insK out x i = insK out x k) ∧ Hid (Below wq.heap.size wq wr)) (fun s5 _ => (intOf s5).toNat)
      case atStart => exact ⟨i, Nat.le_refl _, rfl, rfl, Below.refl _ _⟩
      case round =>
        obtain ⟨k, hk, rfl, HK, HBK⟩ := hrel
        have e0 := (HBK.out.cell (p := ⟨b, off + i * 2, none⟩) hbl).trans c0
        have e1 := (HBK.out.cell (p := ⟨b, off + i * 2 + 1, none⟩) hbl).trans c1
        by_cases hk0 : k = 0
        · have HE := hide (show insK out x i = k by rw [HK.out, hk0]; rfl)
          have hkk : ¬ (0 : Int) < (k : Int) := by omega
          have hkd : decide (0 < k) = false := by simp; omega
          clear HK hk0
          go_wp2_with fail
          go_region
          have HBV := hide (show Below wq.heap.size wq wr.drew from HBK.out.drew)
          clear HBK e0 e1
          generalize wr.drew = wv at HBV ⊢
          go_wp2_with fail
          have HKI := hide hk
          have HZ := hide HBV.out.size
          have HZB := hide HB.out.size
          have HIN := hide (show i ≤ 1000 by omega)
          have HBQ := hide (HB.out.trans (HBV.out.mono HB.out.size))
          have HIW := hide (HIL.out.keep HBV.out)
          have hkc : k ≤ c3 := by have := HIL.out.le; omega
          have hsl := fun w => run_head isR A3 i c3 k hkc w
          obtain ⟨AT, cT, htl, hIT⟩ := il_tail isR HIW.out k hk
          have HIT := hide hIT
          have HIH := hide (HIW.out.take hk)
          clear hIT hkc
          go_wp2_with fail
          have hbl2 : b < wv.heap.size := Nat.lt_of_lt_of_le hbl HBV.out.size
          have e0 := (HBV.out.cell (p := ⟨b, off + i * 2, none⟩) hbl).trans c0
          have e1 := (HBV.out.cell (p := ⟨b, off + i * 2 + 1, none⟩) hbl).trans c1
          generalize wv = wk at e0 e1 hbl2 HZ HBQ HIW HIT HIH ⊢
          have HB0 := hide (show Below wk.heap.size wk wk.drew from (Below.refl _ _).drew)
          have HBX := hide (show Below wk.heap.size wk (wk.alloc (.cells #[.int .i64 x.k, .int .i64 x.d] 24)).drew from (bel1 wk _).drew)
          go_region_held3 (fun w' => w'.cell? ⟨b, off + i * 2, none⟩ = some (.int .i64 x.k) ∧ w'.cell? ⟨b, off + i * 2 + 1, none⟩ = some (.int .i64 x.d))
            (first | exact held2 HB0.out hbl2 e0 e1 | exact held2 HBX.out hbl2 e0 e1 | exact held2 HB5.out hbl2 e0 e1 | exact held2 HB6.out hbl2 e0 e1 | exact held2 HB7.out hbl2 e0 e1 | exact held2 HB8.out hbl2 e0 e1)
            (first
              | (refine step_append_to isR _ (by rfl) (.tmp 31) (.tmp 34) (by rfl) wk.heap.size (.slice none 0 0) 0 [] (by rfl) (World.ownsRow_nil _ _ _ _) A3 k c3 (out.take k) (by rfl) (HIH.out.keep HB0.out) (by have := HKI.out; have := HIN.out; omega) HB0.out.size k (by omega) _ rfl ?_; intro A5 c5 w5 ho5 hg5; have HB5 := hide (own_bel (World.ownsRow_nil wk.drew wk.heap.size 24 2) HB0.out (Nat.le_refl _) (Nat.le_refl _) hg5); have HO6 := hide (own_alloc2 ho5 (.cells #[.int .i64 x.k, .int .i64 x.d] 24)); have HB6 := hide (HB5.out.alloc HB5.out.size (.cells #[.int .i64 x.k, .int .i64 x.d] 24)); have KX := hide (BlkIs.new w5 24 #[.int .i64 x.k, .int .i64 x.d]); clear ho5 hg5)
              | (refine step_append_to isR _ (by rfl) (.tmp 31) (.tmp 34) (by rfl) wk.heap.size (.slice none 0 0) 0 [] (by rfl) (World.ownsRow_nil _ _ _ _) A3 k c3 (out.take k) (by rfl) (HIH.out.keep HBX.out) (by have := HKI.out; have := HIN.out; omega) HBX.out.size k (by omega) _ rfl ?_; intro A5 c5 w5 ho5 hg5; have HB6 := hide (own_bel (World.ownsRow_nil (wk.alloc (.cells #[.int .i64 x.k, .int .i64 x.d] 24)).drew wk.heap.size 24 2) HBX.out (Nat.le_refl _) (Nat.le_refl _) hg5); have HO6 := hide ho5; have KX := hide ((BlkIs.new wk 24 #[.int .i64 x.k, .int .i64 x.d]).drew.grown hg5 (by simp [Value.ownBlock])); clear ho5 hg5)
              | (refine step_append_to isR _ (by rfl) (.tmp 35) (.tmp 40) (by rfl) wk.heap.size _ k (out.take k) (by rfl) HO6.out (some ⟨w5.heap.size, 0, none⟩) 1 1 [x] (by rfl) (il_new1 KX.out) (by have := HKI.out; have := HIN.out; omega) HB6.out.size (k + 1) (by omega) _ rfl ?_; intro A7 c7 w7 ho7 hg7; have HB7 := hide (own_bel HO6.out HB6.out (Nat.le_refl _) (Nat.le_refl _) hg7); have HO7 := hide ho7; clear ho7 hg7)
              | (refine step_append_to isR _ (by rfl) (.tmp 35) (.tmp 40) (by rfl) wk.heap.size _ k (out.take k) (by rfl) HO6.out (some ⟨wk.heap.size, 0, none⟩) 1 1 [x] (by rfl) (il_new1 KX.out) (by have := HKI.out; have := HIN.out; omega) HB6.out.size (k + 1) (by omega) _ rfl ?_; intro A7 c7 w7 ho7 hg7; have HB7 := hide (own_bel HO6.out HB6.out (Nat.le_refl _) (Nat.le_refl _) hg7); have HO7 := hide ho7; clear ho7 hg7)
              | (refine step_append_to isR _ (by rfl) (.tmp 41) (.tmp 44) (by rfl) wk.heap.size _ (k + 1) (out.take k ++ [x]) (by rfl) HO7.out AT (i - k) cT (out.drop k) (by rfl) (HIT.out.keep HB7.out) (by have := HKI.out; have := HIN.out; omega) HB7.out.size (i + 1) (by have := HKI.out; omega) _ rfl ?_; intro A8 c8 w8 ho8 hg8; have HB8 := hide (own_bel HO7.out HB7.out (Nat.le_refl _) (Nat.le_refl _) hg8); have HO8 := hide ho8; clear ho8 hg8))
          all_goals
            have hins : insL out x = out.take k ++ [x] ++ out.drop k := by
              rw [insL, HLO.out, HE.out]; simp
            have HIS := hide hins
            clear hins hsl htl e0 e1
            go_wp2_with fail
            go_roundw
            case rel => exact ⟨i + 1, A8, c8, h2, by go_num, rfl, by rw [HFN.out, HIS.out]; exact own_base HO8.out (Nat.le_trans HB.out.size HZ.out), HBQ.out.trans (HB8.out.mono HBQ.out.size)⟩
            case measure => simp [intOf]; omega
        · obtain ⟨j, hj⟩ : ∃ j, k = j + 1 := ⟨k - 1, by omega⟩
          have HJ := hide hj
          have hji : j < i := by omega
          have hk1 : (1 : Int) ≤ (k : Int) := by omega
          have hk2 : 0 < k := by omega
          have hke : (k : Int) - 1 = (j : Int) := by omega
          have hkw : IntKind.i64.wrap ((k : Int) - 1) = (j : Int) := by rw [hke]; exact IntWalk.i64_in _ (by omega)
          have hkw2 : IntKind.i64.wrap (j : Int) = (j : Int) := IntWalk.i64_in _ (by omega)
          clear hj hk0
          obtain ⟨y, b', off', hy, rfl, hbl', d0, d1⟩ := (HIL.out.keep HBK.out).round hji
          have HY := hide (gt_some hy)
          clear hy
          have hji' : (j : Int) < (i : Int) := by omega
          have HC := hide (rh_Less x y)
          obtain ⟨z, hz⟩ : ∃ z, ltB x y = z := ⟨_, rfl⟩
          rw [hz] at HC
          have HZ0 := hide hz
          clear hz
          have hbl3 : b < wr.heap.size := Nat.lt_of_lt_of_le hbl HBK.out.size
          have HKJ := hide (show insK out x i = insK out x (j + 1) by rw [HK.out, HJ.out])
          clear HK
          go_wp2_with fail
          go_region_held3 (fun w' => w'.cell? ⟨b, off + i * 2, none⟩ = some (.int .i64 x.k) ∧ w'.cell? ⟨b, off + i * 2 + 1, none⟩ = some (.int .i64 x.d) ∧ w'.cell? ⟨b', off' + j * 2, none⟩ = some (.int .i64 y.k) ∧ w'.cell? ⟨b', off' + j * 2 + 1, none⟩ = some (.int .i64 y.d))
            (first | exact ⟨e0, e1, d0, d1⟩ | exact ⟨k0, k1, k2, k3⟩)
            (first
              | (go_at_call 16; ((with_reducible refine (HC.out _).mono ?_); rintro e w3 ⟨rfl, hb3⟩; have k0 := (hb3.cell (p := ⟨b, _, none⟩) hbl3).trans e0; have k1 := (hb3.cell (p := ⟨b, _, none⟩) hbl3).trans e1; have k2 := (hb3.cell (p := ⟨b', _, none⟩) hbl').trans d0; have k3 := (hb3.cell (p := ⟨b', _, none⟩) hbl').trans d1; have HB3 := hide (HBK.out.drew.trans (hb3.mono HBK.out.size)); clear hb3)))
          clear HC k0 k1 k2 k3 d0 d1 e0 e1
          cases z with
          | true =>
            have HK' := hide (show insK out x i = insK out x j by rw [HKJ.out]; exact ins_down (by rw [HY.out]; exact HZ0.out))
            clear HKJ
            go_wp2_with fail
            go_roundw
            case rel => exact ⟨j, by omega, rfl, HK'.out, HB3.out⟩
            case measure => simp [intOf]; omega
          | false =>
            have HE := hide (show insK out x i = k by rw [HKJ.out, ins_stop (by rw [HY.out]; exact HZ0.out)]; exact HJ.out.symm)
            clear HKJ hke hkw hkw2 HBK HJ
            have HKI := hide hk
            have HZ := hide HB3.out.size
            have HZB := hide HB.out.size
            have HIN := hide (show i ≤ 1000 by omega)
            have HBQ := hide (HB.out.trans (HB3.out.mono HB.out.size))
            have HIW := hide (HIL.out.keep HB3.out)
            have hkc : k ≤ c3 := by have := HIL.out.le; omega
            have hsl := fun w => run_head isR (some ⟨b', off', none⟩) i c3 k hkc w
            obtain ⟨AT, cT, htl, hIT⟩ := il_tail isR HIW.out k hk
            have HIT := hide hIT
            have HIH := hide (HIW.out.take hk)
            clear hIT hkc
            go_wp2_with fail
            have hbl2 : b < w3.heap.size := Nat.lt_of_lt_of_le hbl HB3.out.size
            have e0 := (HB3.out.cell (p := ⟨b, off + i * 2, none⟩) hbl).trans c0
            have e1 := (HB3.out.cell (p := ⟨b, off + i * 2 + 1, none⟩) hbl).trans c1
            generalize w3 = wk at e0 e1 hbl2 HZ HBQ HIW HIT HIH ⊢
            have HB0 := hide (show Below wk.heap.size wk wk.drew from (Below.refl _ _).drew)
            have HBX := hide (show Below wk.heap.size wk (wk.alloc (.cells #[.int .i64 x.k, .int .i64 x.d] 24)).drew from (bel1 wk _).drew)
            go_region_held3 (fun w' => w'.cell? ⟨b, off + i * 2, none⟩ = some (.int .i64 x.k) ∧ w'.cell? ⟨b, off + i * 2 + 1, none⟩ = some (.int .i64 x.d))
              (first | exact held2 HB0.out hbl2 e0 e1 | exact held2 HBX.out hbl2 e0 e1 | exact held2 HB5.out hbl2 e0 e1 | exact held2 HB6.out hbl2 e0 e1 | exact held2 HB7.out hbl2 e0 e1 | exact held2 HB8.out hbl2 e0 e1)
              (first
                | (refine step_append_to isR _ (by rfl) (.tmp 31) (.tmp 34) (by rfl) wk.heap.size (.slice none 0 0) 0 [] (by rfl) (World.ownsRow_nil _ _ _ _) (some ⟨b', off', none⟩) k c3 (out.take k) (by rfl) (HIH.out.keep HB0.out) (by have := HKI.out; have := HIN.out; omega) HB0.out.size k (by omega) _ rfl ?_; intro A5 c5 w5 ho5 hg5; have HB5 := hide (own_bel (World.ownsRow_nil wk.drew wk.heap.size 24 2) HB0.out (Nat.le_refl _) (Nat.le_refl _) hg5); have HO6 := hide (own_alloc2 ho5 (.cells #[.int .i64 x.k, .int .i64 x.d] 24)); have HB6 := hide (HB5.out.alloc HB5.out.size (.cells #[.int .i64 x.k, .int .i64 x.d] 24)); have KX := hide (BlkIs.new w5 24 #[.int .i64 x.k, .int .i64 x.d]); clear ho5 hg5)
                | (refine step_append_to isR _ (by rfl) (.tmp 31) (.tmp 34) (by rfl) wk.heap.size (.slice none 0 0) 0 [] (by rfl) (World.ownsRow_nil _ _ _ _) (some ⟨b', off', none⟩) k c3 (out.take k) (by rfl) (HIH.out.keep HBX.out) (by have := HKI.out; have := HIN.out; omega) HBX.out.size k (by omega) _ rfl ?_; intro A5 c5 w5 ho5 hg5; have HB6 := hide (own_bel (World.ownsRow_nil (wk.alloc (.cells #[.int .i64 x.k, .int .i64 x.d] 24)).drew wk.heap.size 24 2) HBX.out (Nat.le_refl _) (Nat.le_refl _) hg5); have HO6 := hide ho5; have KX := hide ((BlkIs.new wk 24 #[.int .i64 x.k, .int .i64 x.d]).drew.grown hg5 (by simp [Value.ownBlock])); clear ho5 hg5)
                | (refine step_append_to isR _ (by rfl) (.tmp 35) (.tmp 40) (by rfl) wk.heap.size _ k (out.take k) (by rfl) HO6.out (some ⟨w5.heap.size, 0, none⟩) 1 1 [x] (by rfl) (il_new1 KX.out) (by have := HKI.out; have := HIN.out; omega) HB6.out.size (k + 1) (by omega) _ rfl ?_; intro A7 c7 w7 ho7 hg7; have HB7 := hide (own_bel HO6.out HB6.out (Nat.le_refl _) (Nat.le_refl _) hg7); have HO7 := hide ho7; clear ho7 hg7)
                | (refine step_append_to isR _ (by rfl) (.tmp 35) (.tmp 40) (by rfl) wk.heap.size _ k (out.take k) (by rfl) HO6.out (some ⟨wk.heap.size, 0, none⟩) 1 1 [x] (by rfl) (il_new1 KX.out) (by have := HKI.out; have := HIN.out; omega) HB6.out.size (k + 1) (by omega) _ rfl ?_; intro A7 c7 w7 ho7 hg7; have HB7 := hide (own_bel HO6.out HB6.out (Nat.le_refl _) (Nat.le_refl _) hg7); have HO7 := hide ho7; clear ho7 hg7)
                | (refine step_append_to isR _ (by rfl) (.tmp 41) (.tmp 44) (by rfl) wk.heap.size _ (k + 1) (out.take k ++ [x]) (by rfl) HO7.out AT (i - k) cT (out.drop k) (by rfl) (HIT.out.keep HB7.out) (by have := HKI.out; have := HIN.out; omega) HB7.out.size (i + 1) (by have := HKI.out; omega) _ rfl ?_; intro A8 c8 w8 ho8 hg8; have HB8 := hide (own_bel HO7.out HB7.out (Nat.le_refl _) (Nat.le_refl _) hg8); have HO8 := hide ho8; clear ho8 hg8))
            all_goals
              have hins : insL out x = out.take k ++ [x] ++ out.drop k := by
                rw [insL, HLO.out, HE.out]; simp
              have HIS := hide hins
              clear hins hsl htl e0 e1
              go_wp2_with fail
              go_roundw
              case rel => exact ⟨i + 1, A8, c8, h2, by go_num, rfl, by rw [HFN.out, HIS.out]; exact own_base HO8.out (Nat.le_trans HB.out.size HZ.out), HBQ.out.trans (HB8.out.mono HBQ.out.size)⟩
              case measure => simp [intOf]; omega
    · obtain rfl : i = l.length := by omega
      have h2' : ¬ (l.length : Int) < (l.length : Int) := by omega
      have ho := HO.out
      rw [List.take_length] at ho
      have HO5 := hide (show wq.ownsRow w.heap.size 24 2 (.slice A3 (sortR l).length c3) (sortR l).length (ics (sortR l)) by rw [sortR_len]; exact ho)
      clear ho HO
      go_wp2
      go_ret
      exact ⟨A3, c3, by rw [sortR_len]; rfl, HO5.out, HB.out⟩
end Go.Proofs.Ytofnpmmbfcnlgaa
