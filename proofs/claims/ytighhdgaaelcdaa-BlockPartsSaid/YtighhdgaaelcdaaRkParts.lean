/-
  Layer 11: Parts (the document's).
-/
import Derived.Test.YtighhdgaaelcdaaBkParts
namespace Go.Proofs.Ytighhdgaaelcdaa
set_option linter.unusedSimpArgs false
set_option linter.unusedVariables false
open Go.RowKit

theorem take_str (T : ByteArray) (m : Nat) : strOfNums ((bts T).take m) = T.extract 0 m := by
  rw [← str_bts (T.extract 0 m), bts_extract]
  simp
theorem ext_len (T : ByteArray) (M : Nat) : (T.extract M T.size).size = T.size - M := by
  rw [← bts_len, bts_drop, List.length_drop, bts_len]
/-- A frame of a part, its piece a text. -/
def mkT (s ty fl : Int) (T : ByteArray) : Fr := ⟨ty, fl, s, T, 0, 0, false, 0, 0, 0, 0⟩
theorem mkT_take (s ty fl : Int) (T : ByteArray) (m : Nat) : mkT s ty fl (T.extract 0 m) = mkF s ty fl ((bts T).take m) := by
  rw [mkF, take_str]; rfl
theorem mkT_all (s ty fl : Int) (T : ByteArray) : mkT s ty fl T = mkF s ty fl (bts T) := by
  rw [mkF, str_bts]; rfl

set_option maxHeartbeats 800000 in
theorem rk_Parts_range (s m : Int) (A : Option Addr) (n cap : Nat) (e : Bool) (h : (s < 1 ∨ 2147483647 < s) ∨ (m < 1 ∨ 16384 < m)) (w : World) :
    Calls Try.prog 14 #[.int .i64 s, .slice A n cap, .bool e, .int .i64 m] w (GivesParts 27 [] 0 8 w) := by
  have key : ∀ P : Prop, (s < 1 → P) → (¬ s < 1 → 2147483647 < s → P) → (¬ s < 1 → ¬ 2147483647 < s → m < 1 → P) → (¬ s < 1 → ¬ 2147483647 < s → ¬ m < 1 → 16384 < m → P) → P := by
    intro P a b c d
    by_cases h1 : s < 1
    · exact a h1
    by_cases h2 : 2147483647 < s
    · exact b h1 h2
    by_cases h3 : m < 1
    · exact c h1 h2 h3
    · exact d h1 h2 h3 (by omega)
  clear h
  refine key _ ?_ ?_ ?_ ?_
  all_goals
    clear key
    intros
    go_enter Try.func14, Try.ntmps14
    go_wp2_with fail
    go_ret2
    exact gives_none _ _ _ _ (Below.refl _ _)
set_option maxHeartbeats 800000 in
theorem rk_Parts_long (s m : Int) (A : Option Addr) (n cap : Nat) (e : Bool) (hs : strB s = true) (h1 : 1 ≤ m) (h2 : m ≤ 16384) (hl : 4096 < n) (w : World) :
    Calls Try.prog 14 #[.int .i64 s, .slice A n cap, .bool e, .int .i64 m] w (GivesParts 27 [] 0 5 w) := by
  have h1' : ¬ m < 1 := by omega
  have h2' : ¬ 16384 < m := by omega
  have hl' : (4096 : Int) < (n : Int) := by omega
  have hs1 : ¬ s < 1 := by simp [strB] at hs; omega
  have hs2 : ¬ 2147483647 < s := by simp [strB] at hs; omega
  clear hs h1 h2 hl
  go_enter Try.func14, Try.ntmps14
  go_wp2_with fail
  go_ret2
  exact gives_none _ _ _ _ (Below.refl _ _)

/-- The loop's relation. -/
def RkL (s : Int) (R : List Fr) (m : Nat) (w : World) (g B : Nat) (l x : Value) (wr : World) : Prop :=
  ∃ (T : ByteArray) (pre : List Fr) (k : Nat) (ty fl : Int), x = .string T ∧ pre.length + T.size ≤ 4096 ∧ T.size ≤ k ∧ (fl = 0 ∨ fl = 1) ∧ pre ++ genC s ty fl (chunks m k (bts T)) = R ∧ BlkIs wr g 27 ((mkT s ty fl ⟨#[]⟩).cs none 0 0) ∧
    wr.ownsRow B 27 12 l pre.length (fcsL pre) ∧ Below w.heap.size w wr ∧ B ≤ wr.heap.size
theorem own_at_g {w : World} {B g : Nat} {e : TypeId} {v : Value} {n : Nat} {xs : List Value} (h : w.ownsRow B e 12 v n xs) (hg : g < B) (i : Nat) (u : Value) : (w.setCell ⟨g, i, none⟩ u).ownsRow B e 12 v n xs :=
  own_kb h ((KB.refl (· = g) w).setCell (fun _ => rfl) u) (fun k hk => by omega)
theorem own_row_g {w : World} {B g : Nat} {e : TypeId} {v : Value} {n : Nat} {xs : List Value} (h : w.ownsRow B e 12 v n xs) (hg : g < B) (cs : Array Value) : (w.setRow g cs).ownsRow B e 12 v n xs :=
  own_kb h ((KB.refl (· = g) w).setRow (fun _ => rfl) cs) (fun k hk => by omega)

set_option maxRecDepth 100000 in
set_option maxHeartbeats 3200000 in
theorem rk_Parts_good (s : Int) (m : Nat) (A : Option Addr) (n cap : Nat) (e : Bool) (xs : List Int) (hs : strB s = true) (h1 : 1 ≤ m) (h2 : m ≤ 16384) (hl : n ≤ 4096) (w : World) (hr : RB w A n xs) :
    Calls Try.prog 14 #[.int .i64 s, .slice A n cap, .bool e, .int .i64 (m : Int)] w (GivesParts 27 (genC s 1 (if e then 1 else 0) (chunks m n xs)) (chunks m n xs).length 0 w) := by
  obtain ⟨i0, hi0, hz0, hz1, hz2⟩ := info_parts fr_info
  obtain ⟨f, hf⟩ : ∃ f : Int, f = if e then 1 else 0 := ⟨_, rfl⟩
  rw [← hf]
  have HFE := hide (show (e = true → f = 1) ∧ (e = false → f = 0) from ⟨fun h => by rw [hf, h]; rfl, fun h => by rw [hf, h]; rfl⟩)
  obtain ⟨T0, hT0⟩ : ∃ T0, T0 = strOfNums xs := ⟨_, rfl⟩
  have hb0 : bts T0 = xs := by rw [hT0, bts_str _ (rb_all hr)]
  have hs0 : T0.size = n := by rw [← bts_len, hb0, hr.1]
  have HR := hide hr
  obtain ⟨R, hR⟩ : ∃ R, R = genC s 1 f (chunks m n xs) := ⟨_, rfl⟩
  have HRL := hide (show (chunks m n xs).length = R.length by rw [hR, genC_len])
  rw [← hR, HRL.out]
  have HRR := hide (show R = genC s 1 f (chunks m n (bts T0)) ∧ T0.size = n ∧ (f = 0 ∨ f = 1) from ⟨by rw [hb0]; exact hR, hs0, by rw [hf]; cases e <;> simp⟩)
  have HT0 := hide hT0
  have h1' : ¬ (m : Int) < 1 := by omega
  have h2' : ¬ 16384 < (m : Int) := by omega
  have hl' : ¬ (4096 : Int) < (n : Int) := by omega
  have hs1 : ¬ s < 1 := by simp [strB] at hs; omega
  have hs2 : ¬ 2147483647 < s := by simp [strB] at hs; omega
  have HM1 := hide h1
  have HNL := hide hl
  obtain ⟨g, hg⟩ : ∃ g, g = w.heap.size := ⟨_, rfl⟩
  have HG := hide hg
  clear hf hb0 hs0 hR hr hs h1 h2 hl hT0
  have HK0 := hide (BlkIs.new w 27 ((mkT s 1 0 ⟨#[]⟩).cs none 0 0))
  have HB0 := hide ((Below.refl w.heap.size w).alloc (Nat.le_refl _) (.cells ((mkT s 1 0 ⟨#[]⟩).cs none 0 0) 27))
  rw [← hg] at HK0 HB0
  have HE := hide (show (e = true → f = 1) ∧ (e = false → f = 0) from HFE.out)
  cases e with
  | true =>
    obtain rfl := HE.out.1 rfl
    clear HE HFE
    go_enter Try.func14, Try.ntmps14
    go_upto_region 7 with (first | (refine wpList_built rfl 27 _ rfl ((mkT s 1 0 ⟨#[]⟩).cs none 0 0) (by kernel_rfl) ?_) | (refine wpList_store_new rfl 27 (.tmp 10) (.tmp 33) rfl ((mkT s 1 0 ⟨#[]⟩).cs none 0 0) (Fr.zero.cs none 0 0) 27 rfl rfl rff_size rfl (Fr.cs_one _ _ _ _) ?_))
    rw [← hg]
    clear hg h1' h2' hl' hs1 hs2
    generalize w.alloc (.cells ((mkT s 1 0 ⟨#[]⟩).cs none 0 0) 27) = w0 at HK0 HB0 ⊢
    have c1 := (HK0.out.cell 1).trans (show ((mkT s 1 0 ⟨#[]⟩).cs none 0 0)[1]? = some (.int .u8 0) from rfl)
    have z1 := HK0.out.frozen 1
    go_upto_region 8 with (fail)
    have HK := hide (show BlkIs (w0.setCell ⟨g, 1, none⟩ (.int .u8 1)) g 27 ((mkT s 1 1 ⟨#[]⟩).cs none 0 0) from HK0.out.put 1 (.int .u8 1))
    have HB := hide (HB0.out.setCell (p := ⟨g, 1, none⟩) (Nat.le_refl _) (.int .u8 1))
    clear c1 z1 HK0 HB0
    generalize w0.setCell ⟨g, 1, none⟩ (.int .u8 1) = wl at HK HB ⊢
    have hcv : (convert 44 9 (.slice A n cap)).run Try.prog wl = .ok (.string T0) wl := by
      rw [HT0.out]
      exact rb_string cap (HR.out.below (HB.out.mono (Nat.le_of_eq HG.out.symm)))
    have HLB := hide (show g < wl.heap.size from HK.out.lt)
    clear HT0 HR
    obtain ⟨B, hB⟩ : ∃ B, B = wl.heap.size := ⟨_, rfl⟩
    rw [← hB] at HLB
    have HBB := hide hB
    clear hB
    go_wp2_with fail
    clear hcv
    go_loopw [11, 12] (fun l x wr => RkL s R m w g B l x wr) (fun _ x _ => (match x with | .string T => T.size | _ => 0))
    case atStart => exact ⟨T0, [], n, 1, 1, rfl, by have := HRR.out.2.1; have := HNL.out; simp; omega, by rw [HRR.out.2.1]; exact Nat.le_refl _, by decide, by rw [HRR.out.1]; rfl, HK.out, World.ownsRow_nil _ _ _ _, by rw [HG.out] at HB; exact HB.out, Nat.le_of_eq HBB.out⟩
    case round =>
      obtain ⟨T, pre, k, ty, fl, rfl, hlen, hk, hfl, hgen, hK, hown, hb, hbs⟩ := hrel
      have HLEN := hide hlen
      have HOWN := hide hown
      have HKF := hide hK
      have HBW := hide hb
      have HBS := hide hbs
      have HTL := hide (bts_len T)
      clear hown hK hb hbs
      have c1 := (HKF.out.cell 1).trans (show ((mkT s ty fl ⟨#[]⟩).cs none 0 0)[1]? = some (.int .u8 fl) from rfl)
      have c3 := (HKF.out.cell 3).trans (show ((mkT s ty fl ⟨#[]⟩).cs none 0 0)[3]? = some (.string ⟨#[]⟩) from rfl)
      have z1 := HKF.out.frozen 1
      have z3 := HKF.out.frozen 3
      have hlt5 : (T.size : Int) ≤ 4096 := by omega
      by_cases hgo : m < T.size
      · have hgo' : (m : Int) < (T.size : Int) := by omega
        have hgo2 : (m : Int) ≤ (T.size : Int) := by omega
        obtain ⟨k', hk', hch⟩ := chunks_more (m := m) (k := k) (xs := bts T) (by rw [HTL.out]; exact hgo) (by rw [HTL.out]; exact hk)
        rw [hch, genC_more (chunks_ne _ _ _), ← mkT_take, ← bts_drop] at hgen
        have HGN := hide (show (pre ++ [mkT s ty fl (T.extract 0 m)]) ++ genC s 9 0 (chunks m k' (bts (T.extract m T.size))) = R by rw [← hgen]; simp)
        have HKK := hide (And.intro hk hk')
        clear hlen hk hk' hfl hgen hch
        go_upto_region 12 with (fail)
        have KX := hide (show BlkIs (wr.setCell ⟨g, 3, none⟩ (.string (T.extract 0 m))) g 27 ((mkT s ty fl (T.extract 0 m)).cs none 0 0) from HKF.out.put 3 (.string (T.extract 0 m)))
        have OX := hide (own_at_g HOWN.out HLB.out 3 (.string (T.extract 0 m)))
        have BX := hide (HBW.out.setCell (p := ⟨g, 3, none⟩) (Nat.le_of_eq HG.out.symm) (.string (T.extract 0 m)))
        have SX := hide (show B ≤ (wr.setCell ⟨g, 3, none⟩ (.string (T.extract 0 m))).heap.size by have := HBS.out; simpa using this)
        clear HKF HOWN HBW c1 c3 z1 z3 HBS
        generalize wr.setCell ⟨g, 3, none⟩ (.string (T.extract 0 m)) = wx at KX OX BX SX ⊢
        go_upto_region 13 with (first
          | (refine wpList_load_blk rfl 27 (.tmp 10) rfl g rfl 27 #[.int .u8 ty, .int .u8 fl, .int .i64 s, .string (T.extract 0 m), .int .i64 0, .int .i64 0, .bool false, .int .u8 0, .int .u32 0, .int .i64 0, .int .i64 0, .slice none 0 0] _ KX.out Try.underlying27 rfl rff_size ?_)
          | (at_builtin; refine wpList_append_own _ rfl (.tmp 46) (.tmp 48) 48 rfl B 27 i0 (.agg (Fr.zero.cs none 0 0)) 12 96 Try.underlying48 hi0 hz0 hz1 hz2 rfl (by decide) u11 pre.length (fcsL pre) rfl (OX.out.alloc _) ⟨wx.heap.size, 0, none⟩ 1 1 (mkT s ty fl (T.extract 0 m)).cl rfl rfl (new_cells _ _ _) (Fr.cl_one _) (by have := HLEN.out; unfold maxLen; omega) (by have := HLEN.out; omega) (by rw [World.size_alloc]; have := SX.out; omega) ?_; intro v3 w3 hown3 hg3 _; have HO3 := hide hown3; have HB3 := hide (own_below' (OX.out.alloc _) (BX.out.alloc BX.out.size _) (by have := HLB.out; have := HG.out; omega) (Nat.le_refl _) hg3); have HK3 := hide ((KX.out.alloc _).grown hg3 (own_ne OX.out HLB.out)); have HS3 := hide (show B ≤ w3.heap.size by have := SX.out; have := hg3.size; rw [World.size_alloc] at this; omega); clear hown3 hg3))
        clear KX OX BX SX
        go_upto_region 14 with (first
            | (refine wpList_store_blk rfl 27 (.tmp 10) (.tmp 51) rfl g #[.int .u8 9, .int .u8 0, .int .i64 s, .string ⟨#[]⟩, .int .i64 0, .int .i64 0, .bool false, .int .u8 0, .int .u32 0, .int .i64 0, .int .i64 0, .slice none 0 0] #[.int .u8 ty, .int .u8 fl, .int .i64 s, .string (T.extract 0 m), .int .i64 0, .int .i64 0, .bool false, .int .u8 0, .int .u32 0, .int .i64 0, .int .i64 0, .slice none 0 0] 27 rfl rfl HK3.out rff_size rfl (Fr.cs_one (mkT s 9 0 ⟨#[]⟩) _ _ _) ?_))
        have K4 := hide (show BlkIs (w3.setRow g #[.int .u8 9, .int .u8 0, .int .i64 s, .string ⟨#[]⟩, .int .i64 0, .int .i64 0, .bool false, .int .u8 0, .int .u32 0, .int .i64 0, .int .i64 0, .slice none 0 0]) g 27 ((mkT s 9 0 ⟨#[]⟩).cs none 0 0) from HK3.out.row _)
        have O4 := hide (own_row_g HO3.out HLB.out #[.int .u8 9, .int .u8 0, .int .i64 s, .string ⟨#[]⟩, .int .i64 0, .int .i64 0, .bool false, .int .u8 0, .int .u32 0, .int .i64 0, .int .i64 0, .slice none 0 0])
        have B4 := hide (below_setRow HB3.out (Nat.le_of_eq HG.out.symm) #[.int .u8 9, .int .u8 0, .int .i64 s, .string ⟨#[]⟩, .int .i64 0, .int .i64 0, .bool false, .int .u8 0, .int .u32 0, .int .i64 0, .int .i64 0, .slice none 0 0])
        have S4 := hide (show B ≤ (w3.setRow g #[.int .u8 9, .int .u8 0, .int .i64 s, .string ⟨#[]⟩, .int .i64 0, .int .i64 0, .bool false, .int .u8 0, .int .u32 0, .int .i64 0, .int .i64 0, .slice none 0 0]).heap.size by have := HS3.out; simpa using this)
        clear HK3 HO3 HB3 HS3
        generalize w3.setRow g #[.int .u8 9, .int .u8 0, .int .i64 s, .string ⟨#[]⟩, .int .i64 0, .int .i64 0, .bool false, .int .u8 0, .int .u32 0, .int .i64 0, .int .i64 0, .slice none 0 0] = w4 at K4 O4 B4 S4 ⊢
        go_wp2_with fail
        go_roundw
        case rel => exact ⟨T.extract m T.size, pre ++ [mkT s ty fl (T.extract 0 m)], k', 9, 0, rfl, by rw [ext_len, List.length_append, List.length_singleton]; have := HLEN.out; have := HM1.out; omega, by rw [ext_len]; have := HKK.out; have := HM1.out; omega, by decide, HGN.out, K4.out, by rw [fcsL_append, List.length_append, List.length_singleton]; simpa [fcsL] using O4.out, B4.out, S4.out⟩
        case measure => show (T.extract m T.size).size < T.size; rw [ext_len]; have := HM1.out; omega
      · have hgo' : ¬ (m : Int) < (T.size : Int) := by omega
        have hch := chunks_last (m := m) (k := k) (xs := bts T) (by rw [HTL.out]; exact hgo)
        rw [hch] at hgen
        have HGN := hide (show pre ++ [mkT s ty (fl + 4) T] = R by rw [← hgen, mkT_all]; rfl)
        clear hlen hk hgen hch
        rcases hfl with rfl | rfl
        · go_upto_region 17 with (fail)
          have KX := hide (show BlkIs ((wr.setCell ⟨g, 3, none⟩ (.string T)).setCell ⟨g, 1, none⟩ (.int .u8 4)) g 27 ((mkT s ty 4 T).cs none 0 0) from (HKF.out.put 3 (.string T)).put 1 (.int .u8 4))
          have OX := hide (own_at_g (own_at_g HOWN.out HLB.out 3 (.string T)) HLB.out 1 (.int .u8 4))
          have BX := hide ((HBW.out.setCell (p := ⟨g, 3, none⟩) (Nat.le_of_eq HG.out.symm) (.string T)).setCell (p := ⟨g, 1, none⟩) (Nat.le_of_eq HG.out.symm) (.int .u8 4))
          have SX := hide (show B ≤ ((wr.setCell ⟨g, 3, none⟩ (.string T)).setCell ⟨g, 1, none⟩ (.int .u8 4)).heap.size by have := HBS.out; simpa using this)
          clear HKF HOWN HBW c1 c3 z1 z3 HBS
          generalize (wr.setCell ⟨g, 3, none⟩ (.string T)).setCell ⟨g, 1, none⟩ (.int .u8 4) = wx at KX OX BX SX ⊢
          go_wp2_with (first
            | (refine wpList_load_blk rfl 27 (.tmp 10) rfl g rfl 27 #[.int .u8 ty, .int .u8 4, .int .i64 s, .string T, .int .i64 0, .int .i64 0, .bool false, .int .u8 0, .int .u32 0, .int .i64 0, .int .i64 0, .slice none 0 0] _ KX.out Try.underlying27 rfl rff_size ?_)
            | (at_builtin; refine wpList_append_own _ rfl (.tmp 61) (.tmp 63) 48 rfl B 27 i0 (.agg (Fr.zero.cs none 0 0)) 12 96 Try.underlying48 hi0 hz0 hz1 hz2 rfl (by decide) u11 pre.length (fcsL pre) rfl (OX.out.alloc _) ⟨wx.heap.size, 0, none⟩ 1 1 (mkT s ty 4 T).cl rfl rfl (new_cells _ _ _) (Fr.cl_one _) (by have := HLEN.out; unfold maxLen; omega) (by have := HLEN.out; omega) (by rw [World.size_alloc]; have := SX.out; omega) ?_; intro v3 w3 hown3 hg3 _; have HO3 := hide hown3; have HB3 := hide (own_below' (OX.out.alloc _) (BX.out.alloc BX.out.size _) (by have := HLB.out; have := HG.out; omega) (Nat.le_refl _) hg3); clear hown3 hg3))
          go_ret2
          refine ⟨v3, rfl, ?_, HB3.out⟩
          rw [← HGN.out, fcsL_append, List.length_append, List.length_singleton]
          exact own_base (by simpa [fcsL] using HO3.out) (by have := HLB.out; have := HG.out; omega)
        · go_upto_region 17 with (fail)
          have KX := hide (show BlkIs ((wr.setCell ⟨g, 3, none⟩ (.string T)).setCell ⟨g, 1, none⟩ (.int .u8 5)) g 27 ((mkT s ty 5 T).cs none 0 0) from (HKF.out.put 3 (.string T)).put 1 (.int .u8 5))
          have OX := hide (own_at_g (own_at_g HOWN.out HLB.out 3 (.string T)) HLB.out 1 (.int .u8 5))
          have BX := hide ((HBW.out.setCell (p := ⟨g, 3, none⟩) (Nat.le_of_eq HG.out.symm) (.string T)).setCell (p := ⟨g, 1, none⟩) (Nat.le_of_eq HG.out.symm) (.int .u8 5))
          have SX := hide (show B ≤ ((wr.setCell ⟨g, 3, none⟩ (.string T)).setCell ⟨g, 1, none⟩ (.int .u8 5)).heap.size by have := HBS.out; simpa using this)
          clear HKF HOWN HBW c1 c3 z1 z3 HBS
          generalize (wr.setCell ⟨g, 3, none⟩ (.string T)).setCell ⟨g, 1, none⟩ (.int .u8 5) = wx at KX OX BX SX ⊢
          go_wp2_with (first
            | (refine wpList_load_blk rfl 27 (.tmp 10) rfl g rfl 27 #[.int .u8 ty, .int .u8 5, .int .i64 s, .string T, .int .i64 0, .int .i64 0, .bool false, .int .u8 0, .int .u32 0, .int .i64 0, .int .i64 0, .slice none 0 0] _ KX.out Try.underlying27 rfl rff_size ?_)
            | (at_builtin; refine wpList_append_own _ rfl (.tmp 61) (.tmp 63) 48 rfl B 27 i0 (.agg (Fr.zero.cs none 0 0)) 12 96 Try.underlying48 hi0 hz0 hz1 hz2 rfl (by decide) u11 pre.length (fcsL pre) rfl (OX.out.alloc _) ⟨wx.heap.size, 0, none⟩ 1 1 (mkT s ty 5 T).cl rfl rfl (new_cells _ _ _) (Fr.cl_one _) (by have := HLEN.out; unfold maxLen; omega) (by have := HLEN.out; omega) (by rw [World.size_alloc]; have := SX.out; omega) ?_; intro v3 w3 hown3 hg3 _; have HO3 := hide hown3; have HB3 := hide (own_below' (OX.out.alloc _) (BX.out.alloc BX.out.size _) (by have := HLB.out; have := HG.out; omega) (Nat.le_refl _) hg3); clear hown3 hg3))
          go_ret2
          refine ⟨v3, rfl, ?_, HB3.out⟩
          rw [← HGN.out, fcsL_append, List.length_append, List.length_singleton]
          exact own_base (by simpa [fcsL] using HO3.out) (by have := HLB.out; have := HG.out; omega)
  | false =>
    obtain rfl := HE.out.2 rfl
    clear HE HFE
    go_enter Try.func14, Try.ntmps14
    go_upto_region 8 with (first | (refine wpList_built rfl 27 _ rfl ((mkT s 1 0 ⟨#[]⟩).cs none 0 0) (by kernel_rfl) ?_) | (refine wpList_store_new rfl 27 (.tmp 10) (.tmp 33) rfl ((mkT s 1 0 ⟨#[]⟩).cs none 0 0) (Fr.zero.cs none 0 0) 27 rfl rfl rff_size rfl (Fr.cs_one _ _ _ _) ?_))
    rw [← hg]
    clear hg h1' h2' hl' hs1 hs2
    generalize w.alloc (.cells ((mkT s 1 0 ⟨#[]⟩).cs none 0 0) 27) = w0 at HK0 HB0 ⊢
    have HK := HK0
    have HB := HB0
    clear HK0 HB0
    generalize w0 = wl at HK HB ⊢
    have hcv : (convert 44 9 (.slice A n cap)).run Try.prog wl = .ok (.string T0) wl := by
      rw [HT0.out]
      exact rb_string cap (HR.out.below (HB.out.mono (Nat.le_of_eq HG.out.symm)))
    have HLB := hide (show g < wl.heap.size from HK.out.lt)
    clear HT0 HR
    obtain ⟨B, hB⟩ : ∃ B, B = wl.heap.size := ⟨_, rfl⟩
    rw [← hB] at HLB
    have HBB := hide hB
    clear hB
    go_wp2_with fail
    clear hcv
    go_loopw [11, 12] (fun l x wr => RkL s R m w g B l x wr) (fun _ x _ => (match x with | .string T => T.size | _ => 0))
    case atStart => exact ⟨T0, [], n, 1, 0, rfl, by have := HRR.out.2.1; have := HNL.out; simp; omega, by rw [HRR.out.2.1]; exact Nat.le_refl _, by decide, by rw [HRR.out.1]; rfl, HK.out, World.ownsRow_nil _ _ _ _, by rw [HG.out] at HB; exact HB.out, Nat.le_of_eq HBB.out⟩
    case round =>
      obtain ⟨T, pre, k, ty, fl, rfl, hlen, hk, hfl, hgen, hK, hown, hb, hbs⟩ := hrel
      have HLEN := hide hlen
      have HOWN := hide hown
      have HKF := hide hK
      have HBW := hide hb
      have HBS := hide hbs
      have HTL := hide (bts_len T)
      clear hown hK hb hbs
      have c1 := (HKF.out.cell 1).trans (show ((mkT s ty fl ⟨#[]⟩).cs none 0 0)[1]? = some (.int .u8 fl) from rfl)
      have c3 := (HKF.out.cell 3).trans (show ((mkT s ty fl ⟨#[]⟩).cs none 0 0)[3]? = some (.string ⟨#[]⟩) from rfl)
      have z1 := HKF.out.frozen 1
      have z3 := HKF.out.frozen 3
      have hlt5 : (T.size : Int) ≤ 4096 := by omega
      by_cases hgo : m < T.size
      · have hgo' : (m : Int) < (T.size : Int) := by omega
        have hgo2 : (m : Int) ≤ (T.size : Int) := by omega
        obtain ⟨k', hk', hch⟩ := chunks_more (m := m) (k := k) (xs := bts T) (by rw [HTL.out]; exact hgo) (by rw [HTL.out]; exact hk)
        rw [hch, genC_more (chunks_ne _ _ _), ← mkT_take, ← bts_drop] at hgen
        have HGN := hide (show (pre ++ [mkT s ty fl (T.extract 0 m)]) ++ genC s 9 0 (chunks m k' (bts (T.extract m T.size))) = R by rw [← hgen]; simp)
        have HKK := hide (And.intro hk hk')
        clear hlen hk hk' hfl hgen hch
        go_upto_region 12 with (fail)
        have KX := hide (show BlkIs (wr.setCell ⟨g, 3, none⟩ (.string (T.extract 0 m))) g 27 ((mkT s ty fl (T.extract 0 m)).cs none 0 0) from HKF.out.put 3 (.string (T.extract 0 m)))
        have OX := hide (own_at_g HOWN.out HLB.out 3 (.string (T.extract 0 m)))
        have BX := hide (HBW.out.setCell (p := ⟨g, 3, none⟩) (Nat.le_of_eq HG.out.symm) (.string (T.extract 0 m)))
        have SX := hide (show B ≤ (wr.setCell ⟨g, 3, none⟩ (.string (T.extract 0 m))).heap.size by have := HBS.out; simpa using this)
        clear HKF HOWN HBW c1 c3 z1 z3 HBS
        generalize wr.setCell ⟨g, 3, none⟩ (.string (T.extract 0 m)) = wx at KX OX BX SX ⊢
        go_upto_region 13 with (first
          | (refine wpList_load_blk rfl 27 (.tmp 10) rfl g rfl 27 #[.int .u8 ty, .int .u8 fl, .int .i64 s, .string (T.extract 0 m), .int .i64 0, .int .i64 0, .bool false, .int .u8 0, .int .u32 0, .int .i64 0, .int .i64 0, .slice none 0 0] _ KX.out Try.underlying27 rfl rff_size ?_)
          | (at_builtin; refine wpList_append_own _ rfl (.tmp 46) (.tmp 48) 48 rfl B 27 i0 (.agg (Fr.zero.cs none 0 0)) 12 96 Try.underlying48 hi0 hz0 hz1 hz2 rfl (by decide) u11 pre.length (fcsL pre) rfl (OX.out.alloc _) ⟨wx.heap.size, 0, none⟩ 1 1 (mkT s ty fl (T.extract 0 m)).cl rfl rfl (new_cells _ _ _) (Fr.cl_one _) (by have := HLEN.out; unfold maxLen; omega) (by have := HLEN.out; omega) (by rw [World.size_alloc]; have := SX.out; omega) ?_; intro v3 w3 hown3 hg3 _; have HO3 := hide hown3; have HB3 := hide (own_below' (OX.out.alloc _) (BX.out.alloc BX.out.size _) (by have := HLB.out; have := HG.out; omega) (Nat.le_refl _) hg3); have HK3 := hide ((KX.out.alloc _).grown hg3 (own_ne OX.out HLB.out)); have HS3 := hide (show B ≤ w3.heap.size by have := SX.out; have := hg3.size; rw [World.size_alloc] at this; omega); clear hown3 hg3))
        clear KX OX BX SX
        go_upto_region 14 with (first
            | (refine wpList_store_blk rfl 27 (.tmp 10) (.tmp 51) rfl g #[.int .u8 9, .int .u8 0, .int .i64 s, .string ⟨#[]⟩, .int .i64 0, .int .i64 0, .bool false, .int .u8 0, .int .u32 0, .int .i64 0, .int .i64 0, .slice none 0 0] #[.int .u8 ty, .int .u8 fl, .int .i64 s, .string (T.extract 0 m), .int .i64 0, .int .i64 0, .bool false, .int .u8 0, .int .u32 0, .int .i64 0, .int .i64 0, .slice none 0 0] 27 rfl rfl HK3.out rff_size rfl (Fr.cs_one (mkT s 9 0 ⟨#[]⟩) _ _ _) ?_))
        have K4 := hide (show BlkIs (w3.setRow g #[.int .u8 9, .int .u8 0, .int .i64 s, .string ⟨#[]⟩, .int .i64 0, .int .i64 0, .bool false, .int .u8 0, .int .u32 0, .int .i64 0, .int .i64 0, .slice none 0 0]) g 27 ((mkT s 9 0 ⟨#[]⟩).cs none 0 0) from HK3.out.row _)
        have O4 := hide (own_row_g HO3.out HLB.out #[.int .u8 9, .int .u8 0, .int .i64 s, .string ⟨#[]⟩, .int .i64 0, .int .i64 0, .bool false, .int .u8 0, .int .u32 0, .int .i64 0, .int .i64 0, .slice none 0 0])
        have B4 := hide (below_setRow HB3.out (Nat.le_of_eq HG.out.symm) #[.int .u8 9, .int .u8 0, .int .i64 s, .string ⟨#[]⟩, .int .i64 0, .int .i64 0, .bool false, .int .u8 0, .int .u32 0, .int .i64 0, .int .i64 0, .slice none 0 0])
        have S4 := hide (show B ≤ (w3.setRow g #[.int .u8 9, .int .u8 0, .int .i64 s, .string ⟨#[]⟩, .int .i64 0, .int .i64 0, .bool false, .int .u8 0, .int .u32 0, .int .i64 0, .int .i64 0, .slice none 0 0]).heap.size by have := HS3.out; simpa using this)
        clear HK3 HO3 HB3 HS3
        generalize w3.setRow g #[.int .u8 9, .int .u8 0, .int .i64 s, .string ⟨#[]⟩, .int .i64 0, .int .i64 0, .bool false, .int .u8 0, .int .u32 0, .int .i64 0, .int .i64 0, .slice none 0 0] = w4 at K4 O4 B4 S4 ⊢
        go_wp2_with fail
        go_roundw
        case rel => exact ⟨T.extract m T.size, pre ++ [mkT s ty fl (T.extract 0 m)], k', 9, 0, rfl, by rw [ext_len, List.length_append, List.length_singleton]; have := HLEN.out; have := HM1.out; omega, by rw [ext_len]; have := HKK.out; have := HM1.out; omega, by decide, HGN.out, K4.out, by rw [fcsL_append, List.length_append, List.length_singleton]; simpa [fcsL] using O4.out, B4.out, S4.out⟩
        case measure => show (T.extract m T.size).size < T.size; rw [ext_len]; have := HM1.out; omega
      · have hgo' : ¬ (m : Int) < (T.size : Int) := by omega
        have hch := chunks_last (m := m) (k := k) (xs := bts T) (by rw [HTL.out]; exact hgo)
        rw [hch] at hgen
        have HGN := hide (show pre ++ [mkT s ty (fl + 4) T] = R by rw [← hgen, mkT_all]; rfl)
        clear hlen hk hgen hch
        rcases hfl with rfl | rfl
        · go_upto_region 17 with (fail)
          have KX := hide (show BlkIs ((wr.setCell ⟨g, 3, none⟩ (.string T)).setCell ⟨g, 1, none⟩ (.int .u8 4)) g 27 ((mkT s ty 4 T).cs none 0 0) from (HKF.out.put 3 (.string T)).put 1 (.int .u8 4))
          have OX := hide (own_at_g (own_at_g HOWN.out HLB.out 3 (.string T)) HLB.out 1 (.int .u8 4))
          have BX := hide ((HBW.out.setCell (p := ⟨g, 3, none⟩) (Nat.le_of_eq HG.out.symm) (.string T)).setCell (p := ⟨g, 1, none⟩) (Nat.le_of_eq HG.out.symm) (.int .u8 4))
          have SX := hide (show B ≤ ((wr.setCell ⟨g, 3, none⟩ (.string T)).setCell ⟨g, 1, none⟩ (.int .u8 4)).heap.size by have := HBS.out; simpa using this)
          clear HKF HOWN HBW c1 c3 z1 z3 HBS
          generalize (wr.setCell ⟨g, 3, none⟩ (.string T)).setCell ⟨g, 1, none⟩ (.int .u8 4) = wx at KX OX BX SX ⊢
          go_wp2_with (first
            | (refine wpList_load_blk rfl 27 (.tmp 10) rfl g rfl 27 #[.int .u8 ty, .int .u8 4, .int .i64 s, .string T, .int .i64 0, .int .i64 0, .bool false, .int .u8 0, .int .u32 0, .int .i64 0, .int .i64 0, .slice none 0 0] _ KX.out Try.underlying27 rfl rff_size ?_)
            | (at_builtin; refine wpList_append_own _ rfl (.tmp 61) (.tmp 63) 48 rfl B 27 i0 (.agg (Fr.zero.cs none 0 0)) 12 96 Try.underlying48 hi0 hz0 hz1 hz2 rfl (by decide) u11 pre.length (fcsL pre) rfl (OX.out.alloc _) ⟨wx.heap.size, 0, none⟩ 1 1 (mkT s ty 4 T).cl rfl rfl (new_cells _ _ _) (Fr.cl_one _) (by have := HLEN.out; unfold maxLen; omega) (by have := HLEN.out; omega) (by rw [World.size_alloc]; have := SX.out; omega) ?_; intro v3 w3 hown3 hg3 _; have HO3 := hide hown3; have HB3 := hide (own_below' (OX.out.alloc _) (BX.out.alloc BX.out.size _) (by have := HLB.out; have := HG.out; omega) (Nat.le_refl _) hg3); clear hown3 hg3))
          go_ret2
          refine ⟨v3, rfl, ?_, HB3.out⟩
          rw [← HGN.out, fcsL_append, List.length_append, List.length_singleton]
          exact own_base (by simpa [fcsL] using HO3.out) (by have := HLB.out; have := HG.out; omega)
        · go_upto_region 17 with (fail)
          have KX := hide (show BlkIs ((wr.setCell ⟨g, 3, none⟩ (.string T)).setCell ⟨g, 1, none⟩ (.int .u8 5)) g 27 ((mkT s ty 5 T).cs none 0 0) from (HKF.out.put 3 (.string T)).put 1 (.int .u8 5))
          have OX := hide (own_at_g (own_at_g HOWN.out HLB.out 3 (.string T)) HLB.out 1 (.int .u8 5))
          have BX := hide ((HBW.out.setCell (p := ⟨g, 3, none⟩) (Nat.le_of_eq HG.out.symm) (.string T)).setCell (p := ⟨g, 1, none⟩) (Nat.le_of_eq HG.out.symm) (.int .u8 5))
          have SX := hide (show B ≤ ((wr.setCell ⟨g, 3, none⟩ (.string T)).setCell ⟨g, 1, none⟩ (.int .u8 5)).heap.size by have := HBS.out; simpa using this)
          clear HKF HOWN HBW c1 c3 z1 z3 HBS
          generalize (wr.setCell ⟨g, 3, none⟩ (.string T)).setCell ⟨g, 1, none⟩ (.int .u8 5) = wx at KX OX BX SX ⊢
          go_wp2_with (first
            | (refine wpList_load_blk rfl 27 (.tmp 10) rfl g rfl 27 #[.int .u8 ty, .int .u8 5, .int .i64 s, .string T, .int .i64 0, .int .i64 0, .bool false, .int .u8 0, .int .u32 0, .int .i64 0, .int .i64 0, .slice none 0 0] _ KX.out Try.underlying27 rfl rff_size ?_)
            | (at_builtin; refine wpList_append_own _ rfl (.tmp 61) (.tmp 63) 48 rfl B 27 i0 (.agg (Fr.zero.cs none 0 0)) 12 96 Try.underlying48 hi0 hz0 hz1 hz2 rfl (by decide) u11 pre.length (fcsL pre) rfl (OX.out.alloc _) ⟨wx.heap.size, 0, none⟩ 1 1 (mkT s ty 5 T).cl rfl rfl (new_cells _ _ _) (Fr.cl_one _) (by have := HLEN.out; unfold maxLen; omega) (by have := HLEN.out; omega) (by rw [World.size_alloc]; have := SX.out; omega) ?_; intro v3 w3 hown3 hg3 _; have HO3 := hide hown3; have HB3 := hide (own_below' (OX.out.alloc _) (BX.out.alloc BX.out.size _) (by have := HLB.out; have := HG.out; omega) (Nat.le_refl _) hg3); clear hown3 hg3))
          go_ret2
          refine ⟨v3, rfl, ?_, HB3.out⟩
          rw [← HGN.out, fcsL_append, List.length_append, List.length_singleton]
          exact own_base (by simpa [fcsL] using HO3.out) (by have := HLB.out; have := HG.out; omega)
end Go.Proofs.Ytighhdgaaelcdaa
