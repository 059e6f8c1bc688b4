/-
  Layer 2: Encode.
-/
import Derived.Test.YtjnjganmdbkpoaaHfMath
import Derived.Test.YtjnjganmdbkpoaaBytes
import Derived.Laws.MakeOwn
import Derived.Laws.BitsAllLaws
import Derived.Deep.RegionHeld3
import Derived.Deep.AppendLies
namespace Go.Proofs.Ytjnjganmdbkpoaa
open Go.RowKit

/-- What Encode leaves: a slice of its own, with the text's bits. -/
def GivesEnc (l : List Nat) (w : World) (e : Ending) (w' : World) : Prop :=
  ∃ v ys, e = .returned v ∧ IsEnc l ys ∧ w'.ownsRow w.heap.size 5 1 v ys.length (u8s ys) ∧ Below w.heap.size w w'
theorem hf_size_codesV : (Try.prog.info? 46).map (·.size) = some codesV.size := by rw [hf_size_codes, codesV, codesA_size]
theorem codesZ_size : (codesA 0).size = codesV.size := by rw [codesV, codesA_size, codesA_size]
theorem codesV_one : codesV.all (·.oneCell') = true := codesA_one _

theorem hf_or (H m x : Nat) (hx : x < 2 ^ m) (hm : m ≤ 64) : bits .or .u64 (IntKind.u64.wrap ((H : Int) * 2 ^ m)) (x : Int) = (((H * 2 ^ m + x) % 2 ^ 64 : Nat) : Int) := by
  have hp : 0 < 2 ^ m := Nat.pow_pos (by omega)
  have e1 : IntKind.u64.wrap ((H : Int) * 2 ^ m) = ((H * 2 ^ m % 2 ^ 64 : Nat) : Int) := by
    rw [IntKind.wrap_u64]
    have : (((H * 2 ^ m : Nat)) : Int) = (H : Int) * 2 ^ m := by simp
    rw [← this]; omega
  obtain ⟨j, hj⟩ : ∃ j, 64 = m + j := ⟨64 - m, by omega⟩
  have e2 : H * 2 ^ m % 2 ^ 64 = H % 2 ^ j * 2 ^ m := by rw [hj, Nat.pow_add, Nat.mul_comm (2 ^ m), Nat.mul_mod_mul_right]
  have hlt : H % 2 ^ j < 2 ^ j := Nat.mod_lt _ (Nat.pow_pos (by omega))
  have hle : (H % 2 ^ j + 1) * 2 ^ m ≤ 2 ^ j * 2 ^ m := Nat.mul_le_mul_right _ hlt
  have e3 : 2 ^ j * 2 ^ m = 2 ^ 64 := by rw [← Nat.pow_add, Nat.add_comm, ← hj]
  rw [e3, Nat.add_mul, Nat.one_mul] at hle
  have e4 : (H * 2 ^ m + x) % 2 ^ 64 = H % 2 ^ j * 2 ^ m + x := by
    rw [Nat.add_mod, e2, Nat.mod_eq_of_lt (a := x) (by omega), Nat.mod_eq_of_lt (by omega)]
  rw [e1, u64_or_nat _ _ (by omega) (by omega), e4, e2, nat_join m _ _ (Nat.mul_mod_left _ _) hx]

theorem hf_last (H Y y j : Nat) (hj7 : j < 8) (hY : Y = H * 2 ^ j % 2 ^ 64) (hy : y = (H * 2 ^ j + (2 ^ j - 1)) % 2 ^ 8) : bits .or .u8 ((Y : Int) % 256) ((2 ^ j - 1 : Nat) : Int) = (y : Int) := by
  have hp := Nat.pow_pos (n := j) (show 0 < 2 by omega)
  have hp8 : 2 ^ j ≤ 2 ^ 7 := Nat.pow_le_pow_right (by omega) (by omega)
  obtain ⟨i, hi⟩ : ∃ i, 8 = j + i := ⟨8 - j, by omega⟩
  have e0 : Y % 2 ^ 8 = H * 2 ^ j % 2 ^ 8 := by rw [hY]; exact Nat.mod_mod_of_dvd _ ⟨2 ^ 56, by decide⟩
  have e2 : H * 2 ^ j % 2 ^ 8 = H % 2 ^ i * 2 ^ j := by rw [hi, Nat.pow_add, Nat.mul_comm (2 ^ j), Nat.mul_mod_mul_right]
  have hlt : H % 2 ^ i < 2 ^ i := Nat.mod_lt _ (Nat.pow_pos (by omega))
  have hle : (H % 2 ^ i + 1) * 2 ^ j ≤ 2 ^ i * 2 ^ j := Nat.mul_le_mul_right _ hlt
  have e3 : 2 ^ i * 2 ^ j = 2 ^ 8 := by rw [← Nat.pow_add, Nat.add_comm, ← hi]
  rw [e3, Nat.add_mul, Nat.one_mul] at hle
  have e4 : y = H % 2 ^ i * 2 ^ j + (2 ^ j - 1) := by
    rw [hy, Nat.add_mod, e2, Nat.mod_eq_of_lt (a := 2 ^ j - 1) (by omega), Nat.mod_eq_of_lt (by omega)]
  rw [show (Y : Int) % 256 = ((Y % 2 ^ 8 : Nat) : Int) by omega, u8_or_nat _ _ (by omega) (by omega), e0, e2, nat_join j _ _ (Nat.mul_mod_left _ _) (by omega), e4]

theorem enc_len {l : List Nat} (hl : ∀ c ∈ l, c < 256) {ys : List Int} {u : List Int} (h : tb l = unpackI ys ++ u) : 8 * ys.length + u.length ≤ 30 * l.length := by
  have h1 := congrArg List.length h
  rw [tb_len, List.length_append, unpackI_len] at h1
  have h2 := sumL_le l hl
  omega

set_option maxRecDepth 100000 in
set_option maxHeartbeats 1600000 in
theorem hf_Encode (s : ByteArray) (hs : s.size ≤ 1000) (w : World) :
    Calls Try.prog 10 #[.string s] w (GivesEnc (sb s) w) := by
  have hz1 := run_zero_is hf_zero_codes
  obtain ⟨i0, hi0, hzz0, hzz1, hzz2⟩ := info_parts u8_info
  have hsum := sumL_le (sb s) (sb_lt s)
  rw [sb_len] at hsum
  obtain ⟨c0, hc0⟩ : ∃ c, c = (sumL (sb s) + 7) / 8 := ⟨_, rfl⟩
  have hS := fun w => hf_Size s hs w
  simp only [← hc0] at hS
  have hcle : c0 ≤ 4000 := by omega
  have HS := hide hS
  have hmk := fun W => @run_make Try.prog W 28 5 i0 (.int .u8 0) Try.underlying28 hi0 hzz0 .i64 .i64 0 (c0 : Int) (by omega) (by omega) (by rw [hzz2]; omega) (by omega)
  rw [hzz1] at hmk
  simp only [Int.toNat_natCast, Nat.mul_one] at hmk
  have hs' : (s.size : Int) ≤ 1000 := by omega
  have hcle' : (c0 : Int) ≤ 4000 := by omega
  clear hS hc0 hsum hs hcle
  go_enter Try.func10, Try.ntmps10
  go_wp2_with fail
  refine (hf_codes _).mono ?_
  rintro e w1 ⟨rfl, hb1⟩
  have HB1 := hide hb1
  clear hb1
  go_wp2_with (first
    | (with_reducible refine wpList_store_new rfl 46 _ _ rfl codesV (codesA 0) 46 rfl rfl hf_size_codesV codesZ_size codesV_one ?_))
  have K1 := hide (BlkIs.new w1 46 codesV)
  have HB2 := hide (HB1.out.alloc HB1.out.size (.cells codesV 46))
  generalize (w1.alloc (.cells codesV 46)) = w2 at K1 HB2 ⊢
  obtain ⟨g, hg⟩ : ∃ g, g = w1.heap.size := ⟨_, rfl⟩
  rw [← hg] at K1 ⊢
  have HGw := hide (show w.heap.size ≤ g by rw [hg]; exact HB1.out.size)
  clear HB1 hg hz1
  refine (HS.out _).mono ?_
  rintro e w3 ⟨rfl, hb3⟩
  have K3 := hide (K1.out.keep hb3)
  have HB3 := hide (HB2.out.trans (hb3.mono HB2.out.size))
  clear hb3 HB2 K1
  go_wp2
  have M0 : (w3.alloc (.cells (madeCells #[Value.int IntKind.u8 0] c0) 5)).ownsRow w3.heap.size 5 1 (.slice (some ⟨w3.heap.size, 0, none⟩) 0 c0) ([] : List Int).length (u8s []) :=
    World.ownsRow_made w3 _ c0 (Nat.le_refl _) (by unfold maxLen; omega) (by rw [size_madeCells, Nat.mul_one])
  have K4 := hide (K3.out.alloc (.cells (madeCells #[Value.int IntKind.u8 0] c0) 5))
  have HB4 := hide (HB3.out.alloc HB3.out.size (.cells (madeCells #[Value.int IntKind.u8 0] c0) 5))
  have HB5 := hide (show w3.heap.size ≤ (w3.alloc (.cells (madeCells #[Value.int IntKind.u8 0] c0) 5)).heap.size by rw [World.size_alloc]; omega)
  have HM0 := hide M0
  have HG3 := hide K3.out.lt
  have HW3 := hide HB3.out.size
  have HCLE := hide hcle'
  clear M0 K3 HB3 hmk hcle'
  generalize (w3.alloc (.cells (madeCells #[Value.int IntKind.u8 0] c0) 5)) = w4 at K4 HB4 HM0 HB5 ⊢
  obtain ⟨B, hB⟩ : ∃ B, B = w3.heap.size := ⟨_, rfl⟩
  rw [← hB] at HM0 HG3 HB5 HW3 ⊢
  clear hB
  go_loopw [4, 5, 6, 15] (fun b h t i wr => ∃ (k H n : Nat) (ys : List Int), k ≤ s.size ∧ i = .int .i64 (k : Int) ∧ h = .int .u64 (H : Int) ∧ H < 18446744073709551616 ∧ t = .int .i64 (n : Int) ∧ n < 8 ∧
      wr.ownsRow B 5 1 b ys.length (u8s ys) ∧ (∀ x ∈ ys, 0 ≤ x ∧ x ≤ 255) ∧ tb ((sb s).take k) = unpackI ys ++ bitsOf H n ∧ BlkIs wr g 46 codesV ∧ Below w.heap.size w wr ∧ B ≤ wr.heap.size)
    (fun _ _ _ i _ => s.size - (intOf i).toNat)
  case atStart => exact ⟨0, 0, 0, [], by omega, rfl, rfl, by omega, rfl, by omega, HM0.out, by simp, rfl, K4.out, HB4.out, HB5.out⟩
  case round =>
    clear HM0 K4 HB4 HB5
    obtain ⟨k, H, n, ys, hk, rfl, rfl, hH, rfl, hn, hown, hys, htb, hg, hbel, hsz⟩ := hrel
    have HO := hide hown
    have HY := hide hys
    have HT := hide htb
    have HG := hide hg
    have HBEL := hide hbel
    have HSZ := hide hsz
    have HH := hide hH
    clear hown hys htb hg hbel hsz hH
    by_cases hlt : k < s.size
    · have hlt' : (k : Int) < (s.size : Int) := by omega
      have hc := s[k].toNat_lt
      have hts := tb_snoc ((sb s).take k) ((sb s).getD k 0)
      rw [← take_snoc' _ _ (by rw [sb_len]; exact hlt), sb_get s k hlt] at hts
      have hc1 : wr.cell? ⟨g, s[k].toNat * 2, none⟩ = some (.int .u32 (bitsL.getD s[k].toNat 0 : Nat)) := by
        rw [HG.out.cell, codesV, codesA_get _ _ (by omega), if_pos (by omega), if_pos (by omega), show s[k].toNat * 2 / 2 = s[k].toNat by omega]
      have hc2 : wr.cell? ⟨g, s[k].toNat * 2 + 1, none⟩ = some (.int .i64 (lensL.getD s[k].toNat 0 : Nat)) := by
        rw [HG.out.cell, codesV, codesA_get _ _ (by omega), if_pos (by omega), if_neg (by omega), show (s[k].toNat * 2 + 1) / 2 = s[k].toNat by omega]
      have hxl := bits_lt _ hc
      have hxb := bits_bd _ hc
      have ⟨l1, l2⟩ := lens_le _ hc
      rw [cd] at hts
      obtain ⟨x, hx⟩ : ∃ x, x = bitsL.getD s[k].toNat 0 := ⟨_, rfl⟩
      obtain ⟨m, hm⟩ : ∃ m, m = lensL.getD s[k].toNat 0 := ⟨_, rfl⟩
      rw [← hx] at hc1 hts hxl hxb
      rw [← hm] at hc2 hts hxl l1 l2
      have HTS := hide hts
      have HXL := hide hxl
      clear hts hx hm hxl
      have hor := hf_or H m x HXL.out (by omega)
      have hH2 : (H * 2 ^ m + x) % 2 ^ 64 < 18446744073709551616 := Nat.mod_lt _ (by decide)
      obtain ⟨G, hGG⟩ : ∃ G, G = (H * 2 ^ m + x) % 2 ^ 64 := ⟨_, rfl⟩
      rw [← hGG] at hor hH2
      have HTG : Hid (tb ((sb s).take (k + 1)) = unpackI ys ++ bitsOf G (n + m)) := by
        rw [HTS.out, HT.out, List.append_assoc, hGG, bitsOf_join H x n m 64 HXL.out (by omega)]; exact hide rfl
      have HTL := hide (show ((sb s).take (k + 1)).length ≤ 1000 by rw [List.length_take, sb_len]; omega)
      have HH2 := hide hH2
      clear hGG hH2
      go_wp2
      go_quiet (fail)
      go_wp2
      have HO1 := hide (HO.out.alloc (.cells #[.int .u32 (x : Int), .int .i64 (m : Int)] 45))
      have HG1 := hide (HG.out.alloc (.cells #[.int .u32 (x : Int), .int .i64 (m : Int)] 45))
      have HB1 := hide (below_drewN (HBEL.out.alloc (by have := HBEL.out.size; omega) (.cells #[.int .u32 (x : Int), .int .i64 (m : Int)] 45)) nq)
      have HS1 := hide (show B ≤ ((wr.alloc (.cells #[.int .u32 (x : Int), .int .i64 (m : Int)] 45)).drewN nq).heap.size by show B ≤ (wr.alloc _).heap.size; rw [World.size_alloc]; have := HSZ.out; omega)
      have HO2 : Hid (((wr.alloc (.cells #[.int .u32 (x : Int), .int .i64 (m : Int)] 45)).drewN nq).ownsRow B 5 1 u4 ys.length (u8s ys)) := HO1
      have HG2 : Hid (BlkIs ((wr.alloc (.cells #[.int .u32 (x : Int), .int .i64 (m : Int)] 45)).drewN nq) g 46 codesV) := HG1
      clear HO1 HG1 hc1 hc2 hor HO HG HBEL HSZ
      obtain ⟨g8, hg8⟩ : ∃ g8, g8 = wr.heap.size := ⟨_, rfl⟩
      generalize ((wr.alloc (.cells #[.int .u32 (x : Int), .int .i64 (m : Int)] 45)).drewN nq) = wa at HO2 HG2 HB1 HS1 ⊢
      rw [← hg8]
      clear hg8
      go_loopw [4, 6] (fun b t wr => ∃ (n : Nat) (ys : List Int), t = .int .i64 (n : Int) ∧ n < 38 ∧
          wr.ownsRow B 5 1 b ys.length (u8s ys) ∧ (∀ x ∈ ys, 0 ≤ x ∧ x ≤ 255) ∧ tb ((sb s).take (k + 1)) = unpackI ys ++ bitsOf G n ∧ BlkIs wr g 46 codesV ∧ Below w.heap.size w wr ∧ B ≤ wr.heap.size)
        (fun _ t _ => (intOf t).toNat)
      case atStart => exact ⟨n + m, ys, by go_num, by omega, HO2.out, HY.out, HTG.out, HG2.out, HB1.out, HS1.out⟩
      case round =>
        clear HO2 HG2 HB1 HS1 HY HTG HT HTS
        obtain ⟨n, ys, rfl, hn, hown, hys, htb, hg, hbel, hsz⟩ := hrel
        have hyl := enc_len (fun c hc => sb_lt s c (List.mem_of_mem_take hc)) htb
        rw [bitsOf_len] at hyl
        have HYL := hide (show (ys.length : Int) ≤ 4000 by have := HTL.out; omega)
        have HO := hide hown
        have HY := hide hys
        have HT := hide htb
        have HG := hide hg
        have HBEL := hide hbel
        have HSZ := hide hsz
        clear hown hys htb hg hbel hsz hyl
        by_cases h8 : 8 ≤ n
        · obtain ⟨n', hn'⟩ : ∃ n', n = n' + 8 := ⟨n - 8, by omega⟩
          subst hn'
          have h8' : (8 : Int) ≤ ((n' + 8 : Nat) : Int) := by omega
          have hsub : ((n' + 8 : Nat) : Int) - 8 = (n' : Int) := by omega
          go_wp2_with (at_builtin; refine wpList_append_own _ rfl (.tmp 39) (.tmp 44) 28 rfl B 5 i0 (.int .u8 0) 1 1 Try.underlying28 hi0 hzz0 hzz1 hzz2 rfl (by decide) u4 ys.length (u8s ys) rfl (HO.out.alloc _) ⟨wr.heap.size, 0, none⟩ 1 1 [_] rfl rfl (one_new _ _ _) (one_cell _ _) (by have := HYL.out; unfold maxLen; omega) (by have := HYL.out; omega) (by rw [World.size_alloc]; have := HSZ.out; omega) ?_; intro v1 w1 hown1 hg1 _; have HO1 := hide hown1; have HGR := hide hg1; clear hown1 hg1)
          have hO := HO1.out
          rw [← u8s_snoc] at hO
          have hbel1 := own_below' (HO.out.alloc _) (HBEL.out.alloc (by have := HBEL.out.size; omega) _) HW3.out (Nat.le_refl _) HGR.out
          have hgk : BlkIs w1 g 46 codesV := (HG.out.alloc _).grown HGR.out (fun e => by have := (HO.out.lt g e.symm).1; have := HG3.out; omega)
          have hsz1 : B ≤ w1.heap.size := by have := HGR.out.size; rw [World.size_alloc] at this; have := HSZ.out; omega
          go_roundw
          case rel =>
            refine ⟨n', ys ++ [(G : Int) / 2 ^ n' % 256], rfl, by omega, by simpa using hO, ?_, ?_, hgk, hbel1, hsz1⟩
            · intro x hx
              rcases List.mem_append.1 hx with hx | hx
              · exact HY.out x hx
              · simp at hx; omega
            · rw [HT.out, unpackI_snoc, List.append_assoc, Nat.add_comm n' 8, bitsOf_add 8 n']
              have e : ((G : Int) / 2 ^ n' % 256).toNat = (G / 2 ^ n') % 2 ^ 8 := by
                have : (G : Int) / 2 ^ n' % 256 = (((G / 2 ^ n') % 2 ^ 8 : Nat) : Int) := by simp
                rw [this]; rfl
              rw [e, bitsOf_mod _ 8 8 (Nat.le_refl _)]
          case measure => simp [intOf]; omega
        · have h8' : ¬ (8 : Int) ≤ (n : Int) := by omega
          go_wp2
          go_roundw
          case rel => exact ⟨k + 1, G, n, ys, by omega, by go_num, rfl, HH2.out, rfl, by omega, HO.out, HY.out, HT.out, HG.out, HBEL.out, HSZ.out⟩
          case measure => simp [intOf]; omega
    · have hge : ¬ (k : Int) < (s.size : Int) := by omega
      have HTK := hide (show (sb s).take k = sb s from List.take_of_length_le (by rw [sb_len]; omega))
      by_cases h0 : n = 0
      · have h0' : ¬ (0 : Int) < (n : Int) := by omega
        have H0 := hide h0
        clear h0
        go_wp2
        go_ret
        refine ⟨_, ys, rfl, ⟨HY.out, 0, by omega, ?_⟩, ?_, HBEL.out⟩
        · have := HT.out
          rw [HTK.out, H0.out] at this
          rw [this, bitsOf]; simp
        · exact own_base HO.out HW3.out
      · have h0' : (0 : Int) < (n : Int) := by omega
        obtain ⟨j, hj⟩ : ∃ j, n + j = 8 := ⟨8 - n, by omega⟩
        have hsub : 8 - (n : Int) = (j : Int) := by omega
        have hwr : IntKind.u64.wrap ((H : Int) * 2 ^ j) = ((H * 2 ^ j % 2 ^ 64 : Nat) : Int) := by
          rw [IntKind.wrap_u64]
          have : (((H * 2 ^ j : Nat)) : Int) = (H : Int) * 2 ^ j := by simp
          rw [← this]; omega
        have hj7 : j < 8 := by omega
        have HJ := hide hj
        have hwj : IntKind.i64.wrap (j : Int) = (j : Int) := IntWalk.i64_in _ (by omega)
        have hlow := hf_lowest j hj7
        obtain ⟨Y, hY⟩ : ∃ Y, Y = H * 2 ^ j % 2 ^ 64 := ⟨_, rfl⟩
        rw [← hY] at hwr
        have HYY := hide hY
        have HLOW := hide hlow
        have hyl := enc_len (fun c hc => sb_lt s c (List.mem_of_mem_take hc)) HT.out
        have HYL := hide (show (ys.length : Int) ≤ 4000 by rw [List.length_take, sb_len] at hyl; omega)
        clear hY hlow hj h0 hyl
        obtain ⟨y, hy⟩ : ∃ y : Nat, y = (H * 2 ^ j + (2 ^ j - 1)) % 2 ^ 8 := ⟨_, rfl⟩
        have hor := hf_last H Y y j hj7 HYY.out hy
        have hor' : bits .or .u8 (IntKind.u8.wrap (Y : Int)) ((2 ^ j - 1 : Nat) : Int) = (y : Int) := by rw [IntKind.wrap_u8]; exact hor
        have hjn : (2 ^ j - 1 : Nat) < 256 := by
          have hp8 : 2 ^ j ≤ 2 ^ 7 := Nat.pow_le_pow_right (by omega) (by omega)
          omega
        obtain ⟨z, hz⟩ : ∃ z : Nat, z = 2 ^ j - 1 := ⟨_, rfl⟩
        have HLOW' : Hid (∀ W, Calls Try.prog 20 #[.int .i64 (j : Nat)] W fun e w' => e = .returned (.int .u8 (z : Int)) ∧ W = w') := by rw [hz]; exact HLOW
        rw [← hz] at hor hor'
        have HYB := hide hy
        have hy8 : y < 256 := by rw [hy]; exact Nat.mod_lt _ (by decide)
        clear hy hz hjn HLOW HYY
        go_wp2_with fail
        go_region_held3 (fun _ => True) (trivial)
          (first
            | (go_at_call 20; refine (HLOW'.out _).mono ?_; rintro e w' ⟨rfl, rfl⟩)
            | (refine step_append_lies _ rfl (.tmp 49) (.tmp 59) 28 rfl B 5 i0 (.int .u8 0) 1 1 Try.underlying28 hi0 hzz0 hzz1 hzz2 rfl (by decide) u4 ys.length (u8s ys) (by rfl) ((HO.out.alloc _).drew) ⟨wr.heap.size, 0, none⟩ 1 1 [.int .u8 (y : Int)] (by rfl) (by rfl) (World.news_of_block (cs := #[.int .u8 (y : Int)]) (t := 5) (fr := (0, 0)) (heap_alloc_new wr _)) (by simp [Value.oneCell']) (by omega) (by have := HYL.out; unfold maxLen; omega) (by have := HYL.out; omega) (by simp; have := HSZ.out; omega) wr.heap.size.succ (by simp) ?_; intro gg cap w1 hown1 hgrow hat hlt'))
        rw [← u8s_snoc] at hown1
        have hbel1 : Below w.heap.size w w1 := own_below' (W := (wr.alloc (.cells #[.int .u8 (y : Int)] 5)).drew) ((HO.out.alloc _).drew) ((HBEL.out.alloc (by have := HBEL.out.size; omega) _).drew) HW3.out (Nat.le_refl _) hgrow
        have HB1 := hide hbel1
        have HO1 := hide hown1
        clear hown1 hbel1 hgrow hat hlt' hor hor' hwr hwj hsub
        go_wp2
        go_ret
        refine ⟨_, ys ++ [(y : Int)], rfl, ⟨?_, j, hj7, ?_⟩, ?_, HB1.out⟩
        · intro x hx
          rcases List.mem_append.1 hx with hx | hx
          · exact HY.out x hx
          · simp at hx; omega
        · rw [unpackI_snoc, ← HTK.out, HT.out, List.append_assoc]
          congr 1
          have hp := Nat.pow_pos (n := j) (show 0 < 2 by omega)
          rw [show ((y : Nat) : Int).toNat = y from rfl, HYB.out, ← HJ.out, bitsOf_join H (2 ^ j - 1) n j (n + j) (by omega) (Nat.le_refl _), bitsOf_ones]
        · have := own_base HO1.out HW3.out
          rw [show (ys ++ [(y : Int)]).length = ys.length + 1 by simp]
          exact this
end Go.Proofs.Ytjnjganmdbkpoaa
