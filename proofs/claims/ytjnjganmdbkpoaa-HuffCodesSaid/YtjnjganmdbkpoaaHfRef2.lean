/-
  Layer 2: the document's Size, bits, Bits.
-/
import Derived.Test.YtjnjganmdbkpoaaHfRefCode
namespace Go.Proofs.Ytjnjganmdbkpoaa
open Go.RowKit

set_option maxHeartbeats 400000 in
theorem rf_Size (s : ByteArray) (hs : (s.size : Int) ≤ 1000) (w : World) :
    Calls Try.prog 13 #[.string s] w fun e w' => e = .returned (.int .i64 (((sumL (sb s) + 7) / 8 : Nat) : Int)) ∧ w = w' := by
  go_enter Try.func13, Try.ntmps13
  go_wp2
  go_loop [3, 4] (fun t i => ∃ k : Nat, k ≤ s.size ∧ i = .int .i64 (k : Int) ∧ t = .int .i64 ((sumL ((sb s).take k) : Nat) : Int)) (fun _ i => s.size - (intOf i).toNat)
  case atStart => exact ⟨0, by omega, rfl, rfl⟩
  case round =>
    obtain ⟨k, hk, rfl, rfl⟩ := hrel
    have hle := sumL_le ((sb s).take k) (fun c hc => sb_lt s c (List.mem_of_mem_take hc))
    rw [List.length_take, sb_len] at hle
    have hle' : ((sumL ((sb s).take k) : Nat) : Int) ≤ 100000 := by omega
    by_cases hlt : k < s.size
    · have hlt' : (k : Int) < (s.size : Int) := by omega
      have hsn := sumL_snoc ((sb s).take k) ((sb s).getD k 0)
      rw [← take_snoc' _ _ (by rw [sb_len]; exact hlt), sb_get s k hlt] at hsn
      have hc := s[k].toNat_lt
      have hrl := rf_length _ hc
      have ⟨l1, l2⟩ := lens_le _ hc
      obtain ⟨n, hn⟩ : ∃ n, n = lensL.getD s[k].toNat 0 := ⟨_, rfl⟩
      rw [← hn] at hrl l1 l2 hsn
      obtain ⟨q, hq⟩ : ∃ q, q = sumL ((sb s).take k) := ⟨_, rfl⟩
      rw [← hq] at hle' hsn ⊢
      have hni : (n : Int) ≤ 30 := by omega
      have HSN := hide hsn
      have HRL := hide hrl
      clear hsn hn hq hrl hle l1 l2
      go_wp2_with (go_at_call 19; refine (HRL.out _).mono ?_; rintro e w' ⟨rfl, rfl⟩)
      go_round
      case rel => exact ⟨k + 1, by omega, by go_num, by rw [HSN.out]; go_num⟩
      case measure => simp [intOf]; omega
    · have hge : ¬ (k : Int) < (s.size : Int) := by omega
      have HT := hide (show (sb s).take k = sb s from List.take_of_length_le (by rw [sb_len]; omega))
      obtain ⟨q, hq⟩ : ∃ q, q = sumL ((sb s).take k) := ⟨_, rfl⟩
      rw [← hq] at hle' ⊢
      have HQ := hide hq
      clear hq hle
      go_wp2
      go_ret
      exact ⟨ret_num (a := ((q : Int) + 7) / 8) (by have := HQ.out; rw [HT.out] at this; omega), rfl⟩

/-- The document's bits: a slice of its own. -/
def GivesRow (B : Nat) (l : List Int) (w : World) (e : Ending) (w' : World) : Prop :=
  ∃ v, e = .returned v ∧ w'.ownsRow B 5 1 v l.length (u8s l) ∧ Below w.heap.size w w'

theorem bitsOf_bytes (v n : Nat) : ∀ x ∈ bitsOf v n, 0 ≤ x ∧ x ≤ 255 := fun x hx => by
  rcases bitsOf_two v n x hx with h | h <;> omega

theorem bitsOf_low (v n : Nat) : bitsOf v (n + 1) = bitsOf (v / 2) n ++ [((v % 2 : Nat) : Int)] := rfl

set_option maxHeartbeats 800000 in
theorem rf_bits (v n : Nat) (hv : (v : Int) ≤ 1073741824) (hn : (n : Int) ≤ 30) (w : World) :
    Calls Try.prog 31 #[.int .i64 (v : Nat), .int .i64 (n : Nat)] w (GivesRow w.heap.size (bitsOf v n) w) := by
  obtain ⟨i0, hi0, hz0, hz1, hz2⟩ := info_parts u8_info
  obtain ⟨B, hB⟩ : ∃ B, B = w.heap.size := ⟨_, rfl⟩
  have HB := hide hB
  rw [← hB]
  clear hB
  go_enter Try.func31, Try.ntmps31
  go_wp2
  go_loopw [0, 5, 6] (fun c o i wr => ∃ (k u : Nat), i = .int .i64 (k : Int) ∧ k ≤ n ∧ c = .int .i64 (u : Int) ∧ (u : Int) ≤ 1073741824 ∧ u = v / 2 ^ k ∧
      wr.ownsRow B 5 1 o (bitsOf v k).length (u8s (bitsOf v k)) ∧ Below w.heap.size w wr)
    (fun _ _ i _ => n - (intOf i).toNat)
  case atStart => exact ⟨0, v, rfl, by omega, rfl, hv, by simp, World.ownsRow_nil _ _ _ _, Below.refl _ _⟩
  case round =>
    obtain ⟨k, u, rfl, hk, rfl, hu, huv, hown, hbel⟩ := hrel
    have HU := hide huv
    have HO := hide hown
    have HBEL := hide hbel
    clear huv hown hbel
    by_cases hlt : k < n
    · have hlt' : (k : Int) < (n : Int) := by omega
      have hmod : (u : Int) % 2 % 256 = (u : Int) % 2 := by omega
      have hB1 := HBEL.out.size
      have M0 : (wr.alloc (.cells #[.int .u8 ((u : Int) % 2)] 5)).ownsRow B 5 1 (.slice (some ⟨wr.heap.size, 0, none⟩) 1 1) [((u : Int) % 2)].length (u8s [((u : Int) % 2)]) :=
        own_one wr B _ (by rw [HB.out]; exact hB1)
      have HM := hide M0
      obtain ⟨A3, c3, hu5⟩ := own_form HO.out
      subst hu5
      have hr := rb_of_own HO.out (bitsOf_bytes v k)
      have hRB : RB (wr.alloc (.cells #[.int .u8 ((u : Int) % 2)] 5)) A3 (bitsOf v k).length (bitsOf v k) := hr.1.below ((Below.refl _ _).alloc (Nat.le_refl _) _)
      have hnil : A3 = none → (bitsOf v k).length = 0 ∧ c3 = 0 := fun h => by
        subst h
        rcases HO.out.2 with ⟨he, hz⟩ | ⟨g, cap, cur, he, _⟩
        · injection he with e1 e2 e3; exact ⟨e2, e3⟩
        · injection he with e1; cases e1
      have HRB := hide hRB
      have HNIL := hide hnil
      have hlen := bitsOf_len v k
      have HLEN := hide hlen
      have HBB := hide (show B ≤ (wr.alloc (.cells #[.int .u8 ((u : Int) % 2)] 5)).heap.size by rw [World.size_alloc, HB.out]; omega)
      clear M0 hr hRB hnil hlen
      go_wp2_with (at_builtin; refine wpList_append_rb _ rfl (.tmp 15) (.tmp 16) 28 rfl B 5 i0 Try.underlying28 hi0 hz0 hz1 hz2 (.slice (some ⟨wr.heap.size, 0, none⟩) 1 1) [(u : Int) % 2] rfl HM.out A3 (bitsOf v k).length c3 (bitsOf v k) rfl HRB.out HNIL.out (by rw [HLEN.out]; simp; omega) HBB.out ?_; intro v3 w3 hown3 hg3; have HO3 := hide hown3; have HG3 := hide hg3; clear hown3 hg3)
      go_roundw
      case rel =>
        have e : bitsOf v (k + 1) = [(u : Int) % 2] ++ bitsOf v k := by
          rw [Nat.add_comm, bitsOf_add, ← HU.out]
          have : ((u % 2 : Nat) : Int) = (u : Int) % 2 := by omega
          simp [bitsOf, this]
        refine ⟨k + 1, u / 2, by go_num, by omega, by go_num, by omega, ?_, ?_, ?_⟩
        · rw [HU.out, Nat.pow_succ, Nat.div_div_eq_div_mul]
        · rw [e]; exact HO3.out
        · exact own_below' HM.out (HBEL.out.alloc HBEL.out.size _) (by rw [HB.out]; exact Nat.le_refl _) (Nat.le_refl _) HG3.out
      case measure => simp [intOf]; omega
    · have hge : ¬ (k : Int) < (n : Int) := by omega
      obtain rfl : k = n := by omega
      clear hlt
      go_wp2
      go_ret
      exact ⟨_, rfl, HO.out, HBEL.out⟩

/-- A slice's length. -/
def slen : Value → Nat
  | .slice _ n _ => n
  | _ => 0

/-- What the document's Bits answers. -/
def padN (n : Nat) : Nat := (8 - n % 8) % 8
def bitsP (l : List Nat) : List Int := tb l ++ List.replicate (padN (tb l).length) 1

theorem tb_bytes (l : List Nat) : ∀ x ∈ tb l, x = 0 ∨ x = 1 := by
  induction l with
  | nil => simp [tb]
  | cons c l ih =>
    intro x hx
    rw [tb_cons, List.mem_append] at hx
    rcases hx with hx | hx
    · exact bitsOf_two _ _ x hx
    · exact ih x hx

set_option maxHeartbeats 1600000 in
theorem rf_Bits (s : ByteArray) (hs : (s.size : Int) ≤ 1000) (w : World) :
    Calls Try.prog 21 #[.string s] w (GivesRow w.heap.size (bitsP (sb s)) w) := by
  obtain ⟨i0, hi0, hz0, hz1, hz2⟩ := info_parts u8_info
  obtain ⟨B, hB⟩ : ∃ B, B = w.heap.size := ⟨_, rfl⟩
  have HB := hide hB
  rw [← hB]
  clear hB
  go_enter Try.func21, Try.ntmps21
  go_wp2
  go_loopw [3, 4, 5, 6, 13] (fun o i aa bb cc wr => ∃ (k : Nat), i = .int .i64 (k : Int) ∧ k ≤ s.size ∧
      wr.ownsRow B 5 1 o (tb ((sb s).take k)).length (u8s (tb ((sb s).take k))) ∧ Below w.heap.size w wr)
    (fun _ i _ _ _ _ => s.size - (intOf i).toNat)
  case atStart => exact ⟨0, rfl, by omega, World.ownsRow_nil _ _ _ _, Below.refl _ _⟩
  case round =>
    obtain ⟨k, rfl, hk, hown, hbel⟩ := hrel
    have HO := hide hown
    have HBEL := hide hbel
    have hle := sumL_le ((sb s).take k) (fun c hc => sb_lt s c (List.mem_of_mem_take hc))
    rw [List.length_take, sb_len, ← tb_len] at hle
    have HLE := hide (show (tb ((sb s).take k)).length ≤ 30000 by omega)
    clear hown hbel hle
    by_cases hlt : k < s.size
    · have hlt' : (k : Int) < (s.size : Int) := by omega
      have hts := tb_snoc ((sb s).take k) ((sb s).getD k 0)
      rw [← take_snoc' _ _ (by rw [sb_len]; exact hlt), sb_get s k hlt] at hts
      have hc := s[k].toNat_lt
      have hrc := rf_Code _ hc
      have hbd := bits_bd _ hc
      have ⟨l1, l2⟩ := lens_le _ hc
      have hrb := fun w => rf_bits (bitsL.getD s[k].toNat 0) (lensL.getD s[k].toNat 0) (by omega) (by omega) w
      have HTS := hide hts
      have HRC := hide hrc
      have HRB := hide hrb
      have HL2 := hide l2
      obtain ⟨m, hm⟩ : ∃ m, m = lensL.getD s[k].toNat 0 := ⟨_, rfl⟩
      obtain ⟨x, hx⟩ : ∃ x, x = bitsL.getD s[k].toNat 0 := ⟨_, rfl⟩
      rw [← hm, ← hx] at HRC HRB
      have hcd : cd s[k].toNat = bitsOf x m := by rw [hm, hx]; rfl
      rw [hcd] at HTS
      rw [← hm] at HL2
      clear hts hrc hrb hbd l1 l2 hm hx hcd
      go_wp2_with (go_at_call 9; refine (HRC.out _).mono ?_; rintro e w' ⟨rfl, rfl⟩)
      refine (HRB.out _).mono ?_
      rintro e w2 ⟨v2, rfl, hown2, hb2⟩
      obtain ⟨A2, c2, rfl⟩ := own_form hown2
      have hr2 := rb_of_own hown2 (bitsOf_bytes x m)
      have hnil : A2 = none → (bitsOf x m).length = 0 ∧ c2 = 0 := fun h => by
        subst h
        rcases hown2.2 with ⟨he, hz⟩ | ⟨g, cap, cur, he, _⟩
        · injection he with e1 e2 e3; exact ⟨e2, e3⟩
        · injection he with e1; cases e1
      have HR2 := hide hr2
      have HNIL := hide hnil
      have HO2 := hide (own_keep HO.out hb2)
      have HB2 := hide hb2
      have HLEN := hide (bitsOf_len x m)
      have HBW := hide (show B ≤ w2.heap.size by have := hb2.size; have := HBEL.out.size; rw [HB.out]; omega)
      clear hown2 hr2 hnil hb2
      go_wp2_with (at_builtin; refine wpList_append_rb _ rfl (.tmp 20) (.tmp 23) 28 rfl B 5 i0 Try.underlying28 hi0 hz0 hz1 hz2 u3 (tb ((sb s).take k)) rfl HO2.out A2 (bitsOf x m).length c2 (bitsOf x m) rfl HR2.out.1 HNIL.out (by have := HLEN.out; have := HLE.out; have := HL2.out; omega) HBW.out ?_; intro v3 w3 hown3 hg3; have HO3 := hide hown3; have HG3 := hide hg3; clear hown3 hg3)
      go_roundw
      case rel =>
        refine ⟨k + 1, by go_num, by omega, ?_, ?_⟩
        · rw [HTS.out]; exact HO3.out
        · exact own_below' HO2.out (HBEL.out.trans (HB2.out.mono HBEL.out.size)) (by rw [HB.out]; exact Nat.le_refl _) (Nat.le_refl _) HG3.out
      case measure => simp [intOf]; omega
    · have hge : ¬ (k : Int) < (s.size : Int) := by omega
      have HT := hide (show (sb s).take k = sb s from List.take_of_length_le (by rw [sb_len]; omega))
      clear hlt
      go_wp2
      obtain ⟨wo, hwo⟩ : ∃ wo : World, wo = wr := ⟨_, rfl⟩
      subst hwo
      obtain ⟨L, hL⟩ : ∃ L, L = tb (sb s) := ⟨_, rfl⟩
      have HL := hide hL
      have HO0 : Hid (wo.ownsRow B 5 1 u3 L.length (u8s L)) := by
        have := HO.out; rw [HT.out, ← hL] at this; exact this
      have HLN : Hid (L.length ≤ 30000) := by
        have := HLE.out; rw [HT.out, ← hL] at this; exact this
      have hbp : bitsP (sb s) = L ++ List.replicate (padN L.length) 1 := by rw [hL]; rfl
      clear hL HO HLE HT
      obtain ⟨A0, c0, rfl⟩ := own_form HO0.out
      obtain ⟨T, hT⟩ : ∃ T, T = L.length := ⟨_, rfl⟩
      have HTT := hide hT
      have hpad : padN L.length = padN T := by rw [hT]
      obtain ⟨p, hp⟩ : ∃ p, p = padN T := ⟨_, rfl⟩
      rw [hpad, ← hp] at hbp
      have HBP := hide hbp
      have hp7 : p < 8 := by rw [hp, padN]; omega
      have hpm : ∀ j, j ≤ p → ((T + j) % 8 = 0 ↔ j = p) := by
        intro j hj; rw [hp, padN] at *; omega
      have HP := hide hpm
      have hTi : (T : Int) ≤ 30000 := by rw [hT]; have := HLN.out; omega
      clear hp hpad hpm hbp
      have HO1 : Hid (wo.ownsRow B 5 1 (.slice A0 T c0) (L ++ List.replicate 0 1).length (u8s (L ++ List.replicate 0 1))) := by
        rw [hT]; simpa using HO0
      rw [← hT]
      clear hT HO0
      go_loopw [3] (fun o wr => ∃ (j : Nat) (A : Option Addr) (c : Nat), o = .slice A (T + j) c ∧ j ≤ p ∧
          wr.ownsRow B 5 1 (.slice A (T + j) c) (L ++ List.replicate j 1).length (u8s (L ++ List.replicate j 1)) ∧ Below w.heap.size w wr)
        (fun o _ => T + p - slen o)
      case atStart => exact ⟨0, A0, c0, rfl, by omega, HO1.out, HBEL.out⟩
      case round =>
        clear HO1 HBEL
        obtain ⟨j, A, c, rfl, hj, hown, hbel⟩ := hrel
        have HO := hide hown
        have HBEL := hide hbel
        have hlen : (L ++ List.replicate j (1 : Int)).length = T + j := by rw [List.length_append, List.length_replicate, HTT.out]
        have hTj : ((T + j : Nat) : Int) ≤ 30100 := by omega
        obtain ⟨N, hN⟩ : ∃ N, N = T + j := ⟨_, rfl⟩
        have hm0 := HP.out j hj
        rw [← hN] at hlen HO hTj hm0 ⊢
        have HNN := hide hN
        have HLEN := hide hlen
        have hpj : T + p - N < T + p - N + 1 := by omega
        clear hown hbel hlen hTi hpj
        by_cases hjp : j = p
        · have hm : N % 8 = 0 := hm0.2 hjp
          have hmi : ((N : Int) % 8 != 0) = false := by simp; omega
          have HJ := hide hjp
          clear hjp hm hm0 hN
          go_wp2
          go_ret
          refine ⟨_, rfl, ?_, HBEL.out⟩
          have e := HBP.out
          rw [← HJ.out] at e
          rw [e, HLEN.out]
          have := HO.out
          rw [HLEN.out] at this
          exact this
        · have hm : ¬ N % 8 = 0 := fun h => hjp (hm0.1 h)
          have hmi : ((N : Int) % 8 != 0) = true := by simp; omega
          have HBW := hide (show B ≤ (wr.alloc (.cells #[.int .u8 1] 5)).heap.size by rw [World.size_alloc, HB.out]; have := HBEL.out.size; omega)
          have HTI := hide hTj
          clear hm hm0 hN
          go_wp2_with (at_builtin; refine wpList_append_own _ rfl (.tmp 29) (.tmp 30) 28 rfl B 5 i0 (.int .u8 0) 1 1 Try.underlying28 hi0 hz0 hz1 hz2 rfl (by decide) (.slice A N c) (L ++ List.replicate j 1).length (u8s (L ++ List.replicate j 1)) rfl (HO.out.alloc _) ⟨wr.heap.size, 0, none⟩ 1 1 [.int .u8 1] rfl rfl (one_new _ _ _) (one_cell _ _) (by rw [HLEN.out]; have := HTI.out; unfold maxLen; omega) (by rw [HLEN.out]; have := HTI.out; omega) HBW.out ?_; intro v3 w3 hown3 hg3 _; have HO3 := hide hown3; have HG3 := hide hg3; clear hown3 hg3)
          have hO3 := HO3.out
          rw [← u8s_snoc] at hO3
          have hxs : (L ++ List.replicate j (1 : Int)) ++ [1] = L ++ List.replicate (j + 1) 1 := by rw [List.append_assoc, List.replicate_succ']
          have hl3 : (L ++ List.replicate j (1 : Int)).length + 1 = (L ++ List.replicate (j + 1) (1 : Int)).length := by simp; omega
          rw [hxs, hl3] at hO3
          have hl4 : (L ++ List.replicate (j + 1) (1 : Int)).length = T + (j + 1) := by rw [← hl3, HLEN.out, HNN.out]; omega
          obtain ⟨A3, c3, rfl⟩ := own_form hO3
          have HO4 := hide hO3
          have HL4 := hide hl4
          clear hO3 hxs hl3 hl4
          go_roundw
          case rel =>
            refine ⟨j + 1, A3, c3, by rw [HL4.out], by omega, ?_, ?_⟩
            · have := HO4.out
              rw [HL4.out] at this
              rw [HL4.out]; exact this
            · exact own_below' (HO.out.alloc _) (HBEL.out.alloc HBEL.out.size _) (by rw [HB.out]; exact Nat.le_refl _) (Nat.le_refl _) HG3.out
          case measure =>
            have h1 := HL4.out
            have h2 := HNN.out
            show T + p - (L ++ List.replicate (j + 1) (1 : Int)).length < T + p - N
            omega
end Go.Proofs.Ytjnjganmdbkpoaa
