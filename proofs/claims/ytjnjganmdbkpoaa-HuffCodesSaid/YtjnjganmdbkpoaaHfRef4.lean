/-
  Layer 2: the document's unpack and find.
-/
import Derived.Test.YtjnjganmdbkpoaaHfRef3
namespace Go.Proofs.Ytjnjganmdbkpoaa
open Go.RowKit

theorem i64_info : (Try.prog.info? 3).map (fun i => (i.zero, i.size, i.bytes)) = some (some (.int .i64 0), 1, 8) := by kernel_rfl
def i64s (l : List Int) : List Value := l.map (Value.int .i64)
theorem i64s_snoc (l : List Int) (x : Int) : i64s (l ++ [x]) = i64s l ++ [.int .i64 x] := by simp [i64s]
def GivesInts (l : List Int) (w : World) (e : Ending) (w' : World) : Prop :=
  ∃ v, e = .returned v ∧ w'.ownsRow w.heap.size 3 1 v l.length (i64s l) ∧ Below w.heap.size w w'

theorem pow_half (j : Nat) (h : j < 8) : 128 / 2 ^ j = 2 ^ (7 - j) := by
  match j, h with
  | 0, _ | 1, _ | 2, _ | 3, _ | 4, _ | 5, _ | 6, _ | 7, _ => rfl

set_option maxRecDepth 100000 in
set_option maxHeartbeats 1600000 in
theorem rf_unpack (A : Option Addr) (n cap : Nat) (xs : List Int) (w : World) (hr : RB w A n xs) (hn : (n : Int) ≤ 1000) :
    Calls Try.prog 27 #[.slice A n cap] w (GivesInts (unpackI xs) w) := by
  obtain ⟨i0, hi0, hz0, hz1, hz2⟩ := info_parts i64_info
  obtain ⟨B, hB⟩ : ∃ B, B = w.heap.size := ⟨_, rfl⟩
  have HB := hide hB
  have HR := hide hr
  clear hB hr
  go_enter Try.func27, Try.ntmps27
  go_wp2
  go_loopw [3, 4, 5] (fun o i kk wr => ∃ (k : Nat), i = .int .i64 (k : Int) ∧ k ≤ n ∧ wr.ownsRow B 3 1 o (unpackI (xs.take k)).length (i64s (unpackI (xs.take k))) ∧ Below w.heap.size w wr)
    (fun _ i _ _ => n - (intOf i).toNat)
  case atStart => exact ⟨0, rfl, by omega, World.ownsRow_nil _ _ _ _, Below.refl _ _⟩
  case round =>
    obtain ⟨k, rfl, hk, hown, hbel⟩ := hrel
    have HO := hide hown
    have HBEL := hide hbel
    clear hown hbel
    by_cases hlt : k < n
    · have hlt' : (k : Int) < (n : Int) := by omega
      have hx := HR.out.2.2 k
      obtain ⟨x, hxx⟩ : ∃ x : Nat, xs.getD k 0 = (x : Int) := ⟨(xs.getD k 0).toNat, by omega⟩
      have HX := hide hxx
      have hx8 : (x : Int) ≤ 255 := by omega
      clear hxx hx
      go_wp2
      have HO0 : Hid (wr.ownsRow B 3 1 u3 (unpackI (xs.take k) ++ bitsOf (x / 2 ^ 8) 0).length (i64s (unpackI (xs.take k) ++ bitsOf (x / 2 ^ 8) 0))) := by
        simpa [bitsOf] using HO
      go_loopw [3, 5] (fun o kk wr => ∃ (j K : Nat), kk = .int .i64 (K : Int) ∧ K = 128 / 2 ^ j ∧ j ≤ 8 ∧ wr.ownsRow B 3 1 o (unpackI (xs.take k) ++ bitsOf (x / 2 ^ (8 - j)) j).length (i64s (unpackI (xs.take k) ++ bitsOf (x / 2 ^ (8 - j)) j)) ∧ Below w.heap.size w wr)
        (fun _ kk _ => (intOf kk).toNat)
      case atStart => exact ⟨0, 128, rfl, rfl, by omega, HO0.out, HBEL.out⟩
      case round =>
        clear HO HO0 HBEL
        obtain ⟨j, K, rfl, hK, hj, hown, hbel⟩ := hrel
        have HO := hide hown
        have HBEL := hide hbel
        have HK := hide hK
        clear hown hbel
        by_cases hj8 : j < 8
        · rw [pow_half j hj8] at hK
          have hK0 : 0 < K := by rw [hK]; exact Nat.pow_pos (by omega)
          have hKi : (0 : Int) < (K : Int) := by omega
          have hK128 : (K : Int) ≤ 128 := by
            have : 2 ^ (7 - j) ≤ 2 ^ 7 := Nat.pow_le_pow_right (by omega) (by omega)
            omega
          have hrw := HR.out.below HBEL.out
          obtain ⟨b, off, hAe, hbl, hcell⟩ := hrw.2.1 (by omega)
          have hc := hcell k hlt
          rw [HX.out] at hc
          obtain ⟨D, hD⟩ : ∃ D, D = x / 2 ^ (7 - j) := ⟨_, rfl⟩
          have hdiv : (x : Int) / (K : Int) = (D : Int) := by rw [hK, hD]; simp
          have hDi : (D : Int) ≤ 255 := by have := Nat.div_le_self x (2 ^ (7 - j)); omega
          have hbit : (D : Int) % 2 = ((x / 2 ^ (7 - j) % 2 : Nat) : Int) := by rw [hD]; simp
          have hnext : bitsOf (x / 2 ^ (8 - (j + 1))) (j + 1) = bitsOf (x / 2 ^ (8 - j)) j ++ [((x / 2 ^ (7 - j) % 2 : Nat) : Int)] := by
            rw [show 8 - (j + 1) = 7 - j by omega, bitsOf, Nat.div_div_eq_div_mul, ← Nat.pow_succ, show (7 - j).succ = 8 - j by omega]
          have HNEXT := hide hnext
          have hhalf : K / 2 = 128 / 2 ^ (j + 1) := by rw [HK.out, Nat.pow_succ, Nat.div_div_eq_div_mul]
          have HHALF := hide hhalf
          have HLEN := hide (show (unpackI (xs.take k) ++ bitsOf (x / 2 ^ (8 - j)) j).length ≤ 10000 by
            rw [List.length_append, unpackI_len, bitsOf_len, List.length_take]; omega)
          have HBW := hide (show B ≤ wr.heap.size by rw [HB.out]; exact HBEL.out.size)
          obtain ⟨z, hz⟩ : ∃ z : Int, z = ((x / 2 ^ (7 - j) % 2 : Nat) : Int) := ⟨_, rfl⟩
          rw [← hz] at hbit
          have HZ := hide hz
          obtain ⟨Q, hQ⟩ : ∃ Q, Q = unpackI (xs.take k) ++ bitsOf (x / 2 ^ (8 - j)) j := ⟨_, rfl⟩
          rw [← hQ] at HO HLEN
          have HQ := hide hQ
          subst hAe
          clear hrw hcell hnext hhalf hK hz hQ hD
          go_wp2_with (at_builtin; refine wpList_append_own _ rfl (.tmp 16) (.tmp 25) 75 rfl B 3 i0 (.int .i64 0) 1 8 Try.underlying75 hi0 hz0 hz1 hz2 rfl (by decide) u3 Q.length (i64s Q) rfl (HO.out.alloc _) ⟨wr.heap.size, 0, none⟩ 1 1 [_] rfl rfl (one_new _ _ _) (one_cell _ _) (by have := HLEN.out; unfold maxLen; omega) (by have := HLEN.out; omega) (by rw [World.size_alloc]; have := HBW.out; omega) ?_; intro v3 w3 hown3 hg3 _; have HO3 := hide hown3; have HG3 := hide hg3; clear hown3 hg3)
          have hO3 := HO3.out
          rw [← i64s_snoc] at hO3
          have HO4 := hide hO3
          clear hO3
          go_roundw
          case rel =>
            refine ⟨j + 1, K / 2, by go_num, HHALF.out, by omega, ?_, own_below' (HO.out.alloc _) (HBEL.out.alloc HBEL.out.size _) (by rw [HB.out]; exact Nat.le_refl _) (Nat.le_refl _) HG3.out⟩
            have e : unpackI (xs.take k) ++ bitsOf (x / 2 ^ (8 - (j + 1))) (j + 1) = Q ++ [z] := by rw [HNEXT.out, HQ.out, HZ.out, List.append_assoc]
            rw [e]
            simpa using HO4.out
          case measure => simp [intOf] <;> omega
        · have hj' : j = 8 := by omega
          have hK0 : K = 0 := by rw [hK, hj']
          have hKi : ¬ (0 : Int) < (K : Int) := by omega
          have HJ := hide hj'
          clear hj' hK hK0 hj8
          go_wp2
          go_roundw
          case rel =>
            refine ⟨k + 1, by go_num, by omega, ?_, HBEL.out⟩
            have := HO.out
            rw [HJ.out, show 8 - 8 = 0 from rfl, Nat.pow_zero, Nat.div_one] at this
            rw [unpackI_take xs k (by rw [HR.out.1]; exact hlt), HX.out]
            exact this
          case measure => simp [intOf] <;> omega
    · have hge : ¬ (k : Int) < (n : Int) := by omega
      have HT := hide (show xs.take k = xs from List.take_of_length_le (by rw [HR.out.1]; omega))
      clear hlt
      go_wp2
      go_ret
      have := HO.out
      rw [HT.out, HB.out] at this
      exact ⟨_, rfl, this, HBEL.out⟩

/-- What find answers: the byte whose code stands at the beginning, or none. -/
def Finds (b : List Int) (w : World) (e : Ending) (w' : World) : Prop :=
  w = w' ∧ ((∃ c, c < 256 ∧ cd c <+: b ∧ e = .returned (.tuple #[.int .u8 (c : Nat), .int .i64 (lensL.getD c 0 : Nat)])) ∨ (NoCode b ∧ e = .returned (.tuple #[.int .u8 0, .int .i64 0])))

theorem hit_iff {b : List Int} {c H n : Nat} (hc : c < 256) (hl : lensL.getD c 0 = n) (hH : H < 2 ^ n) (hb : bitsOf H n = b.take n) : cd c <+: b ↔ bitsL.getD c 0 = H := by
  have hx := bits_lt c hc
  rw [hl] at hx
  constructor
  · intro h
    have h1 := List.prefix_iff_eq_take.1 h
    rw [cd_len, hl, ← hb, cd, hl] at h1
    exact bitsOf_inj _ _ n hx hH h1
  · intro h
    rw [cd, hl, h, hb]
    exact List.take_prefix _ _

set_option maxRecDepth 100000 in
set_option maxHeartbeats 3200000 in
theorem rf_find (A : Option Addr) (N cap : Nat) (b : List Int) (w : World) (hr : RL .i64 w A N b) (h2 : ∀ x ∈ b, x = 0 ∨ x = 1) (hN : (N : Int) ≤ 100000) :
    Calls Try.prog 28 #[.slice A N cap] w (Finds b w) := by
  obtain ⟨E, hE⟩ : ∃ E, E = stE := ⟨_, rfl⟩
  have HE := hide hE
  have HR := hide hr
  have H2 := hide h2
  have HLN := hide hr.1
  clear hE hr h2
  go_enter Try.func28, Try.ntmps28
  go_wp2
  go_loop [4, 5, 6, 7, 8, 9] (fun co at_ hd fi nn xx => ∃ n H : Nat, n ≤ 30 ∧ n ≤ N ∧ nn = .int .i64 ((n : Int) + 1) ∧ hd = .int .i64 (H : Int) ∧ H < 2 ^ n ∧ bitsOf H n = b.take n ∧ (∀ c, c < 256 → lensL.getD c 0 ≤ n → ¬ cd c <+: b) ∧
      co = .int .i64 ((E (n * 256)).1 : Nat) ∧ at_ = .int .i64 ((E (n * 256)).2.1 : Nat) ∧ fi = .bool (E (n * 256)).2.2)
    (fun _ _ _ _ nn _ => 32 - (intOf nn).toNat)
  case atStart => exact ⟨0, 0, by omega, by omega, rfl, rfl, by omega, by simp [bitsOf], fun c hc h => by have := lens_le c hc; omega, by rw [HE.out]; rfl, by rw [HE.out]; rfl, by rw [HE.out]; rfl⟩
  case round =>
    obtain ⟨n, H, hn, hnN, rfl, rfl, hH, hbt, hno, rfl, rfl, rfl⟩ := hrel
    have HH := hide hH
    have HBT := hide hbt
    have HNO := hide hno
    have hHb : (H : Int) < 1073741825 := by
      have : 2 ^ n ≤ 2 ^ 30 := Nat.pow_le_pow_right (by omega) hn
      omega
    clear hH hbt hno
    by_cases hend : n = 30 ∨ n = N
    · have hnc : NoCode b := by
        intro c hc h
        by_cases hl : lensL.getD c 0 ≤ n
        · exact HNO.out c hc hl h
        · have h1 := h.length_le
          rw [cd_len, HLN.out] at h1
          have := lens_le c hc
          omega
      have HNC := hide hnc
      clear hnc
      by_cases h30 : n = 30
      · have g1 : decide ((n : Int) + 1 ≤ 30) = false := by simp; omega
        have g1' : ¬ (n : Int) + 1 ≤ 30 := by omega
        clear hend h30
        go_wp2
        go_ret2
        exact ⟨rfl, .inr ⟨HNC.out, rfl⟩⟩
      · have g1 : (n : Int) + 1 ≤ 30 := by omega
        have g2 : ¬ (n : Int) + 1 ≤ (N : Int) := by omega
        clear hend h30
        go_wp2
        go_ret2
        exact ⟨rfl, .inr ⟨HNC.out, rfl⟩⟩
    · have hn30 : n < 30 := by omega
      have hnNlt : n < N := by omega
      have g1 : (n : Int) + 1 ≤ 30 := by omega
      have g2 : (n : Int) + 1 ≤ (N : Int) := by omega
      obtain ⟨ab, off, hAe, hbl, hcell⟩ := HR.out.2 (by omega)
      have hc := hcell n hnNlt
      have hnl : n < b.length := by rw [HLN.out]; exact hnNlt
      have hb2 := H2.out (b.getD n 0) (by rw [List.getD, List.getElem?_eq_getElem hnl]; exact List.getElem_mem hnl)
      obtain ⟨z, hz⟩ : ∃ z : Nat, b.getD n 0 = (z : Int) := ⟨(b.getD n 0).toNat, by rcases hb2 with h | h <;> omega⟩
      have hzb : z < 2 := by rcases hb2 with h | h <;> omega
      rw [hz] at hc
      have hnew : bitsOf (2 * H + z) (n + 1) = b.take (n + 1) := by
        rw [bitsOf, show (2 * H + z) / 2 = H by omega, show (2 * H + z) % 2 = z by omega, HBT.out, List.take_succ_eq_append_getElem hnl]
        congr 1
        rw [← hz, List.getD, List.getElem?_eq_getElem hnl]
        rfl
      have HNEW := hide hnew
      have HHb := hide (show 2 * H + z < 2 ^ (n + 1) by have := HH.out; rw [Nat.pow_succ]; omega)
      have hlt1 : (n : Int) < (N : Int) := by omega
      have hsub : (n : Int) + 1 - 1 = (n : Int) := by omega
      subst hAe
      clear hcell hb2 hz hnew hend hbl
      go_wp2
      obtain ⟨G, hG⟩ : ∃ G, G = 2 * H + z := ⟨_, rfl⟩
      have hGi : 2 * (H : Int) + (z : Int) = (G : Int) := by omega
      rw [← hG] at HNEW HHb
      rw [hGi]
      have hGb : (G : Int) < 3000000000 := by omega
      have HNO0 : Hid (∀ c, c < 256 → lensL.getD c 0 ≤ n ∨ (lensL.getD c 0 = n + 1 ∧ c < 0) → ¬ cd c <+: b) := hide (fun c hc h => HNO.out c hc (by omega))
      clear hG hGi hc hHb
      go_loop [4, 5, 7, 9] (fun co at_ fi xx => ∃ x : Nat, x ≤ 256 ∧ xx = .int .i64 (x : Int) ∧ co = .int .i64 ((E (n * 256 + x)).1 : Nat) ∧ at_ = .int .i64 ((E (n * 256 + x)).2.1 : Nat) ∧ fi = .bool (E (n * 256 + x)).2.2 ∧
          (∀ c, c < 256 → lensL.getD c 0 ≤ n ∨ (lensL.getD c 0 = n + 1 ∧ c < x) → ¬ cd c <+: b))
        (fun _ _ _ xx => 256 - (intOf xx).toNat)
      case atStart => exact ⟨0, by omega, rfl, rfl, rfl, rfl, HNO0.out⟩
      case round =>
        clear HNO HNO0 HH HBT
        obtain ⟨x, hx, rfl, rfl, rfl, rfl, hno⟩ := hrel
        have HNO := hide hno
        clear hno
        by_cases h256 : x < 256
        · have hx256 : (x : Int) < 256 := by omega
          have hs := stE_ok n x hn30 h256
          rw [← HE.out] at hs
          obtain ⟨s1, s2, s3, s4⟩ := hs
          obtain ⟨y, hy⟩ : ∃ y, y = lensL.getD x 0 := ⟨_, rfl⟩
          have hrl := rf_length x h256
          rw [← hy] at hrl
          have HY := hide hy
          have HRL := hide hrl
          obtain ⟨co, at_, fi, hst⟩ : ∃ co at_, ∃ fi : Bool, E (n * 256 + x) = (co, at_, fi) := ⟨_, _, _, rfl⟩
          rw [hst] at s1 s2 s3 s4 ⊢
          simp only [] at s1 s2 s3 s4 ⊢
          by_cases hyn : y = n + 1
          · obtain ⟨s5, s6⟩ := s3 (by rw [← hy]; exact hyn)
            have HN := hide s5
            have hye : ((y : Int) != (n : Int) + 1) = false := by simp; omega
            obtain ⟨C0, hC0⟩ : ∃ C0, C0 = if fi then co else co + 1 := ⟨_, rfl⟩
            rw [← hC0] at s6
            have hbd : ∀ j, at_ ≤ j → j ≤ n + 1 → C0 * 2 ^ (j - at_) < 1073741824 := by
              intro j h1 h2
              have h3 : 2 ^ (j - at_) ≤ 2 ^ (n + 1 - at_) := Nat.pow_le_pow_right (by omega) (by omega)
              have h4 := Nat.mul_le_mul_left C0 h3
              have h5 := bits_bd x h256
              omega
            have HBD := hide hbd
            have HS6 := hide s6
            have s1' : (at_ : Int) ≤ (n : Int) + 1 := by omega
            have s2' : (co : Int) < 1073741824 := by omega
            have s2'' : (0 : Int) ≤ (co : Int) := by omega
            have hC0' : (C0 : Int) = if fi then (co : Int) else (co : Int) + 1 := by rw [hC0]; split <;> simp
            have HC0 := hide hC0'
            have HS1 := hide s1
            have HYN := hide hyn
            have hiff := hit_iff (b := b) h256 (by rw [← hy]; exact hyn) HHb.out HNEW.out
            have HIFF := hide hiff
            clear s1 s2 s3 s4 s5 s6 hy hst hC0 hC0' hbd hyn hrl hiff
            cases fi
            all_goals
              have hc0 := HC0.out
              simp only [if_true, if_false, Bool.false_eq_true] at hc0
              have HC00 := hide hc0
              clear HC0 hc0
              go_wp2_with (go_at_call 19; refine (HRL.out _).mono ?_; rintro e w' ⟨rfl, rfl⟩)
              go_loop [4, 5] (fun co a => ∃ j : Nat, at_ ≤ j ∧ j ≤ n + 1 ∧ a = .int .i64 (j : Int) ∧ co = .int .i64 ((C0 * 2 ^ (j - at_) : Nat) : Int)) (fun _ a => 31 - (intOf a).toNat)
              case atStart => exact ⟨at_, by omega, HS1.out, rfl, by rw [Nat.sub_self, Nat.pow_zero, Nat.mul_one, HC00.out]⟩
              case round =>
                obtain ⟨j, hj1, hj2, rfl, rfl⟩ := hrel
                by_cases hjn : j < n + 1
                · have hji : (j : Int) < (n : Int) + 1 := by omega
                  have hb := HBD.out (j + 1) (by omega) (by omega)
                  have hsucc : C0 * 2 ^ (j + 1 - at_) = 2 * (C0 * 2 ^ (j - at_)) := by rw [show j + 1 - at_ = (j - at_) + 1 by omega, Nat.pow_succ]; rw [Nat.mul_comm 2, Nat.mul_assoc]
                  rw [hsucc] at hb
                  obtain ⟨v, hv⟩ : ∃ v, v = C0 * 2 ^ (j - at_) := ⟨_, rfl⟩
                  rw [← hv] at hb hsucc ⊢
                  have HSU := hide hsucc
                  clear hsucc hv
                  go_wp2
                  go_round
                  case rel => exact ⟨j + 1, by omega, by omega, by go_num, by rw [HSU.out]; go_num⟩
                  case measure => simp [intOf] <;> omega
                · have hji : ¬ (j : Int) < (n : Int) + 1 := by omega
                  obtain rfl : j = n + 1 := by omega
                  rw [HS6.out]
                  have hxb := bits_bd x h256
                  obtain ⟨v, hv⟩ : ∃ v, v = bitsL.getD x 0 := ⟨_, rfl⟩
                  rw [← hv] at hxb HIFF ⊢
                  have HV := hide hv
                  clear hv
                  by_cases hvg : v = G
                  · have HHIT := hide (HIFF.out.2 hvg)
                    have hve : ((v : Int) == (G : Int)) = true := by rw [hvg]; simp
                    have hx8 : (x : Int) % 256 = (x : Int) := by omega
                    clear hvg
                    go_wp2
                    go_ret2
                    refine ⟨rfl, .inl ⟨x, h256, HHIT.out, ?_⟩⟩
                    have h1 := HY.out
                    have h2 := HYN.out
                    exact ret_num2 (a := (x : Int)) (c := (n : Int) + 1) rfl (by omega)
                  · have HMISS := hide (fun h => hvg (HIFF.out.1 h))
                    have hve : ((v : Int) == (G : Int)) = false := by simp; omega
                    clear hvg
                    go_wp2
                    go_round
                    case rel =>
                      refine ⟨x + 1, by omega, by go_num, by rw [HN.out, HV.out], by rw [HN.out], by rw [HN.out], fun c hc h => ?_⟩
                      by_cases hcx : c = x
                      · subst hcx; exact HMISS.out
                      · exact HNO.out c hc (by omega)
                    case measure => simp [intOf] <;> omega
          · have hyne : ((y : Int) != (n : Int) + 1) = true := by simp; omega
            have HN := hide (s4 (by rw [← hy]; exact hyn))
            have HYN := hide hyn
            clear s1 s2 s3 s4 hy hst hyn hrl
            go_wp2_with (go_at_call 19; refine (HRL.out _).mono ?_; rintro e w' ⟨rfl, rfl⟩)
            go_round
            case rel =>
              refine ⟨x + 1, by omega, by go_num, by rw [HN.out], by rw [HN.out], by rw [HN.out], fun c hc h => ?_⟩
              have h1 := HY.out
              have h2 := HYN.out
              by_cases hcx : c = x
              · subst hcx; exact HNO.out c hc (by omega)
              · exact HNO.out c hc (by omega)
            case measure => simp [intOf] <;> omega
        · have hge : ¬ (x : Int) < 256 := by omega
          have hx256 : x = 256 := by omega
          have HX2 := hide (show n * 256 + x = (n + 1) * 256 by omega)
          have HXX := hide hx256
          clear hx256
          go_wp2
          go_round
          case rel => exact ⟨n + 1, G, by omega, by omega, by go_num, rfl, HHb.out, HNEW.out, fun c hc h => HNO.out c hc (by have := HXX.out; omega), by rw [HX2.out], by rw [HX2.out], by rw [HX2.out]⟩
          case measure => simp [intOf] <;> omega
end Go.Proofs.Ytjnjganmdbkpoaa
