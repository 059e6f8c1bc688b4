/-
  Layer 2: the document's Decode.
-/
import Derived.Test.YtjnjganmdbkpoaaHfRef4
import Derived.Test.YtjnjganmdbkpoaaHfDecode
import Derived.Laws.Concat
import Derived.Deep.RegionWith
import Derived.Lib.Bytes
namespace Go.Proofs.Ytjnjganmdbkpoaa
open Go.RowKit Go.ChangeShapes Go.Lib

def strB (l : List Nat) : ByteArray := strOfNums (ints l)
theorem strB_size (l : List Nat) : (strB l).size = l.length := by rw [strB, strOfNums_size, ints, List.length_map]
theorem strB_snoc (l : List Nat) (c : Nat) : strB l ++ strOfNums [(c : Int)] = strB (l ++ [c]) := by
  simp [strB, strOfNums, ints, ByteArray.mk_append_mk]
theorem sb_strB (l : List Nat) (h : ∀ c ∈ l, c < 256) : sb (strB l) = l := by
  unfold sb strB
  rw [strOfNums_data, ints, List.map_map, List.map_map]
  conv => rhs; rw [← List.map_id l]
  refine List.map_congr_left (fun c hc => ?_)
  have := h c hc
  simp
  omega

/-- What the document's Decode leaves. -/
def RefDecodes (xs : List Int) (w : World) (e : Ending) (w' : World) : Prop :=
  ∃ (r : List Nat) (c : Int), e = .returned (.tuple #[strL r, .int .i64 c]) ∧ IsDec xs r c ∧ Below w.heap.size w w'

theorem ref_no {xs ys u : List Int} {r : List Nat} (hrc : ∀ c ∈ r, c < 256) (hno : NoCode u) (hun : unpackI xs = tb r ++ u) (he : IsEnc r ys) (hd : ys ≠ xs) : IsDec xs [] 4 := by
  refine ⟨by simp, .inr ⟨rfl, rfl, fun l hl h => hd ?_⟩⟩
  obtain ⟨hb, k, hk, e⟩ := h
  have h1 := (parse_one l r _ u hl hrc (by have := ones_noCode k [] (.inl rfl); rwa [List.append_nil] at this) hno (e.symm.trans hun)).1
  subst h1
  exact he.one ⟨hb, k, hk, e⟩
theorem rb_bytes {w : World} {A : Option Addr} {n : Nat} {xs : List Int} (h : RB w A n xs) : ∀ x ∈ xs, 0 ≤ x ∧ x ≤ 255 := fun y hy => by
  obtain ⟨i, hi, rfl⟩ := List.getElem_of_mem hy
  have := h.2.2 i
  simpa [List.getD, hi] using this
theorem ofNums_inj : ∀ (a b : List Int), (∀ x ∈ a, 0 ≤ x ∧ x ≤ 255) → (∀ x ∈ b, 0 ≤ x ∧ x ≤ 255) → (a.map fun n => UInt8.ofNat n.toNat) = (b.map fun n => UInt8.ofNat n.toNat) → a = b
  | [], [], _, _, _ => rfl
  | [], _ :: _, _, _, h => by simp at h
  | _ :: _, [], _, _, h => by simp at h
  | x :: a, y :: b, ha, hb, h => by
    simp only [List.map_cons, List.cons.injEq] at h
    have hx := ha x (by simp)
    have hy := hb y (by simp)
    have h1 := congrArg UInt8.toNat h.1
    simp at h1
    rw [ofNums_inj a b (fun z hz => ha z (by simp [hz])) (fun z hz => hb z (by simp [hz])) h.2, show x = y by omega]
theorem str_inj {a b : List Int} (ha : ∀ x ∈ a, 0 ≤ x ∧ x ≤ 255) (hb : ∀ x ∈ b, 0 ≤ x ∧ x ≤ 255) (h : strOfNums a = strOfNums b) : a = b := by
  have h1 := congrArg (fun s : ByteArray => s.data.toList) h
  simp only [strOfNums_data] at h1
  exact ofNums_inj a b ha hb h1
theorem str_ne {a b : List Int} (ha : ∀ x ∈ a, 0 ≤ x ∧ x ≤ 255) (hb : ∀ x ∈ b, 0 ≤ x ∧ x ≤ 255) (h : a ≠ b) : ((strOfNums a).toList == (strOfNums b).toList) = false := by
  rw [beq_eq_false_iff_ne]
  intro hh
  rw [strOfNums_toList, strOfNums_toList] at hh
  exact h (ofNums_inj a b ha hb hh)
theorem unpackI_two (xs : List Int) : ∀ x ∈ unpackI xs, x = 0 ∨ x = 1 := by
  intro x hx
  obtain ⟨y, _, hy⟩ := List.mem_flatMap.1 hx
  exact bitsOf_two _ _ x hy

set_option maxRecDepth 100000 in
set_option maxHeartbeats 3200000 in
theorem rf_Decode (A : Option Addr) (n cap : Nat) (xs : List Int) (w : World) (hr : RB w A n xs) (hn : (n : Int) ≤ 100) :
    Calls Try.prog 16 #[.slice A n cap] w (RefDecodes xs w) := by
  have HUP := hide (rf_unpack A n cap xs w hr (by omega))
  have HR := hide hr
  clear hr
  go_enter Try.func16, Try.ntmps16
  go_wp2_with fail
  refine HUP.out.mono ?_
  rintro e w1 ⟨v1, rfl, hown1, hb1⟩
  obtain ⟨A1, c1, rfl⟩ := own_form hown1
  have h1 := rl_of_own hown1
  have HB1 := hide hb1
  have HRL := hide h1.1
  have h2 : (unpackI xs).length ≤ c1 := h1.2.1
  have h3 : c1 ≤ 9223372036854775807 := h1.2.2
  have HC2 := hide h2
  have HC3 := hide h3
  have hl8 := unpackI_len xs
  rw [HR.out.1] at hl8
  have HL8 := hide hl8
  clear hown1 h1 h2 h3 hb1 hl8 HUP
  go_wp2
  go_loopw [4, 5, 6, 7, 13] (fun l s cc nn tt wr => ∃ (A' : Option Addr) (m cp : Nat) (u : List Int) (r : List Nat), l = .slice A' m cp ∧ m ≤ cp ∧ cp ≤ 9223372036854775807 ∧ RL .i64 wr A' m u ∧ (∀ x ∈ u, x = 0 ∨ x = 1) ∧ s = .string (strB r) ∧ (∀ c ∈ r, c < 256) ∧
      unpackI xs = tb r ++ u ∧ Below w1.heap.size w1 wr)
    (fun l _ _ _ _ _ => slen l)
  case atStart => exact ⟨A1, _, c1, unpackI xs, [], rfl, HC2.out, HC3.out, HRL.out, unpackI_two xs, rfl, by simp, rfl, Below.refl _ _⟩
  case round =>
    clear HRL HC2 HC3
    obtain ⟨A', m, cp, u, r, rfl, hm, hcp, hrl, hu2, rfl, hrc, hun, hbel⟩ := hrel
    have HM := hide hm
    have HCP := hide hcp
    have HRL := hide hrl
    have HU2 := hide hu2
    have HRC := hide hrc
    have HUN := hide hun
    have HBEL := hide hbel
    have hml : u.length = m := hrl.1
    have hm8 : (m : Int) ≤ 800 := by
      have h1 := congrArg List.length hun
      rw [List.length_append] at h1
      have := HL8.out
      omega
    have hr160 : (r.length : Int) ≤ 160 := by
      have h1 := congrArg List.length hun
      rw [List.length_append, tb_len] at h1
      have := sumL_ge r hrc
      have := HL8.out
      omega
    have HML := hide hml
    have HR160 := hide hr160
    clear hm hrl hu2 hrc hun hbel hml hr160 hcp
    by_cases h0 : 0 < m
    · have h0' : (0 : Int) < (m : Int) := by omega
      have HF := hide (rf_find A' m cp u wr HRL.out HU2.out (by omega))
      go_wp2_with fail
      refine HF.out.mono ?_
      rintro e w' ⟨rfl, hf⟩
      rcases hf with ⟨c, hc, hpre, rfl⟩ | ⟨hno, rfl⟩
      · have ⟨l1, l2⟩ := lens_le c hc
        have hle := hpre.length_le
        rw [cd_len, HML.out] at hle
        have hcut : u = cd c ++ u.drop (lensL.getD c 0) := by
          have := List.prefix_iff_eq_append.1 hpre
          rw [cd_len] at this
          exact this.symm
        obtain ⟨L, hL⟩ : ∃ L, L = lensL.getD c 0 := ⟨_, rfl⟩
        rw [← hL] at l1 l2 hle hcut ⊢
        have HCUT := hide hcut
        have HC := hide hc
        have hne : ((L : Int) == 0) = false := by simp; omega
        have hLm : (L : Int) ≤ (m : Int) := by omega
        have hLc : (L : Int) ≤ (cp : Int) := by have := HM.out; omega
        have hmc : (m : Int) ≤ (cp : Int) := by have := HM.out; omega
        have hcp' : (cp : Int) ≤ 9223372036854775807 := by have := HCP.out; omega
        obtain ⟨ab, off, hAe, hbl, _⟩ := HRL.out.2 h0
        subst hAe
        have hst := own_string (own_one wr wr.heap.size (c : Int) (Nat.le_refl _))
        have hadd : ∀ W : World, (Op.stringOp .add (strB r) (strOfNums [(c : Int)])).run Try.prog W = .ok (.string (strB (r ++ [c]))) W := fun W => by
          rw [run_string_add_sum W _ _ (by rw [strB_size, strOfNums_size]; have := HR160.out; simp; omega), strB_snoc]
        clear hL hcut hpre hc hle l2
        have hfin : ∀ (A3 : Option Addr), RL .i64 (wr.alloc (.cells #[.int .u8 (c : Int)] 5)) A3 (m - L) (u.drop L) → ∃ (A' : Option Addr) (m' cp' : Nat) (u' : List Int) (r' : List Nat), Value.slice A3 (m - L) (cp - L) = .slice A' m' cp' ∧ m' ≤ cp' ∧ cp' ≤ 9223372036854775807 ∧ RL .i64 (wr.alloc (.cells #[.int .u8 (c : Int)] 5)) A' m' u' ∧ (∀ x ∈ u', x = 0 ∨ x = 1) ∧ Value.string (strB (r ++ [c])) = .string (strB r') ∧ (∀ c ∈ r', c < 256) ∧
            unpackI xs = tb r' ++ u' ∧ Below w1.heap.size w1 (wr.alloc (.cells #[.int .u8 (c : Int)] 5)) := by
          intro A3 h
          refine ⟨A3, m - L, cp - L, u.drop L, r ++ [c], rfl, by omega, by omega, h, fun x hx => HU2.out x (List.mem_of_mem_drop hx), rfl, ?_, ?_, HBEL.out.alloc HBEL.out.size _⟩
          · intro y hy
            rcases List.mem_append.1 hy with hy | hy
            · exact HRC.out y hy
            · simp at hy; rw [hy]; exact HC.out
          · rw [tb_snoc, List.append_assoc, ← HCUT.out]; exact HUN.out
        have HFIN := hide hfin
        clear hfin
        by_cases hcL : cp = L
        · have hcL' : (cp : Int) = (L : Int) := by omega
          have h5 : (u.drop L).length = 0 := by rw [List.length_drop, HML.out]; omega
          have hz5 := HFIN.out (some ⟨ab, off, none⟩) (by rw [show m - L = 0 by omega, List.eq_nil_of_length_eq_zero h5]; exact RL.nothing _ _ _)
          have HZ5 := hide hz5
          have HML2 := hide (show m = L by omega)
          clear hz5 h5
          obtain rfl : m = L := HML2.out
          subst hcL
          go_wp2
          go_roundw
          case rel =>
            have := HZ5.out
            rw [Nat.sub_self] at this
            exact this
          case measure => show 0 < cp; omega
        · have hcL' : ¬ (cp : Int) = (L : Int) := by omega
          have hz5 := HFIN.out (some ⟨ab, off + L, none⟩) ((RL.cut HRL.out (by omega)).below ((Below.refl _ _).alloc (Nat.le_refl _) _))
          have HZ5 := hide hz5
          clear hz5
          go_wp2
          go_roundw
          case rel => exact HZ5.out
          case measure => show m - L < m; omega
      · have HNO := hide hno
        clear hno
        go_wp2_with fail
        have hRBw : RB wr A n xs := (HR.out.below HB1.out).below HBEL.out
        have hS0 := rb_string cap hRBw
        have HRB := hide hRBw
        have henc := rf_Encode (strB r) (by rw [strB_size]; have := HR160.out; omega)
        rw [sb_strB r HRC.out] at henc
        have HENC := hide henc
        have hS1 : (convert 28 9 (.slice A n cap)).run Try.prog wr.drew = .ok (.string (strOfNums xs)) wr.drew := rb_string (w := wr.drew) cap hRBw
        clear hRBw henc
        go_region_with ((go_at_call 11; refine (HENC.out _).mono ?_; rintro e w2 ⟨v2, ys, rfl, henc2, hown2, hb2⟩; have hs2 := own_string hown2; have hS2 := rb_string cap (RB.below (w := wr.drew) HRB.out hb2)))
        all_goals
          have HBW := hide (HB1.out.trans ((HBEL.out.trans (Below.trans (b := wr.drew) ((Below.refl _ wr).drew.mono HBEL.out.size) (hb2.mono HBEL.out.size))).mono HB1.out.size))
          have HE2 := hide henc2
          clear hs2 hS2 hown2 hb2 henc2 hS0 hS1
          by_cases hd : ys = xs
          · subst hd
            go_wp2
            all_goals first
              | (rename_i hh; simp at hh; done)
              | (go_ret2; exact ⟨r, 0, rfl, ⟨HRC.out, .inl ⟨rfl, HE2.out⟩⟩, HBW.out⟩)
          · have hq := str_ne HE2.out.1 (rb_bytes HR.out) hd
            rw [beq_eq_false_iff_ne] at hq
            have HQ := hide hq
            have HD := hide (ref_no HRC.out HNO.out HUN.out HE2.out hd)
            clear hd hq
            go_wp2
            all_goals first
              | (rename_i hh; simp at hh; exact absurd hh HQ.out; done)
              | (go_ret2; exact ⟨[], 4, rfl, HD.out, HBW.out⟩)
    · have HNO := hide (show NoCode u from fun c hc h => by
        have := h.length_le
        have := lens_le c hc
        rw [cd_len, HML.out] at *
        omega)
      have h0' : ¬ (0 : Int) < (m : Int) := by omega
      go_wp2_with fail
      have hRBw : RB wr A n xs := (HR.out.below HB1.out).below HBEL.out
      have hS0 := rb_string cap hRBw
      have HRB := hide hRBw
      have henc := rf_Encode (strB r) (by rw [strB_size]; have := HR160.out; omega)
      rw [sb_strB r HRC.out] at henc
      have HENC := hide henc
      have hS1 : (convert 28 9 (.slice A n cap)).run Try.prog wr.drew = .ok (.string (strOfNums xs)) wr.drew := rb_string (w := wr.drew) cap hRBw
      clear hRBw henc
      go_region_with ((go_at_call 11; refine (HENC.out _).mono ?_; rintro e w2 ⟨v2, ys, rfl, henc2, hown2, hb2⟩; have hs2 := own_string hown2; have hS2 := rb_string cap (RB.below (w := wr.drew) HRB.out hb2)))
      all_goals
        have HBW := hide (HB1.out.trans ((HBEL.out.trans (Below.trans (b := wr.drew) ((Below.refl _ wr).drew.mono HBEL.out.size) (hb2.mono HBEL.out.size))).mono HB1.out.size))
        have HE2 := hide henc2
        clear hs2 hS2 hown2 hb2 henc2 hS0 hS1
        by_cases hd : ys = xs
        · subst hd
          go_wp2
          all_goals first
            | (rename_i hh; simp at hh; done)
            | (go_ret2; exact ⟨r, 0, rfl, ⟨HRC.out, .inl ⟨rfl, HE2.out⟩⟩, HBW.out⟩)
        · have hq := str_ne HE2.out.1 (rb_bytes HR.out) hd
          rw [beq_eq_false_iff_ne] at hq
          have HQ := hide hq
          have HD := hide (ref_no HRC.out HNO.out HUN.out HE2.out hd)
          clear hd hq
          go_wp2
          all_goals first
            | (rename_i hh; simp at hh; exact absurd hh HQ.out; done)
            | (go_ret2; exact ⟨[], 4, rfl, HD.out, HBW.out⟩)
end Go.Proofs.Ytjnjganmdbkpoaa
