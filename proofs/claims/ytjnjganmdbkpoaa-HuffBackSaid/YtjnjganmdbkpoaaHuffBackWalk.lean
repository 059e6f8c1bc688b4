/-
  HuffBack: its walk: for every two texts the Go text returns true, and leaves what was there as it was.
-/
import Derived.Test.YtjnjganmdbkpoaaHfAwake
namespace Go.Proofs.Ytjnjganmdbkpoaa.huffBack
open Go.RowKit Go.ChangeShapes Go.Proofs.Ytjnjganmdbkpoaa Go.Lib

theorem walk_long (s t : ByteArray) (w : World) (h : (300 : Int) < (s.size : Int) ∨ (300 : Int) < (t.size : Int)) :
    Calls Try.prog 5 #[.string s, .string t] w fun e w' => e = .returned (.bool true) ∧ Below w.heap.size w w' := by
  by_cases h1 : (300 : Int) < (s.size : Int)
  · clear h
    go_enter Try.func5, Try.ntmps5
    go_wp2_with fail
    refine (aw_awake _).mono ?_
    rintro e w4 ⟨rfl, hb4⟩
    have HB4 := hide hb4
    clear hb4
    go_wp2_with fail
    go_ret
    exact ⟨rfl, HB4.out⟩
  · have h2 : (300 : Int) < (t.size : Int) := by rcases h with h | h; exact absurd h h1; exact h
    clear h
    go_enter Try.func5, Try.ntmps5
    go_wp2_with fail
    refine (aw_awake _).mono ?_
    rintro e w4 ⟨rfl, hb4⟩
    have HB4 := hide hb4
    clear hb4
    go_wp2_with fail
    go_ret
    exact ⟨rfl, HB4.out⟩

theorem two_eq {s t : ByteArray} {ya yb : List Int} (ha : IsEnc (sb s) ya) (hb : IsEnc (sb t) yb) : ((strOfNums ya).toList == (strOfNums yb).toList) = (s.toList == t.toList) := by
  by_cases h : s = t
  · subst h
    rw [ha.one hb]
    simp
  · have h1 : ya ≠ yb := fun e => by
      subst e
      have := IsEnc.inj (sb_lt s) (sb_lt t) ha hb
      exact h (by rw [← strB_sb s, ← strB_sb t, this])
    rw [str_ne ha.1 hb.1 h1, eq_comm, beq_eq_false_iff_ne]
    intro e
    rw [toList_data, toList_data] at e
    exact h (ByteArray.ext (Array.toList_inj.1 e))

theorem IsEnc.len_le {l : List Nat} (hl : ∀ c ∈ l, c < 256) {b : List Int} (h : IsEnc l b) (hn : l.length ≤ 300) : b.length ≤ 1200 := by
  have h1 := h.len
  have h2 := sumL_le l hl
  omega

set_option maxRecDepth 100000 in
set_option maxHeartbeats 1600000 in
theorem walk_right (s t : ByteArray) (w : World) (h1 : (s.size : Int) ≤ 300) (h2 : (t.size : Int) ≤ 300) :
    Calls Try.prog 5 #[.string s, .string t] w fun e w' => e = .returned (.bool true) ∧ Below w.heap.size w w' := by
  obtain ⟨g, hg⟩ : ∃ g, g = w.heap.size := ⟨_, rfl⟩
  go_enter Try.func5, Try.ntmps5
  go_wp2_with fail
  refine (hf_New _).mono ?_
  rintro e w' ⟨rfl, rfl⟩
  have hblk := BlkIs.new w 68 (coderA 0 0 0 (.slice none 0 0))
  have HK1 := hide ((KB.refl (fun k => g ≤ k) w).alloc (.cells (coderA 0 0 0 (.slice none 0 0)) 68))
  rw [← hg] at hblk ⊢
  have HBLK := hide hblk
  have HGG := hide hg
  have hgl : g < (w.alloc (.cells (coderA 0 0 0 (.slice none 0 0)) 68)).heap.size := hblk.lt
  clear hblk hg
  generalize w.alloc (.cells (coderA 0 0 0 (.slice none 0 0)) 68) = w1 at HK1 HBLK hgl ⊢
  have HGL := hide hgl
  clear hgl
  go_wp2_with fail
  refine (hf_Encode s (by omega) _).mono ?_
  rintro e w2 ⟨va, ya, rfl, ha, howna, hb2⟩
  obtain ⟨Aa, ca, rfl⟩ := own_form howna
  have HRA := hide (rb_of_own howna ha.1).1
  have hna : 0 < ya.length → ∀ a, Aa = some a → a.block ≠ g := fun hp a e => by
    obtain ⟨b, c, he, hB, _⟩ := own_at howna hp
    injection he with he1
    rw [e] at he1
    injection he1 with he1
    rw [he1]
    show b ≠ g
    have := HGL.out
    omega
  have HNA := hide hna
  have HA := hide ha
  have HC2 := hide (CoderIs.keep (.inl HBLK.out) hb2)
  have HK2 := hide (HK1.out.trans' (KB.of_below (fun _ => False) hb2) (fun _ _ h => h.elim))
  have HS2 := hide (show g < w2.heap.size by have := hb2.size; have := HGL.out; omega)
  clear ha howna hna hb2 HBLK HK1
  go_wp2_with fail
  refine (hf_Encode t (by omega) _).mono ?_
  rintro e w3 ⟨vb, yb, rfl, hbb, hownb, hb3⟩
  obtain ⟨Ab, cb, rfl⟩ := own_form hownb
  have HRB := hide (rb_of_own hownb hbb.1).1
  have hnb : 0 < yb.length → ∀ a, Ab = some a → a.block ≠ g := fun hp a e => by
    obtain ⟨b, c, he, hB, _⟩ := own_at hownb hp
    injection he with he1
    rw [e] at he1
    injection he1 with he1
    rw [he1]
    show b ≠ g
    have := HS2.out
    omega
  have HNB := hide hnb
  have HBE := hide hbb
  have HC3 := hide (HC2.out.keep hb3)
  have HRA3 := hide (HRA.out.below hb3)
  have HK3 := hide (HK2.out.trans' (KB.of_below (fun _ => False) hb3) (fun _ _ h => h.elim))
  clear hbb hownb hnb hb3 HC2 HK2 HRA HS2
  have la := hide (IsEnc.len_le (sb_lt s) HA.out (by rw [sb_len]; omega))
  have lb := hide (IsEnc.len_le (sb_lt t) HBE.out (by rw [sb_len]; omega))
  go_wp2_with fail
  refine (hf_Decode_is (strL_sb s) g Aa ya.length ca ya w3 HC3.out HRA3.out HNA.out (by have := la.out; omega) ⟨sb_lt s, .inl ⟨rfl, HA.out⟩⟩).mono ?_
  rintro e w4 ⟨rfl, hT4, hk4⟩
  have HC4 := hide (show CoderIs w4 g from .inr hT4)
  have HRA4 := hide (HRA3.out.kb hk4 HNA.out)
  have HRB4 := hide (HRB.out.kb hk4 HNB.out)
  have HK4 := hide (HK3.out.trans' hk4 (fun i _ e => by show g ≤ i; omega))
  clear hT4 hk4 HC3 HRA3 HRB HK3
  go_wp2_with fail
  refine (hf_Decode_is (strL_sb t) g Ab yb.length cb yb w4 HC4.out HRB4.out HNB.out (by have := lb.out; omega) ⟨sb_lt t, .inl ⟨rfl, HBE.out⟩⟩).mono ?_
  rintro e w5 ⟨rfl, ⟨T5, hT5, _⟩, hk5⟩
  have HC5 := hide hT5
  have HRA5 := hide (HRA4.out.kb hk5 HNA.out)
  have HRB5 := hide (HRB4.out.kb hk5 HNB.out)
  have HK5 := hide (HK4.out.trans' hk5 (fun i _ e => by show g ≤ i; omega))
  clear hT5 hk5 HC4 HRA4 HRB4 HK4
  go_wp2_with fail
  refine (hf_New _).mono ?_
  rintro e w' ⟨rfl, rfl⟩
  obtain ⟨g2, hg2⟩ : ∃ g2, g2 = w5.heap.size := ⟨_, rfl⟩
  have hblk2 := BlkIs.new w5 68 (coderA 0 0 0 (.slice none 0 0))
  have hbel := (Below.refl w5.heap.size w5).alloc (Nat.le_refl _) (.cells (coderA 0 0 0 (.slice none 0 0)) 68)
  rw [← hg2] at hblk2 ⊢
  have HBLK2 := hide hblk2
  have HC6 := hide (HC5.out.keep hbel)
  have HRA6 := hide (HRA5.out.below hbel)
  have HRB6 := hide (HRB5.out.below hbel)
  have HK6 := hide (HK5.out.trans' (KB.of_below (fun _ => False) hbel) (fun _ _ h => h.elim))
  have hnb2 : 0 < yb.length → ∀ a, Ab = some a → a.block ≠ g2 := fun hp a e => by
    obtain ⟨b, off, e', hlt, _⟩ := HRB5.out.2.1 hp
    rw [e] at e'
    injection e' with e'
    rw [e', hg2]
    show b ≠ w5.heap.size
    omega
  have hna2 : 0 < ya.length → ∀ a, Aa = some a → a.block ≠ g2 := fun hp a e => by
    obtain ⟨b, off, e', hlt, _⟩ := HRA5.out.2.1 hp
    rw [e] at e'
    injection e' with e'
    rw [e', hg2]
    show b ≠ w5.heap.size
    omega
  have HNB2 := hide hnb2
  have HNA2 := hide hna2
  have HG2 := hide (show g < g2 by rw [hg2]; exact HC5.out.lt)
  clear hbel hblk2 hg2 hnb2 hna2 HC5 HRA5 HRB5 HK5
  generalize w5.alloc (.cells (coderA 0 0 0 (.slice none 0 0)) 68) = w6 at HBLK2 HC6 HRA6 HRB6 HK6 ⊢
  go_wp2_with fail
  refine (hf_Decode_is (strL_sb t) g2 Ab yb.length cb yb w6 (.inl HBLK2.out) HRB6.out HNB2.out (by have := lb.out; omega) ⟨sb_lt t, .inl ⟨rfl, HBE.out⟩⟩).mono ?_
  rintro e w7 ⟨rfl, _, hk7⟩
  have HC7 := hide (hk7.blk HC6.out (by show ¬ g = g2; have := HG2.out; omega))
  have HRA7 := hide (HRA6.out.kb hk7 HNA2.out)
  have HRB7 := hide (HRB6.out.kb hk7 HNB2.out)
  have HK7 := hide (HK6.out.trans' hk7 (fun i _ e => by show g ≤ i; have := HG2.out; omega))
  clear hk7 HC6 HRA6 HRB6 HK6 HBLK2
  have hsz := hf_Size s (by omega)
  rw [← HA.out.len] at hsz
  go_wp2_with fail
  refine (hsz _).mono ?_
  rintro e w8 ⟨rfl, hb8⟩
  have HC8 := hide (HC7.out.keep hb8)
  have hsa := rb_string ca (HRA7.out.below hb8)
  have hsb := rb_string cb (HRB7.out.below hb8)
  have HK8 := hide (HK7.out.trans' (KB.of_below (fun _ => False) hb8) (fun _ _ h => h.elim))
  clear hb8 hsz HC7 HRA7 HRB7 HK7
  have heq := two_eq HA.out HBE.out
  have HEQ := hide heq
  have hyz : ((ya.length : Int) == (ya.length : Int)) = true := by simp
  go_wp2_with (go_at_call 17; refine (hf_Built g 1 0 1 _ _ HC8.out (by omega)).mono ?_; rintro e w' ⟨rfl, rfl⟩)
  all_goals first
    | (refine (aw_awake _).mono ?_
       rintro e w9 ⟨rfl, hb9⟩
       have HB9 := hide (KB.below (HK8.out.trans' (KB.of_below (fun _ => False) hb9) (fun _ _ h => h.elim)) (Nat.le_refl w.heap.size) (fun k e => by have := HGG.out; have e' : g ≤ k := e; omega))
       clear hb9
       go_wp2_with fail
       go_ret
       exact ⟨rfl, HB9.out⟩)
    | (rename_i hh; exact absurd HEQ.out hh)

theorem walk (s t : ByteArray) (w : World) (_h1 : s.size ≤ maxLen) (_h2 : t.size ≤ maxLen) :
    Calls Try.prog 5 #[.string s, .string t] w fun e w' => e = .returned (.bool true) ∧ Below w.heap.size w w' := by
  by_cases h : (300 : Int) < (s.size : Int) ∨ (300 : Int) < (t.size : Int)
  · exact walk_long s t w h
  · exact walk_right s t w (by omega) (by omega)
end Go.Proofs.Ytjnjganmdbkpoaa.huffBack
