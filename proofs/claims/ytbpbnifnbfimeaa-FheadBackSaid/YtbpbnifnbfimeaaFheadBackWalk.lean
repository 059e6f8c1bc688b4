/-
  FheadBack: its walk: for every head and every bytes behind the Go text returns true, and leaves what was there as it was.
-/
import Derived.Test.YtbpbnifnbfimeaaFhAwake
namespace Go.Proofs.Ytbpbnifnbfimeaa
open Go.RowKit

/-- A head's bytes with the highest bit of its stream's number set. -/
def hdT (l t f s : Int) : List Int := [l / 65536 % 256, l / 256 % 256, l % 256, t, f, s / 16777216 % 256 + 128, s / 65536 % 256, s / 256 % 256, s % 256]
theorem get_top (l t f s : Int) (h : okH l s = true) : gL (hdT l t f s) = l ∧ gT (hdT l t f s) = t ∧ gF (hdT l t f s) = f ∧ gS (hdT l t f s) = s ∧ gE (hdT l t f s) = 0 := by
  obtain ⟨h1, h2, h3, h4⟩ := (okH_iff l s).1 h
  unfold gL gT gF gS gE hdT
  simp [numL]
  omega
theorem or_top (q : Int) (h0 : 0 ≤ q) (h1 : q ≤ 127) : bits .or .u8 q 128 = q + 128 := by
  have key : ∀ c : Fin 128, bits .or .u8 (c.val : Int) 128 = ((c.val + 128 : Nat) : Int) := by decide +kernel
  have := key ⟨q.toNat, by omega⟩
  simp only [Int.toNat_of_nonneg h0] at this
  rw [this]
  omega
theorem fh_Get_back (l t f s : Int) (hok : okH l s = true) (ts : List Int) (A : Option Addr) (n cap : Nat) (w : World) (hr : RB w A n (hdB l t f s ++ ts)) :
    Calls Try.prog 11 #[.slice A n cap] w fun e w' => e = .returned (.tuple #[.agg #[.int .i64 l, .int .u8 t, .int .u8 f, .int .i64 s], .int .i64 0]) ∧ Below w.heap.size w w' := by
  obtain ⟨a, b, c, d, e⟩ := get_put l t f s hok ts
  have h := fh_Get A n cap _ w hr
  unfold GivesHd at h
  rwa [a, b, c, d, e] at h
theorem fh_Get_top (l t f s : Int) (hok : okH l s = true) (A : Option Addr) (n cap : Nat) (w : World) (hr : RB w A n (hdT l t f s)) :
    Calls Try.prog 11 #[.slice A n cap] w fun e w' => e = .returned (.tuple #[.agg #[.int .i64 l, .int .u8 t, .int .u8 f, .int .i64 s], .int .i64 0]) ∧ Below w.heap.size w w' := by
  obtain ⟨a, b, c, d, e⟩ := get_top l t f s hok
  have h := fh_Get A n cap _ w hr
  unfold GivesHd at h
  rwa [a, b, c, d, e] at h
theorem fh_Get_short (l t f s : Int) (A : Option Addr) (cap : Nat) (w : World) (hr : RB w A 8 ((hdB l t f s).take 8)) :
    Calls Try.prog 11 #[.slice A 8 cap] w fun e w' => e = .returned (.tuple #[.agg #[.int .i64 0, .int .u8 0, .int .u8 0, .int .i64 0], .int .i64 3]) ∧ Below w.heap.size w w' :=
  (fh_Get A 8 cap _ w hr).mono fun _ _ h => h
theorem blk_top {w : World} {h : Nat} {l t f s : Int} (hk : BlkIs w h 5 (u8s (hdB l t f s)).toArray) : BlkIs (w.setCell ⟨h, 5, none⟩ (.int .u8 (s / 16777216 % 256 + 128))) h 5 (u8s (hdT l t f s)).toArray := by
  have := hk.put 5 (.int .u8 (s / 16777216 % 256 + 128))
  simpa [u8s, hdB, hdT] using this
theorem hdT_all (l t f s : Int) (s0 : 0 ≤ s) (s1 : s ≤ 2147483647) (ht0 : 0 ≤ t) (ht1 : t ≤ 255) (hf0 : 0 ≤ f) (hf1 : f ≤ 255) : AllB (hdT l t f s) := by
  intro x hx
  simp only [hdT, List.mem_cons, List.not_mem_nil, or_false] at hx
  omega
theorem rb_all {w : World} {A : Option Addr} {n : Nat} {xs : List Int} (h : RB w A n xs) : AllB xs := fun x hx => by
  obtain ⟨i, hi, rfl⟩ := List.getElem_of_mem hx
  have := h.2.2 i
  simpa [List.getD, hi] using this
end Go.Proofs.Ytbpbnifnbfimeaa
namespace Go.Proofs.Ytbpbnifnbfimeaa.fheadBack
open Go.RowKit Go.Proofs.Ytbpbnifnbfimeaa

set_option maxRecDepth 100000 in
set_option maxHeartbeats 1600000 in
theorem walk_no (l t f s : Int) (a1 : Option Addr) (len1 cap1 : Nat) (w : World) (hok : okH l s = false) :
    Calls Try.prog 5 #[.agg #[.int .i64 l, .int .u8 t, .int .u8 f, .int .i64 s], .slice a1 len1 cap1] w fun e w' => e = .returned (.bool true) ∧ Below w.heap.size w w' := by
  have hz := run_zero_is hd_zero
  have P := hide (fun w => fh_Put_no l t f s hok w)
  have Q := fun w => fh_Check l t f s w
  simp only [chkH_no hok] at Q
  have HQ := hide Q
  clear hok Q
  go_enter Try.func5, Try.ntmps5
  go_wp2_with fail
  refine (P.out _).mono ?_
  rintro e w1 ⟨v1, rfl, hown1, hb1⟩
  obtain ⟨A1, c1, rfl⟩ := own_form hown1
  rw [show ([] : List Int).length = 0 from rfl]
  have K1 := hide ((BlkIs.new (w.alloc (.cells #[.int .i64 l, .int .u8 t, .int .u8 f, .int .i64 s] 23)) 28 #[.int .i64 l, .int .u8 t, .int .u8 f, .int .i64 s]).keep hb1)
  have B1 := hide ((((Below.refl _ _).alloc (Nat.le_refl _) (.cells #[.int .i64 l, .int .u8 t, .int .u8 f, .int .i64 s] 23)).alloc (by simp) (.cells #[.int .i64 l, .int .u8 t, .int .u8 f, .int .i64 s] 28)).trans (hb1.mono (by simp; omega)))
  rw [show (w.alloc (.cells #[.int .i64 l, .int .u8 t, .int .u8 f, .int .i64 s] 23)).heap.size = w.heap.size + 1 by simp] at K1
  clear hown1 hb1
  obtain ⟨p0, p1, p2, p3⟩ := hd_cells K1.out
  go_wp2_with fail
  refine (HQ.out _).mono ?_
  rintro e w2 ⟨rfl, hb2⟩
  have B2 := hide (B1.out.trans (hb2.mono B1.out.size))
  clear hb2 p0 p1 p2 p3
  go_wp2_with fail
  refine (aw_fhead _).mono ?_
  rintro e w3 ⟨rfl, hb3⟩
  have B3 := hide (B2.out.trans (hb3.mono B2.out.size))
  clear hb3
  go_wp2_with fail
  go_ret
  exact ⟨rfl, B3.out⟩

set_option maxRecDepth 100000 in
set_option maxHeartbeats 1600000 in
theorem walk_long (l t f s : Int) (a1 : Option Addr) (len1 cap1 : Nat) (w : World) (hok : okH l s = true) (hl : (30 : Int) < (len1 : Int)) :
    Calls Try.prog 5 #[.agg #[.int .i64 l, .int .u8 t, .int .u8 f, .int .i64 s], .slice a1 len1 cap1] w fun e w' => e = .returned (.bool true) ∧ Below w.heap.size w w' := by
  obtain ⟨h1, h2, h3, h4⟩ := (okH_iff l s).1 hok
  have hz := run_zero_is hd_zero
  have P := hide (fun w => fh_Put_blk l t f s h1 h2 h3 h4 w)
  have Q := fun w => fh_Check l t f s w
  simp only [chkH_yes hok] at Q
  have HQ := hide Q
  clear hok Q
  go_enter Try.func5, Try.ntmps5
  go_wp2_with fail
  refine (P.out _).mono ?_
  rintro e w1 ⟨h, rfl, _, _, hb1⟩
  have K1 := hide ((BlkIs.new (w.alloc (.cells #[.int .i64 l, .int .u8 t, .int .u8 f, .int .i64 s] 23)) 28 #[.int .i64 l, .int .u8 t, .int .u8 f, .int .i64 s]).keep hb1)
  have B1 := hide ((((Below.refl _ _).alloc (Nat.le_refl _) (.cells #[.int .i64 l, .int .u8 t, .int .u8 f, .int .i64 s] 23)).alloc (by simp) (.cells #[.int .i64 l, .int .u8 t, .int .u8 f, .int .i64 s] 28)).trans (hb1.mono (by simp; omega)))
  rw [show (w.alloc (.cells #[.int .i64 l, .int .u8 t, .int .u8 f, .int .i64 s] 23)).heap.size = w.heap.size + 1 by simp] at K1
  clear hb1
  obtain ⟨p0, p1, p2, p3⟩ := hd_cells K1.out
  go_wp2_with fail
  refine (HQ.out _).mono ?_
  rintro e w2 ⟨rfl, hb2⟩
  have B2 := hide (B1.out.trans (hb2.mono B1.out.size))
  clear hb2 p0 p1 p2 p3
  go_wp2_with fail
  refine (aw_fhead _).mono ?_
  rintro e w3 ⟨rfl, hb3⟩
  have B3 := hide (B2.out.trans (hb3.mono B2.out.size))
  clear hb3
  go_wp2_with fail
  go_ret
  exact ⟨rfl, B3.out⟩

set_option maxRecDepth 100000 in
set_option maxHeartbeats 3200000 in
theorem walk_right (l t f s : Int) (t0 : 0 ≤ t) (t1 : t ≤ 255) (f0 : 0 ≤ f) (f1 : f ≤ 255) (a1 : Option Addr) (len1 cap1 : Nat) (ts : List Int) (w : World) (hok : okH l s = true) (hr : RB w a1 len1 ts) (hl : (len1 : Int) ≤ 30) (hnil : a1 = none → len1 = 0 ∧ cap1 = 0) :
    Calls Try.prog 5 #[.agg #[.int .i64 l, .int .u8 t, .int .u8 f, .int .i64 s], .slice a1 len1 cap1] w fun e w' => e = .returned (.bool true) ∧ Below w.heap.size w w' := by
  obtain ⟨i0, hi0, hz0, hz1, hz2⟩ := info_parts u8_info
  obtain ⟨h1, h2, h3, h4⟩ := (okH_iff l s).1 hok
  have hz := run_zero_is hd_zero
  have P := hide (fun w => fh_Put_blk l t f s h1 h2 h3 h4 w)
  have Q := fun w => fh_Check l t f s w
  simp only [chkH_yes hok] at Q
  have HQ := hide Q
  have HOK := hide hok
  have HR := hide hr
  have HN := hide hnil
  have AB := hide (hdB_all l t f s t0 t1 f0 f1)
  have AT := hide (hdT_all l t f s h3 h4 t0 t1 f0 f1)
  have AS := hide (rb_all hr)
  have S1 := hide (fun w => fh_Has l t f s f w)
  have S2 := hide (fun w => fh_Has l t f s 0 w)
  rw [hasB_self f f0 f1] at S1
  rw [hasB_zero f f0 f1] at S2
  obtain ⟨q, hq⟩ : ∃ q, q = s / 16777216 % 256 := ⟨_, rfl⟩
  have hor := or_top q (by omega) (by omega)
  have HQQ := hide hq
  have HLT := hide hr.1
  clear hok Q hr hnil h1 h2 h3 h4 hq
  go_enter Try.func5, Try.ntmps5
  go_wp2_with fail
  refine (P.out _).mono ?_
  rintro e w1 ⟨h, rfl, hk1, hB1, hb1⟩
  have K1 := hide ((BlkIs.new (w.alloc (.cells #[.int .i64 l, .int .u8 t, .int .u8 f, .int .i64 s] 23)) 28 #[.int .i64 l, .int .u8 t, .int .u8 f, .int .i64 s]).keep hb1)
  have B1 := hide ((((Below.refl _ _).alloc (Nat.le_refl _) (.cells #[.int .i64 l, .int .u8 t, .int .u8 f, .int .i64 s] 23)).alloc (by simp) (.cells #[.int .i64 l, .int .u8 t, .int .u8 f, .int .i64 s] 28)).trans (hb1.mono (by simp; omega)))
  rw [show (w.alloc (.cells #[.int .i64 l, .int .u8 t, .int .u8 f, .int .i64 s] 23)).heap.size = w.heap.size + 1 by simp] at K1
  have HH := hide (show w.heap.size + 1 < h by simp at hB1; omega)
  have H1 := hide hk1
  obtain ⟨g, hg⟩ : ∃ g, g = w.heap.size + 1 := ⟨_, rfl⟩
  rw [← hg] at K1 ⊢
  clear hk1 hB1 hb1 hg
  obtain ⟨p0, p1, p2, p3⟩ := hd_cells K1.out
  go_wp2_with fail
  refine (HQ.out _).mono ?_
  rintro e w2 ⟨rfl, hb2⟩
  have B2 := hide (B1.out.trans (hb2.mono B1.out.size))
  have K2 := hide (K1.out.keep hb2)
  have H2 := hide (H1.out.keep hb2)
  clear hb2 p0 p1 p2 p3 K1 H1 B1
  have M0 := hide (show (w2.alloc (.cells #[] 5)).ownsRow w2.heap.size 5 1 (.slice (some ⟨w2.heap.size, 0, none⟩) 0 0) ([] : List Int).length (u8s []) from World.ownsRow_made w2 #[] 0 (Nat.le_refl _) (Nat.zero_le _) rfl)
  have RH := hide (blk_rb H2.out (n := 9) rfl AB.out)
  have HRW := hide (HR.out.below B2.out)
  have HLN := hide (show (([] : List Int) ++ hdB l t f s ++ ts).length = 9 + len1 by rw [List.length_append, HLT.out]; rfl)
  go_wp2_with (first
    | (at_builtin; refine (wpList_append_rb _ rfl (.tmp 56) (.tmp 57) 24 rfl w2.heap.size 5 i0 Try.underlying24 hi0 hz0 hz1 hz2 _ [] rfl M0.out (some ⟨h, 0, none⟩) 9 9 (hdB l t f s) rfl (RH.out.below ((Below.refl _ _).alloc (Nat.le_refl _) _)) (fun h => by cases h) (by simp) (by simp) ?_); intro v3 w3 hown3 hg3; (have HB3 := hide (own_below (B := w2.heap.size) (w := w2) M0.out ((Below.refl _ _).alloc (Nat.le_refl _) _) (Nat.le_refl _) hg3)); have HO3 := hide hown3; clear hown3 hg3)
    | (at_builtin; go_must (refine wpList_append_rb _ rfl (.tmp 58) (.tmp 59) 24 rfl w2.heap.size 5 i0 Try.underlying24 hi0 hz0 hz1 hz2 _ _ rfl HO3.out a1 len1 cap1 ts rfl (RB.below HRW.out HB3.out) HN.out (by simp [hdB]; omega) HB3.out.size ?_); intro v4 w4 hown4 hg4; go_must (have HB4 := hide (own_below (w := w2) HO3.out HB3.out (Nat.le_refl _) hg4)); go_must (rw [HLN.out] at hown4); rw [List.nil_append] at hown4; have HO4 := hide hown4; clear hown4 hg4; obtain ⟨A4, c4, rfl⟩ := own_form HO4.out))
  have R4 := hide (rb_of_own HO4.out (by
    intro x hx
    rcases List.mem_append.1 hx with hx | hx
    · exact AB.out x hx
    · exact AS.out x hx)).1
  refine (fh_Get_back l t f s HOK.out ts A4 (9 + len1) c4 w4 R4.out).mono ?_
  rintro e w5 ⟨rfl, hb5⟩
  have H5 := hide (((H2.out.keep HB4.out).keep hb5).alloc (.cells #[.int .i64 l, .int .u8 t, .int .u8 f, .int .i64 s] 28))
  have K5 := hide (((K2.out.keep HB4.out).keep hb5).alloc (.cells #[.int .i64 l, .int .u8 t, .int .u8 f, .int .i64 s] 28))
  have Y5 := hide (BlkIs.new w5 28 #[.int .i64 l, .int .u8 t, .int .u8 f, .int .i64 s])
  have B5 := hide (((B2.out.trans (HB4.out.mono B2.out.size)).trans (hb5.mono (Nat.le_trans B2.out.size HB4.out.size))).alloc (Nat.le_trans (Nat.le_trans B2.out.size HB4.out.size) hb5.size) (.cells #[.int .i64 l, .int .u8 t, .int .u8 f, .int .i64 s] 28))
  obtain ⟨y, hy⟩ : ∃ y, y = w5.heap.size := ⟨_, rfl⟩
  rw [← hy] at Y5
  have HY := hide (show h < y by have := ((H2.out.keep HB4.out).keep hb5).lt; omega)
  clear hb5 H2 K2 B2 RH HRW HO3 HB3 HO4 HB4 R4 M0
  go_wp2_with fail
  rw [← hy]
  have R5 := hide ((blk_rb H5.out (n := 9) rfl AB.out).short (m := 8) (by omega))
  generalize w5.alloc (.cells #[.int .i64 l, .int .u8 t, .int .u8 f, .int .i64 s] 28) = w6 at H5 K5 Y5 B5 R5 ⊢
  clear hy
  refine (fh_Get_short l t f s _ _ _ R5.out).mono ?_
  rintro e w7 ⟨rfl, hb7⟩
  have H7 := hide ((H5.out.keep hb7).alloc (.cells #[.int .i64 0, .int .u8 0, .int .u8 0, .int .i64 0] 28))
  have K7 := hide ((K5.out.keep hb7).alloc (.cells #[.int .i64 0, .int .u8 0, .int .u8 0, .int .i64 0] 28))
  have Y7 := hide ((Y5.out.keep hb7).alloc (.cells #[.int .i64 0, .int .u8 0, .int .u8 0, .int .i64 0] 28))
  have B7 := hide ((B5.out.trans (hb7.mono B5.out.size)).alloc (Nat.le_trans B5.out.size hb7.size) (.cells #[.int .i64 0, .int .u8 0, .int .u8 0, .int .i64 0] 28))
  have c5 := H7.out.cell 5
  have z5 := H7.out.frozen 5
  rw [show (u8s (hdB l t f s)).toArray[5]? = some (.int .u8 q) by rw [HQQ.out]; rfl] at c5
  clear hb7 H5 K5 Y5 B5 R5
  go_wp2_with fail
  have gh := K7.out.ne_ H7.out (by decide)
  have yh := Y7.out.ne_ H7.out (by decide)
  have H8 := hide (show BlkIs ((w7.alloc (.cells #[.int .i64 0, .int .u8 0, .int .u8 0, .int .i64 0] 28)).setCell ⟨h, 5, none⟩ (.int .u8 (q + 128))) h 5 (u8s (hdT l t f s)).toArray by rw [HQQ.out]; exact blk_top H7.out)
  have K8 := hide (K7.out.far (p := ⟨h, 5, none⟩) gh (.int .u8 (q + 128)))
  have Y8 := hide (Y7.out.far (p := ⟨h, 5, none⟩) yh (.int .u8 (q + 128)))
  have B8 := hide (B7.out.setCell (p := ⟨h, 5, none⟩) (show w.heap.size ≤ h by have := HH.out; omega) (.int .u8 (q + 128)))
  have R8 := hide (blk_rb H8.out (n := 9) rfl AT.out)
  generalize (w7.alloc (.cells #[.int .i64 0, .int .u8 0, .int .u8 0, .int .i64 0] 28)).setCell ⟨h, 5, none⟩ (.int .u8 (q + 128)) = w8 at H8 K8 Y8 B8 R8 ⊢
  clear H7 K7 Y7 B7 c5 z5 gh yh
  refine (fh_Get_top l t f s HOK.out _ _ _ _ R8.out).mono ?_
  rintro e w9 ⟨rfl, hb9⟩
  have K9 := hide ((K8.out.keep hb9).alloc (.cells #[.int .i64 l, .int .u8 t, .int .u8 f, .int .i64 s] 28))
  have Y9 := hide ((Y8.out.keep hb9).alloc (.cells #[.int .i64 l, .int .u8 t, .int .u8 f, .int .i64 s] 28))
  have Z9 := hide (BlkIs.new w9 28 #[.int .i64 l, .int .u8 t, .int .u8 f, .int .i64 s])
  have B9 := hide ((B8.out.trans (hb9.mono B8.out.size)).alloc (Nat.le_trans B8.out.size hb9.size) (.cells #[.int .i64 l, .int .u8 t, .int .u8 f, .int .i64 s] 28))
  clear hb9 H8 K8 Y8 B8 R8
  obtain ⟨p0, p1, p2, p3⟩ := hd_cells K9.out
  obtain ⟨r0, r1, r2, r3⟩ := hd_cells Y9.out
  obtain ⟨q0, q1, q2, q3⟩ := hd_cells Z9.out
  go_wp2_with fail
  refine (S1.out _).mono ?_
  rintro e w10 ⟨rfl, hb10⟩
  have K10 := hide (K9.out.keep hb10)
  have B10 := hide (B9.out.trans (hb10.mono B9.out.size))
  clear hb10 K9 B9 p0 p1 p2 p3 q0 q1 q2 q3 r0 r1 r2 r3 Y9 Z9
  obtain ⟨p0, p1, p2, p3⟩ := hd_cells K10.out
  go_wp2_with fail
  refine (S2.out _).mono ?_
  rintro e w11 ⟨rfl, hb11⟩
  have B11 := hide (B10.out.trans (hb11.mono B10.out.size))
  clear hb11 K10 B10 p0 p1 p2 p3
  go_wp2_with fail
  refine (aw_fhead _).mono ?_
  rintro e w12 ⟨rfl, hb12⟩
  have B12 := hide (B11.out.trans (hb12.mono B11.out.size))
  clear hb12
  go_wp2_with fail
  go_ret
  exact ⟨rfl, B12.out⟩

theorem walk (l t f s : Int) (a1 : Option Addr) (len1 cap1 : Nat) (z1 : List Int) (w : World) (_w0 : (Lit.int .i64 l).wf = true) (w1 : (Lit.int .u8 t).wf = true) (w2 : (Lit.int .u8 f).wf = true) (_w3 : (Lit.int .i64 s).wf = true) (w4 : IsRow .u8 w a1 len1 cap1 z1) :
    Calls Try.prog 5 #[.agg #[.int .i64 l, .int .u8 t, .int .u8 f, .int .i64 s], .slice a1 len1 cap1] w fun e w' => e = .returned (.bool true) ∧ Below w.heap.size w w' := by
  obtain ⟨hr, _, _⟩ := rb_of_row w4
  cases hok : okH l s with
  | false => exact walk_no l t f s a1 len1 cap1 w hok
  | true =>
    by_cases hl : (30 : Int) < (len1 : Int)
    · exact walk_long l t f s a1 len1 cap1 w hok hl
    · refine walk_right l t f s (bounds_u8 w1).1 (bounds_u8 w1).2 (bounds_u8 w2).1 (bounds_u8 w2).2 a1 len1 cap1 _ w hok hr (by omega) ?_
      intro hn
      rcases w4 with ⟨_, a, b, _⟩ | ⟨x, e, _⟩
      · exact ⟨a, b⟩
      · rw [hn] at e; cases e
end Go.Proofs.Ytbpbnifnbfimeaa.fheadBack
