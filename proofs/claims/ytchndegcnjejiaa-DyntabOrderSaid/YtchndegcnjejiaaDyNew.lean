/-
  Layer 4: the newest fields; copies of lists.
-/
import Derived.Test.YtchndegcnjejiaaDySize
namespace Go.Proofs.Ytchndegcnjejiaa
open Go.RowKit

theorem fit_stop {l : List Fd} {q : Int} {k : Nat} {f : Fd} (hf : l[k]? = some f) (h1 : k = 0 ∨ (szs (l.take k) : Int) ≤ q) (h2 : q - (szs (l.take k) : Int) - (szF f : Int) < 0) : fitK l q = k := by
  have hk := (List.getElem?_eq_some_iff.1 hf).1
  refine fitK_eq ⟨by omega, fun h => by rcases h1 with h1 | h1 <;> omega, fun _ => ?_⟩
  rw [szs_take_succ l k f hf]
  omega
theorem fit_all {l : List Fd} {q : Int} (h1 : l.length = 0 ∨ (szs l : Int) ≤ q) : fitK l q = l.length := by
  refine fitK_eq ⟨Nat.le_refl _, fun h => ?_, fun h => absurd h (by omega)⟩
  rw [List.take_length]
  rcases h1 with h1 | h1 <;> omega

set_option maxRecDepth 100000 in
set_option maxHeartbeats 1600000 in
theorem dy_newest (m : Int) (A : Option Addr) (n c : Nat) (l : List Fd) (q : Int) (hq0 : 0 ≤ q) (hq1 : q ≤ 1099511627776) (w : World) (hfl : FL w A n c l) (hs : (szs l : Int) ≤ 1099511627776) :
    Calls Try.prog 40 #[.agg #[.int .i64 m, .slice A n c], .int .i64 q] w fun e w' => e = .returned (.slice A (fitK l q) c) ∧ Below w.heap.size w w' := by
  have hn : (n : Int) ≤ 1099511627776 := by have := szs_len l; have := hfl.len; omega
  have hcm : (c : Int) ≤ (maxLen : Int) := by have := hfl.max; omega
  have hnc := hfl.le
  have HFL := hide (hfl.alloc (.cells #[.int .i64 m, .slice A n c] 27))
  have B0 := hide ((Below.refl w.heap.size w).alloc (Nat.le_refl _) (.cells #[.int .i64 m, .slice A n c] 27))
  have K0 := hide (BlkIs.new w 27 #[.int .i64 m, .slice A n c])
  have HS := hide hs
  clear hfl hs
  have hz := run_zero_is st_zero_raw
  obtain ⟨K, hK⟩ : ∃ K, K = fitK l q := ⟨_, rfl⟩
  rw [← hK]
  have HK := hide hK
  clear hK
  obtain ⟨S, hS⟩ : ∃ S : Nat → Nat, ∀ k, S k = szs (l.take k) := ⟨_, fun _ => rfl⟩
  have HSZ := hide hS
  clear hS
  obtain ⟨W, hW⟩ : ∃ W, W = w.alloc (.cells #[.int .i64 m, .slice A n c] 27) := ⟨_, rfl⟩
  rw [← hW] at HFL B0 K0
  obtain ⟨g, hg⟩ : ∃ g, g = w.heap.size := ⟨_, rfl⟩
  rw [← hg] at K0
  have HW := hide hW
  have HG := hide hg
  clear hW hg
  have HNC := hide hnc
  have HCM := hide hcm
  clear hnc hcm
  go_enter Try.func40, Try.ntmps40
  go_wp2_with fail
  rw [← HW.out, ← HG.out]
  go_loopw [1, 10] (fun s k wr => ∃ i : Nat, i ≤ n ∧ k = .int .i64 (i : Int) ∧ s = .int .i64 (q - (S i : Int)) ∧ (i = 0 ∨ (S i : Int) ≤ q) ∧ Below W.heap.size W wr) (fun _ k _ => n - (intOf k).toNat)
  case atStart => exact ⟨0, by omega, rfl, by rw [HSZ.out]; simp [szs], .inl rfl, Below.refl _ _⟩
  case round =>
    obtain ⟨i, hi, rfl, rfl, hno, hb⟩ := hrel
    have HB := hide hb
    have HNO := hide hno
    have KR := hide (K0.out.keep hb)
    clear hb hno
    have q1 := KR.out.cell 1
    simp only [List.getElem?_toArray, List.getElem?_cons_zero, List.getElem?_cons_succ] at q1
    by_cases hlt : i < n
    · have hlt' : (i : Int) < (n : Int) := by omega
      obtain ⟨f, b, off, hf, rfl, hbl, c0, c1, c2⟩ := (HFL.out.keep HB.out).round hlt
      have hgt := szs_get l i f hf
      have hst := szs_take_succ l i f hf
      have htl := szs_take_le l (i + 1)
      have hsb : (S i : Int) + ((f.n.size + f.v.size + 32 : Nat) : Int) ≤ 1099511627776 := by rw [HSZ.out]; have := HS.out; unfold szF at hst; omega
      have HC := hide (fd_Size f.n f.v f.x (by have := HS.out; unfold szF at hgt; omega))
      have HE := hide (show (S (i + 1) : Int) = (S i : Int) + ((f.n.size + f.v.size + 32 : Nat) : Int) by rw [HSZ.out, HSZ.out]; unfold szF at hst; omega)
      have HF := hide hf
      have HZF := hide (show szF f = f.n.size + f.v.size + 32 from rfl)
      obtain ⟨z, hz'⟩ : ∃ z : Nat, z = f.n.size + f.v.size + 32 := ⟨_, rfl⟩
      rw [← hz'] at HC HE HZF hsb
      have hs0 : (0 : Int) ≤ (S i : Int) := by omega
      have hz0 : (0 : Int) ≤ (z : Int) := by omega
      have hz1 : (z : Int) ≤ 1099511627776 := by omega
      clear hgt hst htl hz' hf
      obtain ⟨y, hy⟩ : ∃ y : Int, y = q - (S i : Int) := ⟨_, rfl⟩
      have HY := hide hy
      have hy0 : -1099511627776 ≤ y := by omega
      have hy1 : y ≤ 1099511627776 := by omega
      rw [← hy]
      clear hy hs0 hsb
      by_cases hlow : y - (z : Int) < 0
      · have HL := hide (show K = i by rw [HK.out]; exact fit_stop HF.out (by have := HNO.out; rwa [HSZ.out] at this) (by rw [HZF.out]; have h1 := HY.out; have h2 := HSZ.out i; rw [← h2]; omega))
        have hic : i ≤ c := by have := HNC.out; omega
        go_wp2_with (go_at_call 22; refine (HC.out _).mono ?_; rintro e w2 ⟨rfl, hb2⟩; have HB2 := hide hb2; have K2 := hide ((KR.out.alloc (.cells #[.string f.n, .string f.v, .bool f.x] 29)).keep hb2); have d1 := K2.out.cell 1; simp only [List.getElem?_toArray, List.getElem?_cons_zero, List.getElem?_cons_succ] at d1; clear hb2)
        go_ret
        refine ⟨by rw [HL.out]; rfl, ?_⟩
        have h1 := B0.out.trans (HB.out.mono B0.out.size)
        exact (h1.alloc h1.size _).trans (HB2.out.mono (by have := h1.size; simp; omega))
      · have HT := hide (show y - (z : Int) = q - (S (i + 1) : Int) by rw [HE.out, HY.out]; omega)
        have HN1 := hide (show (S (i + 1) : Int) ≤ q by rw [HE.out]; have := HY.out; omega)
        go_wp2_with (go_at_call 22; refine (HC.out _).mono ?_; rintro e w2 ⟨rfl, hb2⟩; have HB2 := hide hb2; clear hb2)
        go_roundw
        case rel =>
          have hbb := HB.out
          exact ⟨i + 1, by omega, by go_num, by rw [HT.out], .inr HN1.out, (hbb.alloc hbb.size _).trans (HB2.out.mono (by have := hbb.size; simp; omega))⟩
        case measure => simp [intOf]; omega
    · have hge : ¬ (i : Int) < (n : Int) := by omega
      obtain rfl : i = n := by omega
      have HL := hide (show K = i by
        rw [HK.out, fit_all (by have := HNO.out; rw [HSZ.out, ← HFL.out.len, List.take_length] at this; exact this), HFL.out.len])
      go_wp2
      go_ret
      exact ⟨by rw [HL.out]; rfl, B0.out.trans (HB.out.mono B0.out.size)⟩

/-- A list handed back. -/
def ListIs (l : List Fd) (w : World) (e : Ending) (w' : World) : Prop := ∃ A n c, e = .returned (.slice A n c) ∧ FL w' A n c l ∧ Below w.heap.size w w'

set_option maxRecDepth 100000 in
set_option maxHeartbeats 1600000 in
theorem sl_Clone (A : Option Addr) (n c : Nat) (l : List Fd) (w : World) (hfl : FL w A n c l) (hn : (n : Int) ≤ 1000000000) :
    Calls Try.prog 39 #[.slice A n c] w (ListIs l w) := by
  have hq := fun w => Lib.run_eql_slice_nil (P := Try.prog) w 22 29 A n c 0 0 Try.underlying22
  cases A with
  | none =>
    have hc := hfl.nil_ rfl
    subst hc
    have hn0 : n = 0 := by have := hfl.le; omega
    subst hn0
    have HFL := hide hfl
    clear hfl
    go_enter Try.func39, Try.ntmps39
    go_wp2
    go_ret
    exact ⟨none, 0, 0, rfl, HFL.out, Below.refl _ _⟩
  | some ad =>
    have HFL := hide hfl
    have HN := hide hn
    clear hfl hn
    go_enter Try.func39, Try.ntmps39
    have HO := hide (World.ownsRow_lit (size := 3) (base := w.heap.size) (e := 29) w #[] 0 (Nat.le_refl _) (Nat.zero_le _) rfl)
    have HFA := hide (HFL.out.alloc (.cells #[] 29))
    go_wp2_with (at_builtin; refine wpList_append_fl _ rfl (.tmp 5) (.tmp 6) rfl w.heap.size _ 0 [] rfl HO.out (some ad) n c l rfl HFA.out (by have := HN.out; omega) (by simp) ?_; intro v1 w1 hown1 hg1; have HO1 := hide hown1; have HG1 := hide hg1; clear hown1 hg1)
    go_ret
    obtain ⟨A1, c1, rfl, hf1⟩ := own_fields HO1.out
    refine ⟨A1, _, c1, rfl, ?_, own_below_f HO.out ((Below.refl _ _).alloc (Nat.le_refl _) _) (Nat.le_refl _) (Nat.le_refl _) HG1.out⟩
    exact hf1

/-- What Grow of nothing leaves. -/
def GrownIs (_N : Nat) (w : World) (e : Ending) (w' : World) : Prop := ∃ g C, e = .returned (.slice (some ⟨g, 0, none⟩) 0 C) ∧ w'.ownsRow w.heap.size 29 3 (.slice (some ⟨g, 0, none⟩) 0 C) 0 (fcs []) ∧ Below w.heap.size w w'

set_option maxRecDepth 100000 in
set_option maxHeartbeats 1600000 in
theorem sl_Grow (N : Nat) (h0 : 0 < N) (hN : (N : Int) ≤ 1000000000) (w : World) :
    Calls Try.prog 42 #[.slice none 0 0, .int .i64 (N : Int)] w (GrownIs N w) := by
  obtain ⟨i0, hi0, hz0, hz1, hz2⟩ := info_parts fd_info
  have hrun := Lib.run_append_nil_zeros (P := Try.prog) w 22 3 22 29 i0 _ .i64 .i64 Try.underlying22 Try.underlying3 hi0 hz0 N h0 (by omega) (by omega) (by rw [hz2]; omega)
  have hcap := grownCap_ge w N 0 29
  have hcm := grownCap_le_maxLen w N 0 29 (by unfold maxLen; omega)
  obtain ⟨C, hC⟩ : ∃ C, C = grownCap w N 0 29 := ⟨_, rfl⟩
  rw [← hC] at hrun hcap hcm
  have hcz : (Builtin.zeroCells #[Value.string ⟨#[]⟩, Value.string ⟨#[]⟩, Value.bool false] N ++ Builtin.zeroCells #[Value.string ⟨#[]⟩, Value.string ⟨#[]⟩, Value.bool false] (C - N)).size = C * 3 := by
    rw [Array.size_append, size_zeroCells, size_zeroCells]
    show N * 3 + (C - N) * 3 = C * 3
    omega
  obtain ⟨Z, hZ⟩ : ∃ Z, Z = Builtin.zeroCells #[Value.string ⟨#[]⟩, Value.string ⟨#[]⟩, Value.bool false] N ++ Builtin.zeroCells #[Value.string ⟨#[]⟩, Value.string ⟨#[]⟩, Value.bool false] (C - N) := ⟨_, rfl⟩
  have hrun' : (Builtin.append_ #[22, 3] 22 #[.slice none 0 0, .int .i64 (N : Int)]).run Try.prog w = .ok (.slice (some ⟨w.heap.size, 0, none⟩) N C) (w.drew.alloc (.cells Z 29)) := by rw [hZ]; exact hrun
  rw [← hZ] at hcz
  have HRUN := hide hrun'
  have HFIN := hide (show (w.drew.alloc (.cells Z 29)).ownsRow w.heap.size 29 3 (.slice (some ⟨w.heap.size, 0, none⟩) 0 C) 0 (fcs []) from
    ⟨rfl, .inr ⟨w.heap.size, C, Z, rfl, Nat.le_refl _, heap_alloc_new w.drew _, Nat.zero_le _, hcm, hcz, by simp [fcs]⟩⟩)
  have hC0 : (0 : Int) ≤ (C : Int) := by omega
  clear hrun hrun' hZ hcz hi0 hz0 hz1 hz2 hC hcap hcm
  go_enter Try.func42, Try.ntmps42
  go_wp2_with (at_builtin; refine Lib.wpList_append_run _ rfl _ _ _ _ rfl _ _ rfl rfl _ _ HRUN.out ?_)
  go_ret
  exact ⟨w.heap.size, C, rfl, HFIN.out, ((Below.refl _ _).drew).alloc (Nat.le_refl _) _⟩
end Go.Proofs.Ytchndegcnjejiaa
