/-
  Layer 4: Check, the program's and the document's.
-/
import Derived.Test.YtchndegcnjejiaaDySize
import Derived.Deep.RegionHeld3
namespace Go.Proofs.Ytchndegcnjejiaa
open Go.RowKit

theorem dy_rightMax_yes (m : Int) (h : rmB m = true) (w : World) : Calls Try.prog 27 #[.int .i64 m] w fun e w' => e = .returned (.bool true) ∧ w = w' := by
  obtain ⟨h1, h2⟩ := rmB_bd h
  clear h
  go_enter Try.func27, Try.ntmps27
  go_wp2
  go_ret
  exact ⟨rfl, rfl⟩
theorem dy_rightMax_no (m : Int) (h : rmB m = false) (w : World) : Calls Try.prog 27 #[.int .i64 m] w fun e w' => e = .returned (.bool false) ∧ w = w' := by
  have h1 : m < 0 ∨ (0 ≤ m ∧ ¬ m ≤ 4096) := by
    unfold rmB at h
    simp at h
    omega
  clear h
  rcases h1 with h1 | ⟨h1, h2⟩
  · have h3 : ¬ 0 ≤ m := by omega
    go_enter Try.func27, Try.ntmps27
    go_wp2
    go_ret
    exact ⟨rfl, rfl⟩
  · go_enter Try.func27, Try.ntmps27
    go_wp2
    go_ret
    exact ⟨rfl, rfl⟩

theorem dy_never (a b : ByteArray) (x : Bool) (w : World) : Calls Try.prog 29 #[.agg #[.string a, .string b, .bool x]] w fun e w' => e = .returned (.bool x) ∧ Below w.heap.size w w' := by
  go_enter Try.func29, Try.ntmps29
  go_wp2
  go_ret
  exact ⟨rfl, (Below.refl _ _).alloc (Nat.le_refl _) _⟩

/-- What IndexFunc answers. -/
def NevAt (l : List Fd) (w : World) (e : Ending) (w' : World) : Prop := ∃ r : Int, e = .returned (.int .i64 r) ∧ (decide (0 ≤ r) = nevB l) ∧ Below w.heap.size w w'

set_option maxRecDepth 100000 in
set_option maxHeartbeats 1600000 in
theorem dy_IndexFunc (A : Option Addr) (n c : Nat) (l : List Fd) (w : World) (hfl : FL w A n c l) (hs : (szs l : Int) ≤ 1099511627776) :
    Calls Try.prog 38 #[.slice A n c, .func (.func 29) #[] #[]] w (NevAt l w) := by
  have hn : (n : Int) ≤ 1099511627776 := by have := szs_len l; have := hfl.len; omega
  have HFL := hide hfl
  clear hfl hs
  go_enter Try.func38, Try.ntmps38
  go_wp2_with fail
  go_loopw [8] (fun k wr => ∃ i : Nat, i ≤ n ∧ k = .int .i64 (i : Int) ∧ NoNev l i ∧ Below w.heap.size w wr) (fun k _ => n - (intOf k).toNat)
  case atStart => exact ⟨0, by omega, rfl, .zero l, Below.refl _ _⟩
  case round =>
    obtain ⟨i, hi, rfl, hno, hb⟩ := hrel
    have HB := hide hb
    have HNO := hide hno
    clear hb hno
    by_cases hlt : i < n
    · have hlt' : (i : Int) < (n : Int) := by omega
      obtain ⟨f, b, off, hf, rfl, hbl, c0, c1, c2⟩ := (HFL.out.keep HB.out).round hlt
      have HF := hide hf
      clear hf
      obtain ⟨x, hx⟩ : ∃ x, x = f.x := ⟨_, rfl⟩
      rw [← hx] at c2
      have HX := hide hx
      clear hx
      cases x with
      | true =>
        go_wp2_with (go_at_call 29; refine (dy_never _ _ _ _).mono ?_; rintro e w2 ⟨rfl, hb2⟩; have HB2 := hide hb2; clear hb2)
        go_ret
        exact ⟨(i : Int), rfl, by rw [nevB_yes HF.out HX.out.symm]; simp, HB.out.trans (HB2.out.mono HB.out.size)⟩
      | false =>
        go_wp2_with (go_at_call 29; refine (dy_never _ _ _ _).mono ?_; rintro e w2 ⟨rfl, hb2⟩; have HB2 := hide hb2; clear hb2)
        go_roundw
        case rel => exact ⟨i + 1, by omega, by go_num, HNO.out.succ HF.out HX.out.symm, HB.out.trans (HB2.out.mono HB.out.size)⟩
        case measure => simp [intOf]; omega
    · have hge : ¬ (i : Int) < (n : Int) := by omega
      obtain rfl : i = n := by omega
      go_wp2
      go_ret
      exact ⟨-1, rfl, by rw [nevB_no (by rw [HFL.out.len]; exact HNO.out)]; rfl, HB.out⟩

theorem dy_ContainsFunc (A : Option Addr) (n c : Nat) (l : List Fd) (w : World) (hfl : FL w A n c l) (hs : (szs l : Int) ≤ 1099511627776) :
    Calls Try.prog 28 #[.slice A n c, .func (.func 29) #[] #[]] w fun e w' => e = .returned (.bool (nevB l)) ∧ Below w.heap.size w w' := by
  have HC := hide (dy_IndexFunc A n c l w hfl hs)
  clear hfl hs
  go_enter Try.func28, Try.ntmps28
  go_wp2_with fail
  refine HC.out.mono ?_
  rintro e w2 ⟨r, rfl, hr, hb2⟩
  have HB2 := hide hb2
  have HR := hide hr
  clear hb2 hr HC
  go_wp2
  go_ret
  exact ⟨by rw [← HR.out]; rfl, HB2.out⟩

theorem chkI_8 {m : Int} {l : List Fd} (h : rmB m = false) : chkI m l = 8 := if_pos h
theorem chkI_4 {m : Int} {l : List Fd} (h : rmB m = true) (h' : nevB l = true) : chkI m l = 4 := by
  unfold chkI; rw [h, h']; rfl
theorem chkI_5 {m : Int} {l : List Fd} (h : rmB m = true) (h' : nevB l = false) (h2 : m < (szs l : Int)) : chkI m l = 5 := by
  unfold chkI; rw [h, h', if_pos h2]; rfl
theorem chkI_0 {m : Int} {l : List Fd} (h : rmB m = true) (h' : nevB l = false) (h2 : ¬ m < (szs l : Int)) : chkI m l = 0 := by
  unfold chkI; rw [h, h', if_neg h2]; rfl

set_option maxRecDepth 100000 in
set_option maxHeartbeats 1600000 in
theorem dy_Check (m : Int) (A : Option Addr) (n c : Nat) (l : List Fd) (w : World) (hfl : FL w A n c l) (hs : (szs l : Int) ≤ 1099511627776) :
    Calls Try.prog 14 #[.agg #[.int .i64 m, .slice A n c]] w fun e w' => e = .returned (.int .i64 (chkI m l)) ∧ Below w.heap.size w w' := by
  obtain ⟨C, hC⟩ : ∃ C, C = chkI m l := ⟨_, rfl⟩
  rw [← hC]
  have HCK := hide hC
  clear hC
  have HFL := hide (hfl.alloc (.cells #[.int .i64 m, .slice A n c] 27))
  have HS := hide hs
  have K0 := hide (BlkIs.new w 27 #[.int .i64 m, .slice A n c])
  have B0 := hide ((Below.refl w.heap.size w).alloc (Nat.le_refl _) (.cells #[.int .i64 m, .slice A n c] 27))
  clear hfl hs
  by_cases hm : rmB m = false
  · have HM := hide hm
    clear hm
    go_enter Try.func14, Try.ntmps14
    go_wp2_with (go_at_call 27; refine (dy_rightMax_no _ HM.out _).mono ?_; rintro e w2 ⟨rfl, rfl⟩)
    go_ret
    exact ⟨by rw [HCK.out, chkI_8 HM.out]; rfl, B0.out⟩
  · have HM := hide (show rmB m = true by simpa using hm)
    clear hm
    have HN := hide (dy_ContainsFunc A n c l _ HFL.out HS.out)
    obtain ⟨x, hx⟩ : ∃ x, x = nevB l := ⟨_, rfl⟩
    rw [← hx] at HN
    have HX := hide hx
    clear hx
    cases x with
    | true =>
      go_enter Try.func14, Try.ntmps14
      go_wp2_with (first
        | (go_at_call 27; refine (dy_rightMax_yes _ HM.out _).mono ?_; rintro e w2 ⟨rfl, rfl⟩)
        | (go_at_call 28; refine HN.out.mono ?_; rintro e w2 ⟨rfl, hb2⟩; have HB2 := hide hb2; clear hb2))
      go_ret
      exact ⟨by rw [HCK.out, chkI_4 HM.out HX.out.symm]; rfl, B0.out.trans (HB2.out.mono B0.out.size)⟩
    | false =>
      go_enter Try.func14, Try.ntmps14
      go_wp2_with (first
        | (go_at_call 27; refine (dy_rightMax_yes _ HM.out _).mono ?_; rintro e w2 ⟨rfl, rfl⟩)
        | fail)
      refine HN.out.mono ?_
      rintro e w2 ⟨rfl, hb2⟩
      have K2 := hide (K0.out.keep hb2)
      have F2 := hide (HFL.out.keep hb2)
      have B2 := hide (B0.out.trans (hb2.mono B0.out.size))
      obtain ⟨g, hg⟩ : ∃ g, g = w.heap.size := ⟨_, rfl⟩
      rw [← hg] at K2 ⊢
      have c0 := K2.out.drew.cell 0
      have c1 := K2.out.drew.cell 1
      have HG := hide hg
      simp only [List.getElem?_toArray, List.getElem?_cons_zero, List.getElem?_cons_succ] at c0 c1
      clear hb2 K0 HFL B0 HN hg
      obtain ⟨z, hz⟩ : ∃ z : Nat, z = szs l := ⟨_, rfl⟩
      have HZ := hide hz
      have SC := hide (dy_Size m A n c l _ F2.out.drew HS.out)
      rw [← hz] at SC
      clear hz
      go_wp2_with fail
      go_region_with (go_at_call 12; refine SC.out.mono ?_; rintro e w3 ⟨rfl, hb3⟩; have K3 := K2.out.drew.keep hb3; have d0 := K3.cell 0; simp only [List.getElem?_toArray, List.getElem?_cons_zero] at d0; have HB3 := hide hb3; clear hb3 K3)
      all_goals
        go_wp2
        all_goals
          go_ret
          have hbb := B2.out.drew
          refine ⟨?_, hbb.trans (HB3.out.mono (by have h1 := hbb.size; omega))⟩
          rw [HCK.out]
          have hz := HZ.out
          first
            | (rw [chkI_5 HM.out HX.out.symm (by rw [← hz]; omega)]; rfl)
            | (rw [chkI_0 HM.out HX.out.symm (by rw [← hz]; omega)]; rfl)
end Go.Proofs.Ytchndegcnjejiaa
