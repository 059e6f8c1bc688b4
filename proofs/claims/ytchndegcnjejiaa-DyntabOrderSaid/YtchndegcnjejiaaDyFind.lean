/-
  Layer 4: Find, the program's and the document's.
-/
import Derived.Test.YtchndegcnjejiaaDyAt
namespace Go.Proofs.Ytchndegcnjejiaa
open Go.RowKit

/-- What Find leaves, of either. -/
def FindsL (l : List Fd) (n v : ByteArray) (w : World) (e : Ending) (w' : World) : Prop := ∃ (r : Nat) (b : Bool), e = .returned (.tuple #[.int .i64 (r : Int), .bool b]) ∧ FindL l n v r b ∧ Below w.heap.size w w'

set_option maxRecDepth 100000 in
set_option maxHeartbeats 1600000 in
theorem dy_Find (m : Int) (A : Option Addr) (n c : Nat) (l : List Fd) (a v : ByteArray) (w : World) (hfl : FL w A n c l) (hn : (n : Int) ≤ 1099511627776) :
    Calls Try.prog 10 #[.agg #[.int .i64 m, .slice A n c], .string a, .string v] w (FindsL l a v w) := by
  obtain ⟨F, hF⟩ : ∃ F, F = fdN l a := ⟨_, rfl⟩
  have HF := hide hF
  clear hF
  have HFL := hide (hfl.alloc (.cells #[.int .i64 m, .slice A n c] 27))
  have B0 := hide ((Below.refl w.heap.size w).alloc (Nat.le_refl _) (.cells #[.int .i64 m, .slice A n c] 27))
  have K0 := hide (BlkIs.new w 27 #[.int .i64 m, .slice A n c])
  have hz := run_zero_is st_zero_raw
  clear hfl
  go_enter Try.func10, Try.ntmps10
  go_wp2_with fail
  refine (st_Find a v _).mono ?_
  rintro e w1 ⟨r0, b0, rfl, hf0, hb1⟩
  have B1 := hide (B0.out.trans (hb1.mono B0.out.size))
  have F1 := hide (HFL.out.keep hb1)
  have K1 := hide (K0.out.keep hb1)
  obtain ⟨g, hg⟩ : ∃ g, g = w.heap.size := ⟨_, rfl⟩
  rw [← hg] at K1 ⊢
  have q1 := K1.out.cell 1
  simp only [List.getElem?_toArray, List.getElem?_cons_zero, List.getElem?_cons_succ] at q1
  clear hb1 B0 HFL K0 hg
  cases b0 with
  | true =>
    have H0 := hide (FindL_of_yes l hf0)
    clear hf0
    go_wp2
    go_ret2
    exact ⟨r0, true, rfl, H0.out, B1.out⟩
  | false =>
    have H0 := hide (FindIs_no l hf0)
    clear hf0
    go_wp2_with fail
    go_loopw [8, 23] (fun nd k wr => ∃ i : Nat, i ≤ n ∧ k = .int .i64 (i : Int) ∧ nd = .int .i64 (F (61 + i) : Nat) ∧ NoneL l a v (61 + i) ∧ Below w1.heap.size w1 wr) (fun _ k _ => n - (intOf k).toNat)
    case atStart => exact ⟨0, by omega, rfl, by rw [HF.out, H0.out.1], H0.out.2, Below.refl _ _⟩
    case round =>
      obtain ⟨i, hi, rfl, rfl, hno, hbel⟩ := hrel
      have HNO := hide hno
      have HBEL := hide hbel
      clear hno hbel
      by_cases hlt : i < n
      · have hlt' : (i : Int) < (n : Int) := by omega
        obtain ⟨f, b, off, hf, rfl, hbl, c0, c1, c2⟩ := (F1.out.keep HBEL.out).round hlt
        have HD := hide (fdL_high l hf)
        clear hf
        have HB2 := hide ((B1.out.trans (HBEL.out.mono B1.out.size)).alloc (by have := B1.out.size; have := HBEL.out.size; omega) (.cells #[.string f.n, .string f.v, .bool f.x] 29))
        have HB3 := hide (HBEL.out.alloc HBEL.out.size (.cells #[.string f.n, .string f.v, .bool f.x] 29))
        obtain ⟨y, hy⟩ : ∃ y, y = F (61 + i) := ⟨_, rfl⟩
        have HFK := hide hy
        rw [← hy]
        clear hy
        have hyb : (y : Int) ≤ 1099511627900 := by rw [HFK.out, HF.out]; have := fdN_le l a (61 + i); omega
        by_cases hnm : f.n = a
        · have he := str_same hnm
          have hne : (!f.n.toList == a.toList) = false := by rw [he]; rfl
          have HNM := hide (show (fdL l (61 + i)).n = a by rw [HD.out]; exact hnm)
          clear hnm
          by_cases hvl : f.v = v
          · have hve := str_same hvl
            have HVV := hide (show (fdL l (61 + i)).v = v by rw [HD.out]; exact hvl)
            clear hvl
            have HL := hide (show i < l.length by rw [F1.out.len]; exact hlt)
            go_wp2
            go_ret2
            exact ⟨61 + i + 1, true, ret_find (by omega) rfl, .inl ⟨rfl, by omega, by have := HL.out; omega, by rw [Nat.add_sub_cancel]; exact HNM.out, by rw [Nat.add_sub_cancel]; exact HVV.out, by rw [Nat.add_sub_cancel]; exact HNO.out⟩, HB2.out⟩
          · have hve := str_not hvl
            have HNO' := hide (HNO.out.succ (k := 61 + i) (fun e => hvl (by have := e.2; rwa [HD.out] at this)))
            clear hvl
            by_cases hf0 : y = 0
            · have hfi : ((y : Int) == 0) = true := by simp [hf0]
              have HF' := hide (show F (61 + i + 1) = 61 + i + 1 by rw [HF.out]; exact fdN_first HNM.out (by rw [← HF.out, ← HFK.out]; exact hf0))
              clear hf0
              go_wp2
              go_roundw
              case rel => exact ⟨i + 1, by omega, by go_num, by rw [← Nat.add_assoc, HF'.out]; go_num, HNO'.out, HB3.out⟩
              case measure => simp [intOf]; omega
            · have hfi : ((y : Int) == 0) = false := by simp; omega
              have HF' := hide (show F (61 + i + 1) = y by rw [HF.out, fdN_later (by rw [← HF.out, ← HFK.out]; exact hf0), ← HF.out, ← HFK.out])
              clear hf0
              go_wp2
              go_roundw
              case rel => exact ⟨i + 1, by omega, by go_num, by rw [← Nat.add_assoc, HF'.out], HNO'.out, HB3.out⟩
              case measure => simp [intOf]; omega
        · have he := str_not hnm
          have hne : (!f.n.toList == a.toList) = true := by rw [he]; rfl
          have HF' := hide (show F (61 + i + 1) = y by rw [HF.out, fdN_same (by rw [HD.out]; exact hnm), ← HF.out, ← HFK.out])
          have HNO' := hide (HNO.out.succ (k := 61 + i) (fun e => hnm (by have := e.1; rwa [HD.out] at this)))
          clear hnm
          go_wp2
          go_roundw
          case rel => exact ⟨i + 1, by omega, by go_num, by rw [← Nat.add_assoc, HF'.out], HNO'.out, HB3.out⟩
          case measure => simp [intOf]; omega
      · have hge : ¬ (i : Int) < (n : Int) := by omega
        obtain rfl : i = n := by omega
        obtain ⟨y, hy⟩ : ∃ y, y = F (61 + i) := ⟨_, rfl⟩
        have HFK := hide hy
        rw [← hy]
        clear hy
        have HL := hide F1.out.len
        go_wp2
        go_ret2
        exact ⟨y, false, rfl, .inr ⟨rfl, by rw [HFK.out, HF.out, HL.out], by rw [HL.out]; exact HNO.out⟩, B1.out.trans (HBEL.out.mono B1.out.size)⟩

theorem atF_nat (l : List Fd) (k : Nat) (hk : k < 61 + l.length) : atF l ((k : Int) + 1) = fdL l k ∧ atB l ((k : Int) + 1) = true := by
  have hb : atB l ((k : Int) + 1) = true := by unfold atB; simp; omega
  refine ⟨?_, hb⟩
  unfold atF
  rw [if_pos hb, show ((k : Int) + 1 - 1).toNat = k by omega]
theorem rf_At04_nat (m : Int) (A : Option Addr) (n c : Nat) (l : List Fd) (w : World) (hfl : FL w A n c l) (hn : (n : Int) ≤ 1099511627776) (k : Nat) (hk : k < 61 + n) :
    Calls Try.prog 9 #[.agg #[.int .i64 m, .slice A n c], .int .i64 ((k : Int) + 1)] w fun e w' => e = .returned (.tuple #[.agg #[.string (fdL l k).n, .string (fdL l k).v, .bool (fdL l k).x], .bool true]) ∧ Below w.heap.size w w' := by
  have h := rf_At04 m A n c l w hfl hn ((k : Int) + 1) (by omega)
  unfold AtIs at h
  obtain ⟨e1, e2⟩ := atF_nat l k (by rw [hfl.len]; exact hk)
  rw [e1, e2] at h
  exact h
theorem dy_At_nat (m : Int) (A : Option Addr) (n c : Nat) (l : List Fd) (w : World) (hfl : FL w A n c l) (hn : (n : Int) ≤ 1099511627776) (k : Nat) (hk : k < 61 + n) :
    Calls Try.prog 8 #[.agg #[.int .i64 m, .slice A n c], .int .i64 ((k : Int) + 1)] w fun e w' => e = .returned (.tuple #[.agg #[.string (fdL l k).n, .string (fdL l k).v, .bool (fdL l k).x], .bool true]) ∧ Below w.heap.size w w' := by
  have h := dy_At m A n c l w hfl hn ((k : Int) + 1) (by omega)
  unfold AtIs at h
  obtain ⟨e1, e2⟩ := atF_nat l k (by rw [hfl.len]; exact hk)
  rw [e1, e2] at h
  exact h

set_option maxRecDepth 100000 in
set_option maxHeartbeats 1600000 in
theorem rf_Find04 (m : Int) (A : Option Addr) (n c : Nat) (l : List Fd) (a v : ByteArray) (w : World) (hfl : FL w A n c l) (hn : (n : Int) ≤ 1099511627776) :
    Calls Try.prog 11 #[.agg #[.int .i64 m, .slice A n c], .string a, .string v] w (FindsL l a v w) := by
  obtain ⟨F, hF⟩ : ∃ F, F = fdN l a := ⟨_, rfl⟩
  have HF := hide hF
  clear hF
  have HFL := hide (hfl.alloc (.cells #[.int .i64 m, .slice A n c] 24))
  have B0 := hide ((Below.refl w.heap.size w).alloc (Nat.le_refl _) (.cells #[.int .i64 m, .slice A n c] 24))
  have K0 := hide (BlkIs.new w 24 #[.int .i64 m, .slice A n c])
  have hz := run_zero_is st_zero_raw
  clear hfl
  obtain ⟨W, hW⟩ : ∃ W, W = w.alloc (.cells #[.int .i64 m, .slice A n c] 24) := ⟨_, rfl⟩
  rw [← hW] at HFL B0 K0
  obtain ⟨g, hg⟩ : ∃ g, g = w.heap.size := ⟨_, rfl⟩
  rw [← hg] at K0
  have HW := hide hW
  have HG := hide hg
  clear hW hg
  go_enter Try.func11, Try.ntmps11
  go_wp2_with fail
  rw [← HW.out, ← HG.out]
  go_loopw [8, 9] (fun nd k wr => ∃ i : Nat, i ≤ 61 + n ∧ k = .int .i64 ((i : Int) + 1) ∧ nd = .int .i64 (F i : Nat) ∧ NoneL l a v i ∧ Below W.heap.size W wr) (fun _ k _ => 62 + n - (intOf k).toNat)
  case atStart => exact ⟨0, by omega, rfl, by rw [HF.out]; rfl, .zero l a v, Below.refl _ _⟩
  case round =>
    obtain ⟨i, hi, rfl, rfl, hno, hbel⟩ := hrel
    have HNO := hide hno
    have HBEL := hide hbel
    have KR := hide (K0.out.keep hbel)
    have FR := hide (HFL.out.keep hbel)
    clear hno hbel
    have q0 := KR.out.cell 0
    have q1 := KR.out.cell 1
    simp only [List.getElem?_toArray, List.getElem?_cons_zero, List.getElem?_cons_succ] at q0 q1
    have hi' : (i : Int) ≤ 1099511628000 := by omega
    by_cases hlt : i < 61 + n
    · have hlt' : (i : Int) + 1 ≤ 61 + (n : Int) := by omega
      have HC := hide (rf_At04_nat m A n c l wr FR.out hn i hlt)
      obtain ⟨N, hN⟩ : ∃ N, N = (fdL l i).n := ⟨_, rfl⟩
      obtain ⟨V, hV⟩ : ∃ V, V = (fdL l i).v := ⟨_, rfl⟩
      obtain ⟨X, hX⟩ : ∃ X, X = (fdL l i).x := ⟨_, rfl⟩
      have HN := hide hN
      have HV := hide hV
      rw [← hN, ← hV, ← hX] at HC
      clear hN hV hX
      obtain ⟨y, hy⟩ : ∃ y, y = F i := ⟨_, rfl⟩
      have HFK := hide hy
      rw [← hy]
      clear hy
      have hyb : (y : Int) ≤ 1099511628000 := by rw [HFK.out, HF.out]; have := fdN_le l a i; omega
      by_cases hnm : N = a
      · have he := str_same hnm
        have hne : (!N.toList == a.toList) = false := by rw [he]; rfl
        have HNM := hide (show (fdL l i).n = a by rw [← HN.out]; exact hnm)
        clear hnm
        by_cases hvl : V = v
        · have hve := str_same hvl
          have HVV := hide (show (fdL l i).v = v by rw [← HV.out]; exact hvl)
          clear hvl
          have HL := hide (show i < 61 + l.length by rw [FR.out.len]; exact hlt)
          go_wp2_with (go_at_call 9; refine HC.out.mono ?_; rintro e w2 ⟨rfl, hb2⟩; have HB2 := hide hb2; clear hb2)
          go_ret2
          refine ⟨i + 1, true, ret_find (by omega) rfl, .inl ⟨rfl, by omega, by have := HL.out; omega, by rw [Nat.add_sub_cancel]; exact HNM.out, by rw [Nat.add_sub_cancel]; exact HVV.out, by rw [Nat.add_sub_cancel]; exact HNO.out⟩, ?_⟩
          have h1 := B0.out.trans (HBEL.out.mono B0.out.size)
          have h2 := h1.trans (HB2.out.mono h1.size)
          exact h2.alloc h2.size _
        · have hve := str_not hvl
          have HNO' := hide (HNO.out.succ (k := i) (fun e => hvl (by rw [HV.out]; exact e.2)))
          clear hvl
          by_cases hf0 : y = 0
          · have hfi : ((y : Int) == 0) = true := by simp [hf0]
            have HF' := hide (show F (i + 1) = i + 1 by rw [HF.out]; exact fdN_first HNM.out (by rw [← HF.out, ← HFK.out]; exact hf0))
            clear hf0
            go_wp2_with (go_at_call 9; refine HC.out.mono ?_; rintro e w2 ⟨rfl, hb2⟩; have HB2 := hide (HBEL.out.trans (hb2.mono HBEL.out.size)); clear hb2)
            go_roundw
            case rel => exact ⟨i + 1, by omega, by go_num, by rw [HF'.out]; go_num, HNO'.out, HB2.out.alloc HB2.out.size _⟩
            case measure => simp [intOf]; omega
          · have hfi : ((y : Int) == 0) = false := by simp; omega
            have HF' := hide (show F (i + 1) = y by rw [HF.out, fdN_later (by rw [← HF.out, ← HFK.out]; exact hf0), ← HF.out, ← HFK.out])
            clear hf0
            go_wp2_with (go_at_call 9; refine HC.out.mono ?_; rintro e w2 ⟨rfl, hb2⟩; have HB2 := hide (HBEL.out.trans (hb2.mono HBEL.out.size)); clear hb2)
            go_roundw
            case rel => exact ⟨i + 1, by omega, by go_num, by rw [HF'.out], HNO'.out, HB2.out.alloc HB2.out.size _⟩
            case measure => simp [intOf]; omega
      · have he := str_not hnm
        have hne : (!N.toList == a.toList) = true := by rw [he]; rfl
        have HF' := hide (show F (i + 1) = y by rw [HF.out, fdN_same (by rw [← HN.out]; exact hnm), ← HF.out, ← HFK.out])
        have HNO' := hide (HNO.out.succ (k := i) (fun e => hnm (by rw [HN.out]; exact e.1)))
        clear hnm
        go_wp2_with (go_at_call 9; refine HC.out.mono ?_; rintro e w2 ⟨rfl, hb2⟩; have HB2 := hide (HBEL.out.trans (hb2.mono HBEL.out.size)); clear hb2)
        go_roundw
        case rel => exact ⟨i + 1, by omega, by go_num, by rw [HF'.out], HNO'.out, HB2.out.alloc HB2.out.size _⟩
        case measure => simp [intOf]; omega
    · have hge : ¬ (i : Int) + 1 ≤ 61 + (n : Int) := by omega
      obtain rfl : i = 61 + n := by omega
      obtain ⟨y, hy⟩ : ∃ y, y = F (61 + n) := ⟨_, rfl⟩
      have HFK := hide hy
      rw [← hy]
      clear hy
      have HL := hide FR.out.len
      go_wp2
      go_ret2
      exact ⟨y, false, rfl, .inr ⟨rfl, by rw [HFK.out, HF.out, HL.out], by rw [HL.out]; exact HNO.out⟩, B0.out.trans (HBEL.out.mono B0.out.size)⟩
end Go.Proofs.Ytchndegcnjejiaa
