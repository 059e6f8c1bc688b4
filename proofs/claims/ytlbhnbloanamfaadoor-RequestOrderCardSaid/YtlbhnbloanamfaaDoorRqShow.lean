/-
  Layer 17: a number's digits: the document's show; a request's fields as a list.
-/
import Derived.Test.YtlbhnbloanamfaaDoorRqList
import Derived.Test.YtlbhnbloanamfaaDoorBytes2
import Derived.Test.YtlbhnbloanamfaaDoorOwnRow
import Derived.Lib.ItoaNum
import Derived.Deep.QuietTactic
import Derived.BigQuiet
namespace Go.Proofs.YtlbhnbloanamfaaDoor
set_option linter.unusedSimpArgs false
set_option linter.unusedVariables false
open Go.RowKit

/-- A number's digits, as a text. -/
def itoaB (n : Int) : ByteArray := ⟨(Lib.itoa n).toArray⟩
theorem itoa_small {n : Nat} (h : n < 10) : itoaB n = strOfNums [48 + (n : Int)] := by
  unfold itoaB Lib.itoa strOfNums
  rw [if_neg (by omega), Int.toNat_natCast, Lib.decDigits_one h]
  congr 2
theorem ba_app (a b : List UInt8) : (⟨a.toArray⟩ : ByteArray) ++ ⟨b.toArray⟩ = ⟨(a ++ b).toArray⟩ := by
  apply ByteArray.ext
  simp
theorem itoa_big {n : Nat} (h : ¬ n < 10) : itoaB n = itoaB (n / 10 : Nat) ++ itoaB (n % 10 : Nat) := by
  unfold itoaB Lib.itoa
  rw [if_neg (by omega), if_neg (by omega), if_neg (by omega), Int.toNat_natCast, Int.toNat_natCast, Int.toNat_natCast, ba_app, Lib.decDigits, dif_neg h, Lib.decDigits_one (Nat.mod_lt _ (by omega))]
theorem itoa_len (k : Nat) : ∀ n : Nat, n < 10 ^ (k + 1) → (itoaB n).size ≤ k + 1 := by
  induction k with
  | zero =>
    intro n h
    rw [itoa_small (by simpa using h)]
    simp [strOfNums, ByteArray.size]
  | succ k ih =>
    intro n h
    by_cases h10 : n < 10
    · rw [itoa_small h10]
      simp [strOfNums, ByteArray.size]
    · rw [itoa_big h10, ByteArray.size_append]
      have h1 := ih (n / 10) (by
        rw [Nat.pow_succ] at h
        exact Nat.div_lt_of_lt_mul (by rw [Nat.mul_comm]; exact h))
      have h2 : (itoaB (n % 10 : Nat)).size ≤ 1 := by
        rw [itoa_small (Nat.mod_lt _ (by omega))]
        simp [strOfNums, ByteArray.size]
      omega

set_option maxRecDepth 100000 in
set_option maxHeartbeats 1600000 in
theorem rg_show (k : Nat) : ∀ (n : Nat) (w : World), n < 10 ^ (k + 1) → (n : Int) ≤ 1099511627776 → Calls Tryd.prog 45 #[.int .i64 (n : Int)] w fun e w' => e = .returned (.string (itoaB n)) ∧ Below w.heap.size w w' := by
  have small : ∀ (n : Nat) (w : World), n < 10 → Calls Tryd.prog 45 #[.int .i64 (n : Int)] w fun e w' => e = .returned (.string (itoaB n)) ∧ Below w.heap.size w w' := by
    intro n w h
    have hle : ¬ (9 : Int) < (n : Int) := by omega
    have hw8 : IntKind.u8.wrap (n : Int) = (n : Int) := IntWalk.u8_in _ (by omega)
    have hlt : (n : Int) ≤ 9 := by omega
    have HI := hide (itoa_small h)
    have hst := rb_string (w := w.alloc (.cells (u8s [48 + (n : Int)]).toArray 5)) 1 (rb_new w 5 [48 + (n : Int)] 1 rfl (fun i => by
      match i with
      | 0 => simp; omega
      | i + 1 => simp))
    simp only [u8s, List.map_cons, List.map_nil] at hst
    rw [HI.out]
    obtain ⟨S, hS⟩ : ∃ S, S = strOfNums [48 + (n : Int)] := ⟨_, rfl⟩
    rw [← hS] at hst ⊢
    clear hS
    go_enter Tryd.func45, Tryd.ntmps45
    go_wp2
    go_ret
    exact ⟨rfl, bel1 _ _⟩
  induction k with
  | zero => intro n w h _; exact small n w (by simpa using h)
  | succ k ih =>
    intro n w h hb
    by_cases h10 : n < 10
    · exact small n w h10
    · have hlt : (9 : Int) < (n : Int) := by omega
      obtain ⟨m, hme⟩ : ∃ m, m = n / 10 := ⟨_, rfl⟩
      obtain ⟨d, hde⟩ : ∃ d, d = n % 10 := ⟨_, rfl⟩
      have hd : (n : Int) / 10 = (m : Int) := by omega
      have hm : (n : Int) % 10 = (d : Int) := by omega
      have hd2 : (n : Int).tdiv 10 = (m : Int) := by rw [Int.tdiv_eq_ediv_of_nonneg (by omega)]; exact hd
      have hm2 : (n : Int).tmod 10 = (d : Int) := by rw [Int.tmod_eq_emod_of_nonneg (by omega)]; exact hm
      have h00 : (0 : Int) ≤ (n : Int) := by omega
      have hn10 : n / 10 < 10 ^ (k + 1) := by
        rw [Nat.pow_succ] at h
        exact Nat.div_lt_of_lt_mul (by rw [Nat.mul_comm]; exact h)
      have HC1 := hide (fun w => ih (n / 10) w hn10 (by omega))
      have HC2 := hide (fun w => small (n % 10) w (Nat.mod_lt _ (by omega)))
      have HI := hide (itoa_big h10)
      have hs1 : (itoaB (n / 10 : Nat)).size ≤ 20 := by
        have := itoa_len 12 (n / 10) (by omega)
        omega
      have hs2 : (itoaB (n % 10 : Nat)).size ≤ 20 := by
        have := itoa_len 12 (n % 10) (by omega)
        omega
      rw [HI.out]
      obtain ⟨S1, hS1⟩ : ∃ S, S = itoaB (n / 10 : Nat) := ⟨_, rfl⟩
      obtain ⟨S2, hS2⟩ : ∃ S, S = itoaB (n % 10 : Nat) := ⟨_, rfl⟩
      rw [← hS1] at HC1 hs1 ⊢
      rw [← hS2] at HC2 hs2 ⊢
      have hsz : ¬ 9223372036854775807 < S1.size + S2.size := by omega
      rw [← hme] at HC1
      rw [← hde] at HC2
      clear hS1 hS2 h small ih hn10 hme hde
      go_enter Tryd.func45, Tryd.ntmps45
      go_wp2_with fail
      refine (HC1.out _).mono ?_
      rintro e w1 ⟨rfl, hb1⟩
      have HB1 := hide hb1
      clear hb1
      go_wp2_with fail
      refine (HC2.out _).mono ?_
      rintro e w2 ⟨rfl, hb2⟩
      have HB2 := hide (HB1.out.trans (hb2.mono HB1.out.size))
      clear hb2
      go_wp2_with fail
      go_ret
      exact ⟨rfl, HB2.out⟩

/-- A request's fields. -/
def fieldsL (q : Rq) : List Fd := [⟨nM, q.m, false⟩, ⟨nS, q.s, false⟩, ⟨nP, q.p, false⟩] ++ ((if q.h = bNil then [] else [⟨nA, q.h, false⟩]) ++ ((if q.n < 0 then [] else [⟨nLen, itoaB q.n, false⟩]) ++ (if q.r = 3 then [] else [⟨nPrio, uEq ++ itoaB q.r, false⟩])))
end Go.Proofs.YtlbhnbloanamfaaDoor
