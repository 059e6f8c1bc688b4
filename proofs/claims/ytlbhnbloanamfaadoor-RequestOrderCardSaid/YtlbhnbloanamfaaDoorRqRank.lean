/-
  Layer 17: Rank, the program's and the document's; strings.Index, Cut at a comma, HasPrefix, CutPrefix.
-/
import Derived.Test.YtlbhnbloanamfaaDoorRqMath
import Derived.Test.YtlbhnbloanamfaaDoorRqTok
import Derived.Test.YtlbhnbloanamfaaDoorLbIndex
import Derived.Lib.FieldsLaws
import Derived.Deep.QuietTactic
import Derived.BigQuiet
import Derived.IntWalk
namespace Go.Proofs.YtlbhnbloanamfaaDoor
set_option linter.unusedSimpArgs false
set_option linter.unusedVariables false
open Go.RowKit

def comma : ByteArray := ⟨#[44]⟩
/-! ## Up to the first comma -/
def noC (z : Int) : Bool := !decide (z = 44)
theorem idx_list (l : List UInt8) : (Lib.indexByte l 44 = -1 ∧ (l.map (fun c => (c.toNat : Int))).takeWhile noC = l.map (fun c => (c.toNat : Int))) ∨
    ∃ i : Nat, Lib.indexByte l 44 = i ∧ i < l.length ∧ (l.map (fun c => (c.toNat : Int))).takeWhile noC = (l.map (fun c => (c.toNat : Int))).take i := by
  induction l with
  | nil => exact .inl ⟨rfl, rfl⟩
  | cons b l ih =>
    rw [Lib.indexByte]
    by_cases hb : b = 44
    · subst hb
      exact .inr ⟨0, by simp, by simp, by simp [noC]⟩
    · have hn : noC (b.toNat : Int) = true := by
        unfold noC
        rw [decide_eq_false]
        · rfl
        · intro e
          apply hb
          have : b.toNat = 44 := by exact_mod_cast e
          exact UInt8.toNat_inj.1 (by rw [this]; rfl)
      have hb' : (b == 44) = false := by simpa using hb
      rw [List.map_cons, List.takeWhile_cons, hn]
      rcases ih with ⟨h1, h2⟩ | ⟨i, h1, h2, h3⟩
      · left
        refine ⟨by rw [hb', h1]; rfl, ?_⟩
        rw [if_pos rfl, h2]
      · right
        refine ⟨i + 1, ?_, by simp only [List.length_cons]; omega, ?_⟩
        · rw [hb', h1]
          have : ((i : Int) == -1) = false := beq_eq_false_iff_ne.2 (by omega)
          simp [this]
        · rw [if_pos rfl, h3]; rfl

theorem rq_Index (s : ByteArray) (hs : (s.size : Int) ≤ 1000000) (w : World) :
    Calls Tryd.prog 66 #[.string s, .string comma] w fun e w' => e = .returned (.int .i64 (Lib.indexByte s.data.toList 44)) ∧ w = w' := by
  have h0 : (((comma.size : Nat) : Int) == 0) = false := by decide
  have h1 : (((comma.size : Nat) : Int) == 1) = true := by decide
  have hc : (((comma[0]'(by decide)).toNat : Nat) : Int) = 44 := by decide
  have HC := hide (fun w => lb_slIndexByte s 44 w)
  have hp : (0 : Int) < ((comma.size : Nat) : Int) := by decide
  obtain ⟨q, hq⟩ : ∃ q, q = Lib.indexByte s.data.toList 44 := ⟨_, rfl⟩
  rw [show (44 : Int).toNat.toUInt8 = 44 from rfl, ← hq] at HC
  rw [← hq]
  have hcs : (comma.toList == s.toList) = true ∧ q = 0 ∨ (comma.toList == s.toList) = false := by
    by_cases e : comma = s
    · left
      refine ⟨by rw [str_eq, decide_eq_true e], ?_⟩
      rw [hq, ← e]
      decide
    · right
      rw [str_eq, decide_eq_false e]
  clear hq
  rcases hcs with ⟨h2, rfl⟩ | h2
  all_goals
    go_enter Tryd.func66, Tryd.ntmps66
    go_wp2_with (go_at_call 65; refine (HC.out _).mono ?_; rintro e w2 ⟨rfl, rfl⟩)
    go_ret
    exact ⟨rfl, rfl⟩

/-- What Cut answers at a comma. -/
def GivesCutC (s : ByteArray) (w : World) (e : Ending) (w' : World) : Prop := ∃ (T R : ByteArray) (b : Bool), e = .returned (.tuple #[.string T, .string R, .bool b]) ∧ bts T = (bts s).takeWhile noC ∧ Below w.heap.size w w'
set_option maxRecDepth 100000 in
set_option maxHeartbeats 1600000 in
theorem rq_slCut (s : ByteArray) (hs : (s.size : Int) ≤ 1000000) (w : World) :
    Calls Tryd.prog 59 #[.string s, .string comma] w (GivesCutC s w) := by
  have HC := hide (fun w => rq_Index s hs w)
  have HL := hide (show (bts s) = s.data.toList.map (fun c => (c.toNat : Int)) from rfl)
  have hcl : ((comma.size : Nat) : Int) = 1 := rfl
  have hsz : s.data.toList.length = s.size := by simp
  rcases idx_list s.data.toList with ⟨h1, h2⟩ | ⟨i, h1, h2, h3⟩
  · rw [h1] at HC
    have HT := hide h2
    clear h1 h2 hsz
    go_enter Tryd.func59, Tryd.ntmps59
    go_wp2_with (go_at_call 66; refine (HC.out _).mono ?_; rintro e w2 ⟨rfl, rfl⟩)
    go_ret3
    exact ⟨s, _, false, rfl, HT.out.symm, Below.refl _ _⟩
  · rw [h1] at HC
    have HT := hide h3
    have hi : (i : Int) < (s.size : Int) := by omega
    have hi2 : (i : Int) + 1 ≤ (s.size : Int) := by omega
    have hw1 : IntKind.i64.wrap ((i : Int) + 1) = (i : Int) + 1 := IntWalk.i64_in _ (by omega)
    have ht1 : ((i : Int) + 1).toNat = i + 1 := by omega
    have h01 : (0 : Int) ≤ (i : Int) + 1 := by omega
    clear h1 h2 h3 hsz
    go_enter Tryd.func59, Tryd.ntmps59
    go_wp2_with (go_at_call 66; refine (HC.out _).mono ?_; rintro e w2 ⟨rfl, rfl⟩)
    go_quiet (fail)
    clear hw1 ht1
    go_wp2
    go_ret3
    refine ⟨s.extract 0 i, _, true, rfl, ?_, below_drewN (Below.refl _ _) _⟩
    rw [bts_extract, HL.out, HT.out]
    simp
theorem rq_Cut (s : ByteArray) (hs : (s.size : Int) ≤ 1000000) (w : World) :
    Calls Tryd.prog 42 #[.string s, .string comma] w (GivesCutC s w) := by
  have HC := hide (rq_slCut s hs w)
  clear hs
  go_enter Tryd.func42, Tryd.ntmps42
  go_wp2_with fail
  refine HC.out.mono ?_
  rintro e w2 ⟨T, R, b, rfl, ht, hb⟩
  have HT := hide ht
  have HB := hide hb
  clear ht hb HC
  go_wp2
  go_ret3
  exact ⟨T, R, b, rfl, HT.out, HB.out⟩

/-! ## Prefixes -/
/-- Does a text begin with another one? -/
def prefB (p s : ByteArray) : Bool := decide (p.size ≤ s.size) && decide (s.extract 0 p.size = p)
theorem rq_slHas (p s : ByteArray) (hs : (s.size : Int) ≤ 1000000) (hp : (p.size : Int) ≤ 1000000) (w : World) :
    Calls Tryd.prog 62 #[.string s, .string p] w fun e w' => e = .returned (.bool (prefB p s)) ∧ w = w' := by
  by_cases h : (p.size : Int) ≤ (s.size : Int)
  · have he := str_eq (s.extract 0 p.size) p
    obtain ⟨d, hd⟩ : ∃ d, d = decide (s.extract 0 p.size = p) := ⟨_, rfl⟩
    have HC := hide (show prefB p s = d by unfold prefB; rw [decide_eq_true (by omega), hd]; rfl)
    rw [← hd] at he
    obtain ⟨C, hC⟩ : ∃ C, C = prefB p s := ⟨_, rfl⟩
    rw [← hC] at HC ⊢
    have hle : p.size ≤ s.size := by omega
    clear hd hC
    go_enter Tryd.func62, Tryd.ntmps62
    go_wp2
    go_ret
    exact ⟨by rw [HC.out]; simp [he], rfl⟩
  · have HC := hide (show prefB p s = false by unfold prefB; rw [decide_eq_false (by omega)]; rfl)
    rw [HC.out]
    go_enter Tryd.func62, Tryd.ntmps62
    go_wp2
    go_ret
    exact ⟨rfl, rfl⟩
theorem rq_HasPrefix (p s : ByteArray) (hs : (s.size : Int) ≤ 1000000) (hp : (p.size : Int) ≤ 1000000) (w : World) :
    Calls Tryd.prog 48 #[.string s, .string p] w fun e w' => e = .returned (.bool (prefB p s)) ∧ w = w' := by
  have HC := hide (rq_slHas p s hs hp w)
  obtain ⟨C, hC⟩ : ∃ C, C = prefB p s := ⟨_, rfl⟩
  rw [← hC] at HC ⊢
  clear hC hs hp
  go_enter Tryd.func48, Tryd.ntmps48
  go_wp2_with (go_at_call 62; refine HC.out.mono ?_; rintro e w2 ⟨rfl, rfl⟩)
  go_ret
  exact ⟨rfl, rfl⟩

/-- What CutPrefix answers. -/
def cutEnd (p s : ByteArray) : Ending := if prefB p s = true then .returned (.tuple #[.string (s.extract p.size s.size), .bool true]) else .returned (.tuple #[.string s, .bool false])
theorem rq_slCutP (p s : ByteArray) (hs : (s.size : Int) ≤ 1000000) (hp : (p.size : Int) ≤ 1000000) (w : World) :
    Calls Tryd.prog 60 #[.string s, .string p] w fun e w' => e = cutEnd p s ∧ w = w' := by
  have HC := hide (rq_slHas p s hs hp w)
  obtain ⟨C, hC⟩ : ∃ C, C = prefB p s := ⟨_, rfl⟩
  rw [← hC] at HC
  cases C with
  | true =>
    have HE := hide (show cutEnd p s = .returned (.tuple #[.string (s.extract p.size s.size), .bool true]) by unfold cutEnd; rw [if_pos hC.symm])
    have hle : p.size ≤ s.size := by
      unfold prefB at hC
      have := hC.symm
      simp at this
      exact this.1
    rw [HE.out]
    clear hC HE
    go_enter Tryd.func60, Tryd.ntmps60
    go_wp2_with (go_at_call 62; refine HC.out.mono ?_; rintro e w2 ⟨rfl, rfl⟩)
    go_ret2
    exact ⟨rfl, rfl⟩
  | false =>
    have HE := hide (show cutEnd p s = .returned (.tuple #[.string s, .bool false]) by unfold cutEnd; rw [if_neg (by rw [← hC]; simp)])
    rw [HE.out]
    clear hC HE
    go_enter Tryd.func60, Tryd.ntmps60
    go_wp2_with (go_at_call 62; refine HC.out.mono ?_; rintro e w2 ⟨rfl, rfl⟩)
    go_ret2
    exact ⟨rfl, rfl⟩
theorem rq_CutP_yes (p s : ByteArray) (h : prefB p s = true) (hs : (s.size : Int) ≤ 1000000) (hp : (p.size : Int) ≤ 1000000) (w : World) :
    Calls Tryd.prog 43 #[.string s, .string p] w fun e w' => e = .returned (.tuple #[.string (s.extract p.size s.size), .bool true]) ∧ w = w' := by
  have HC := hide (rq_slCutP p s hs hp w)
  rw [show cutEnd p s = _ from if_pos h] at HC
  clear h hs hp
  go_enter Tryd.func43, Tryd.ntmps43
  go_wp2_with (go_at_call 60; refine HC.out.mono ?_; rintro e w2 ⟨rfl, rfl⟩)
  go_ret2
  exact ⟨rfl, rfl⟩
theorem rq_CutP_no (p s : ByteArray) (h : prefB p s = false) (hs : (s.size : Int) ≤ 1000000) (hp : (p.size : Int) ≤ 1000000) (w : World) :
    Calls Tryd.prog 43 #[.string s, .string p] w fun e w' => e = .returned (.tuple #[.string s, .bool false]) ∧ w = w' := by
  have HC := hide (rq_slCutP p s hs hp w)
  rw [show cutEnd p s = _ from if_neg (by rw [h]; simp)] at HC
  clear h hs hp
  go_enter Tryd.func43, Tryd.ntmps43
  go_wp2_with (go_at_call 60; refine HC.out.mono ?_; rintro e w2 ⟨rfl, rfl⟩)
  go_ret2
  exact ⟨rfl, rfl⟩

/-! ## Rank -/
def uEq : ByteArray := ⟨#[117, 61]⟩
/-- The rank of what stands ahead of the first comma. -/
def rankT (t : List Int) : Int := if t.length = 3 ∧ t.getD 0 0 = 117 ∧ t.getD 1 0 = 61 ∧ 48 ≤ t.getD 2 0 ∧ t.getD 2 0 ≤ 55 then t.getD 2 0 - 48 else 3
theorem rank_t (l : List Int) : (if rankB l = true then l.getD 2 0 - 48 else 3) = rankT (l.takeWhile noC) := by
  have hn : ∀ z : Int, noC z = true ↔ z ≠ 44 := fun z => by simp [noC]
  match l with
  | [] => rfl
  | [a] => by_cases h : a = 44 <;> simp [rankB, rankT, List.takeWhile_cons, noC, h]
  | [a, b] => by_cases h : a = 44 <;> by_cases h' : b = 44 <;> simp [rankB, rankT, List.takeWhile_cons, noC, h, h']
  | [a, b, c] =>
    by_cases h : a = 44
    · simp [rankB, rankT, List.takeWhile_cons, noC, h]
    · by_cases h' : b = 44
      · simp [rankB, rankT, List.takeWhile_cons, noC, h, h']
      · by_cases h2 : c = 44
        · simp [rankB, rankT, List.takeWhile_cons, noC, h, h', h2]
        · simp [rankB, rankT, List.takeWhile_cons, noC, h, h', h2]
  | a :: b :: c :: d :: r =>
    by_cases h : a = 44
    · simp [rankB, rankT, List.takeWhile_cons, noC, h]
    · by_cases h' : b = 44
      · simp [rankB, rankT, List.takeWhile_cons, noC, h, h']
      · by_cases h2 : c = 44
        · simp [rankB, rankT, List.takeWhile_cons, noC, h, h', h2]
        · by_cases h3 : d = 44
          · simp [rankB, rankT, List.takeWhile_cons, noC, h, h', h2, h3]
          · simp [rankB, rankT, List.takeWhile_cons, noC, h, h', h2, h3]
theorem rankI_t (s T : ByteArray) (h : bts T = (bts s).takeWhile noC) : rankI s = rankT (bts T) := by
  unfold rankI
  rw [rank_t, h]
end Go.Proofs.YtlbhnbloanamfaaDoor
