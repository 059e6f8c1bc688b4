/-
  Layer 3: Find, the program's and the document's.
-/
import Derived.Test.YtchndegcnjejiaaStAt2
namespace Go.Proofs.Ytchndegcnjejiaa
open Go.RowKit

/-- The least place with this name among the first k, else 0. -/
def stF (n : ByteArray) : Nat → Nat
  | 0 => 0
  | k + 1 => if nm k = n ∧ stF n k = 0 then k + 1 else stF n k
theorem stF_le (n : ByteArray) (k : Nat) : stF n k ≤ k := by
  induction k with
  | zero => exact Nat.le_refl _
  | succ k ih =>
    unfold stF
    split <;> omega
def NoneTo (n v : ByteArray) (k : Nat) : Prop := ∀ j, j < k → ¬ (nm j = n ∧ vl j = v)
/-- What Find answers. -/
def FindIs (n v : ByteArray) (r : Nat) (b : Bool) : Prop :=
  (b = true ∧ 1 ≤ r ∧ r ≤ 61 ∧ nm (r - 1) = n ∧ vl (r - 1) = v ∧ NoneTo n v (r - 1)) ∨ (b = false ∧ r = stF n 61 ∧ NoneTo n v 61)
def Finds (n v : ByteArray) (w : World) (e : Ending) (w' : World) : Prop := ∃ (r : Nat) (b : Bool), e = .returned (.tuple #[.int .i64 (r : Int), .bool b]) ∧ FindIs n v r b ∧ Below w.heap.size w w'
theorem NoneTo.zero (n v : ByteArray) : NoneTo n v 0 := fun j h => absurd h (by omega)
theorem NoneTo.succ {n v : ByteArray} {k : Nat} (h : NoneTo n v k) (hk : ¬ (nm k = n ∧ vl k = v)) : NoneTo n v (k + 1) := fun j hj => by
  by_cases e : j = k
  · subst e; exact hk
  · exact h j (by omega)
theorem FindIs.one {n v : ByteArray} {r r' : Nat} {b b' : Bool} (h : FindIs n v r b) (h' : FindIs n v r' b') : r = r' ∧ b = b' := by
  rcases h with ⟨rfl, h1, h2, h3, h4, h5⟩ | ⟨rfl, h1, h2⟩ <;> rcases h' with ⟨rfl, g1, g2, g3, g4, g5⟩ | ⟨rfl, g1, g2⟩
  · refine ⟨?_, rfl⟩
    by_cases e : r < r'
    · exact absurd ⟨h3, h4⟩ (g5 (r - 1) (by omega))
    · by_cases e' : r' < r
      · exact absurd ⟨g3, g4⟩ (h5 (r' - 1) (by omega))
      · omega
  · exact absurd ⟨h3, h4⟩ (g2 (r - 1) (by omega))
  · exact absurd ⟨g3, g4⟩ (h2 (r' - 1) (by omega))
  · exact ⟨h1.trans g1.symm, rfl⟩

theorem str_same {a b : ByteArray} (h : a = b) : (a.toList == b.toList) = true := by subst h; simp
theorem str_not {a b : ByteArray} (h : a ≠ b) : (a.toList == b.toList) = false := by
  rw [beq_eq_false_iff_ne]
  intro e
  rw [ByteArray.toList_eq, ByteArray.toList_eq] at e
  exact h (Go.WideShapes.bytes_inj e)
theorem stF_same {n : ByteArray} {k : Nat} (h : nm k ≠ n) : stF n (k + 1) = stF n k := by
  rw [stF, if_neg (fun e => h e.1)]
theorem stF_first {n : ByteArray} {k : Nat} (h : nm k = n) (h0 : stF n k = 0) : stF n (k + 1) = k + 1 := by
  rw [stF, if_pos ⟨h, h0⟩]
theorem stF_later {n : ByteArray} {k : Nat} (h0 : stF n k ≠ 0) : stF n (k + 1) = stF n k := by
  rw [stF, if_neg (fun e => h0 e.2)]
theorem ret_find {a b : Int} {x y : Bool} (h : a = b) (h' : x = y) : Ending.returned (.tuple #[.int .i64 a, .bool x]) = .returned (.tuple #[.int .i64 b, .bool y]) := by rw [h, h']

set_option maxRecDepth 100000 in
set_option maxHeartbeats 1600000 in
theorem st_Find (n v : ByteArray) (w : World) : Calls Try.prog 25 #[.string n, .string v] w (Finds n v w) := by
  obtain ⟨F, hF⟩ : ∃ F, F = stF n := ⟨_, rfl⟩
  have HF := hide hF
  clear hF
  go_enter Try.func25, Try.ntmps25
  go_wp2_with fail
  refine (st_names _).mono ?_
  rintro e w1 ⟨rfl, hb1⟩
  have HB1 := hide hb1
  clear hb1
  go_wp2_with fail
  go_loop [6, 11] (fun nd c => ∃ k : Nat, k ≤ 61 ∧ c = .int .i64 (k : Int) ∧ nd = .int .i64 (F k : Nat) ∧ NoneTo n v k) (fun _ c => 61 - (intOf c).toNat)
  case atStart => exact ⟨0, by omega, rfl, by rw [HF.out]; rfl, .zero n v⟩
  case round =>
    obtain ⟨k, hk, rfl, rfl, hno⟩ := hrel
    have HNO := hide hno
    clear hno
    by_cases hlt : k < 61
    · have hlt' : (k : Int) < 61 := by omega
      have hidx := names_index k hlt .i64
      have hv := (show vlAt (1 + (k : Int)) = vl k by rw [Int.add_comm]; exact vlAt_nat k)
      have HVL := hide hv
      clear hv
      obtain ⟨N, hN⟩ : ∃ N, N = nm k := ⟨_, rfl⟩
      rw [← hN] at hidx
      have HN := hide hN
      clear hN
      obtain ⟨f, hf⟩ : ∃ f, f = F k := ⟨_, rfl⟩
      have HFK := hide hf
      rw [← hf]
      clear hf
      by_cases hnm : N = n
      · have he := str_same hnm
        have hne : (!N.toList == n.toList) = false := by rw [he]; rfl
        have HNM := hide hnm
        clear hnm
        obtain ⟨V, hV⟩ : ∃ V, V = vlAt (1 + (k : Int)) := ⟨_, rfl⟩
        have HV := hide hV
        have HC := hide (show ∀ w : World, Calls Try.prog 36 #[.int .i64 (1 + (k : Int))] w fun e w' => e = .returned (.string V) ∧ w = w' from fun w => by rw [hV]; exact st_valueAt _ w)
        clear hV
        by_cases hvl : V = v
        · have hve := str_same hvl
          have HVV := hide hvl
          clear hvl
          go_wp2_with (go_at_call 36; refine (HC.out _).mono ?_; rintro e w2 ⟨rfl, rfl⟩)
          go_ret2
          exact ⟨k + 1, true, ret_find (by omega) rfl, .inl ⟨rfl, by omega, by omega, by rw [Nat.add_sub_cancel, ← HN.out]; exact HNM.out, by rw [Nat.add_sub_cancel, ← HVL.out, ← HV.out]; exact HVV.out, by rw [Nat.add_sub_cancel]; exact HNO.out⟩, HB1.out⟩
        · have hve := str_not hvl
          have HNO' := hide (HNO.out.succ (k := k) (fun e => hvl (by rw [HV.out, HVL.out]; exact e.2)))
          clear hvl
          by_cases hf0 : f = 0
          · have hfi : ((f : Int) == 0) = true := by simp [hf0]
            have HF' := hide (show F (k + 1) = k + 1 by rw [HF.out]; exact stF_first (by rw [← HN.out]; exact HNM.out) (by rw [← HF.out, ← HFK.out]; exact hf0))
            clear hf0
            go_wp2_with (go_at_call 36; refine (HC.out _).mono ?_; rintro e w2 ⟨rfl, rfl⟩)
            go_round
            case rel => exact ⟨k + 1, by omega, by go_num, by rw [HF'.out]; go_num, HNO'.out⟩
            case measure => simp [intOf]; omega
          · have hfi : ((f : Int) == 0) = false := by simp; omega
            have HF' := hide (show F (k + 1) = f by rw [HF.out, stF_later (by rw [← HF.out, ← HFK.out]; exact hf0), ← HF.out, ← HFK.out])
            clear hf0
            go_wp2_with (go_at_call 36; refine (HC.out _).mono ?_; rintro e w2 ⟨rfl, rfl⟩)
            go_round
            case rel => exact ⟨k + 1, by omega, by go_num, by rw [HF'.out], HNO'.out⟩
            case measure => simp [intOf]; omega
      · have he := str_not hnm
        have hne : (!N.toList == n.toList) = true := by rw [he]; rfl
        have HF' := hide (show F (k + 1) = f by rw [HF.out, stF_same (by rw [← HN.out]; exact hnm), ← HF.out, ← HFK.out])
        have HNO' := hide (HNO.out.succ (k := k) (fun e => hnm (by rw [HN.out]; exact e.1)))
        clear hnm
        go_wp2
        go_round
        case rel => exact ⟨k + 1, by omega, by go_num, by rw [HF'.out], HNO'.out⟩
        case measure => simp [intOf]; omega
    · have hge : ¬ (k : Int) < 61 := by omega
      obtain rfl : k = 61 := by omega
      obtain ⟨f, hf⟩ : ∃ f, f = F 61 := ⟨_, rfl⟩
      have HFK := hide hf
      rw [← hf]
      clear hf
      go_wp2
      go_ret2
      exact ⟨f, false, rfl, .inr ⟨rfl, by rw [HFK.out, HF.out], HNO.out⟩, HB1.out⟩
end Go.Proofs.Ytchndegcnjejiaa
