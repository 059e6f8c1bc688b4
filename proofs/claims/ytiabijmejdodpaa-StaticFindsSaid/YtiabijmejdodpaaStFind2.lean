/-
  Layer 3: Find, the document's.
-/
import Derived.Test.YtiabijmejdodpaaStFind
namespace Go.Proofs.Ytiabijmejdodpaa
open Go.RowKit

theorem st_zero_raw : (Try.prog.info? 23).bind (·.zero) = some (.agg #[.string ⟨#[]⟩, .string ⟨#[]⟩, .bool false]) := st_zero_fld
theorem rf_At_nat (k : Nat) (hk : k < 61) (w : World) : Calls Try.prog 8 #[.int .i64 ((k : Int) + 1)] w fun e w' => e = .returned (.tuple #[.agg #[.string (nm k), .string (vl k), .bool false], .bool true]) ∧ Below w.heap.size w w' := by
  have := rf_At ((k : Int) + 1) w
  rw [fldAt_nat, isAt_nat k hk] at this
  exact this
theorem st_At_nat (k : Nat) (hk : k < 61) (w : World) : Calls Try.prog 7 #[.int .i64 ((k : Int) + 1)] w fun e w' => e = .returned (.tuple #[.agg #[.string (nm k), .string (vl k), .bool false], .bool true]) ∧ Below w.heap.size w w' :=
  st_At_yes k hk w

set_option maxRecDepth 100000 in
set_option maxHeartbeats 1600000 in
theorem rf_Find (n v : ByteArray) (w : World) : Calls Try.prog 13 #[.string n, .string v] w (Finds n v w) := by
  obtain ⟨F, hF⟩ : ∃ F, F = stF n := ⟨_, rfl⟩
  have HF := hide hF
  clear hF
  have hz := run_zero_is st_zero_raw
  go_enter Try.func13, Try.ntmps13
  go_wp2_with fail
  go_loopw [6, 7] (fun nd c wr => ∃ k : Nat, k ≤ 61 ∧ c = .int .i64 ((k : Int) + 1) ∧ nd = .int .i64 (F k : Nat) ∧ NoneTo n v k ∧ Below w.heap.size w wr) (fun _ c _ => 62 - (intOf c).toNat)
  case atStart => exact ⟨0, by omega, rfl, by rw [HF.out]; rfl, .zero n v, Below.refl _ _⟩
  case round =>
    obtain ⟨k, hk, rfl, rfl, hno, hbel⟩ := hrel
    have HNO := hide hno
    have HBEL := hide hbel
    clear hno hbel
    by_cases hlt : k < 61
    · have hlt' : (k : Int) + 1 ≤ 61 := by omega
      obtain ⟨N, hN⟩ : ∃ N, N = nm k := ⟨_, rfl⟩
      obtain ⟨V, hV⟩ : ∃ V, V = vl k := ⟨_, rfl⟩
      have HN := hide hN
      have HV := hide hV
      have HC := hide (rf_At_nat k hlt)
      rw [← hN, ← hV] at HC
      clear hN hV
      obtain ⟨f, hf⟩ : ∃ f, f = F k := ⟨_, rfl⟩
      have HFK := hide hf
      rw [← hf]
      clear hf
      by_cases hnm : N = n
      · have he := str_same hnm
        have hne : (!N.toList == n.toList) = false := by rw [he]; rfl
        have HNM := hide hnm
        clear hnm
        by_cases hvl : V = v
        · have hve := str_same hvl
          have HVV := hide hvl
          clear hvl
          go_wp2_with (go_at_call 8; refine (HC.out _).mono ?_; rintro e w2 ⟨rfl, hb2⟩; have HB2 := hide (HBEL.out.trans (hb2.mono HBEL.out.size)); clear hb2)
          go_ret2
          exact ⟨k + 1, true, ret_find (by omega) rfl, .inl ⟨rfl, by omega, by omega, by rw [Nat.add_sub_cancel, ← HN.out]; exact HNM.out, by rw [Nat.add_sub_cancel, ← HV.out]; exact HVV.out, by rw [Nat.add_sub_cancel]; exact HNO.out⟩, HB2.out.alloc HB2.out.size _⟩
        · have hve := str_not hvl
          have HNO' := hide (HNO.out.succ (k := k) (fun e => hvl (by rw [HV.out]; exact e.2)))
          clear hvl
          by_cases hf0 : f = 0
          · have hfi : ((f : Int) == 0) = true := by simp [hf0]
            have HF' := hide (show F (k + 1) = k + 1 by rw [HF.out]; exact stF_first (by rw [← HN.out]; exact HNM.out) (by rw [← HF.out, ← HFK.out]; exact hf0))
            clear hf0
            go_wp2_with (go_at_call 8; refine (HC.out _).mono ?_; rintro e w2 ⟨rfl, hb2⟩; have HB2 := hide (HBEL.out.trans (hb2.mono HBEL.out.size)); clear hb2)
            go_roundw
            case rel => exact ⟨k + 1, by omega, by go_num, by rw [HF'.out]; go_num, HNO'.out, HB2.out.alloc HB2.out.size _⟩
            case measure => simp [intOf]; omega
          · have hfi : ((f : Int) == 0) = false := by simp; omega
            have HF' := hide (show F (k + 1) = f by rw [HF.out, stF_later (by rw [← HF.out, ← HFK.out]; exact hf0), ← HF.out, ← HFK.out])
            clear hf0
            go_wp2_with (go_at_call 8; refine (HC.out _).mono ?_; rintro e w2 ⟨rfl, hb2⟩; have HB2 := hide (HBEL.out.trans (hb2.mono HBEL.out.size)); clear hb2)
            go_roundw
            case rel => exact ⟨k + 1, by omega, by go_num, by rw [HF'.out], HNO'.out, HB2.out.alloc HB2.out.size _⟩
            case measure => simp [intOf]; omega
      · have he := str_not hnm
        have hne : (!N.toList == n.toList) = true := by rw [he]; rfl
        have HF' := hide (show F (k + 1) = f by rw [HF.out, stF_same (by rw [← HN.out]; exact hnm), ← HF.out, ← HFK.out])
        have HNO' := hide (HNO.out.succ (k := k) (fun e => hnm (by rw [HN.out]; exact e.1)))
        clear hnm
        go_wp2_with (go_at_call 8; refine (HC.out _).mono ?_; rintro e w2 ⟨rfl, hb2⟩; have HB2 := hide (HBEL.out.trans (hb2.mono HBEL.out.size)); clear hb2)
        go_roundw
        case rel => exact ⟨k + 1, by omega, by go_num, by rw [HF'.out], HNO'.out, HB2.out.alloc HB2.out.size _⟩
        case measure => simp [intOf]; omega
    · have hge : ¬ (k : Int) + 1 ≤ 61 := by omega
      obtain rfl : k = 61 := by omega
      obtain ⟨f, hf⟩ : ∃ f, f = F 61 := ⟨_, rfl⟩
      have HFK := hide hf
      rw [← hf]
      clear hf
      go_wp2
      go_ret2
      exact ⟨f, false, rfl, .inr ⟨rfl, by rw [HFK.out, HF.out], HNO.out⟩, HBEL.out⟩
end Go.Proofs.Ytiabijmejdodpaa
