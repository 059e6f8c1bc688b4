/-
  Layer 17: strings.IndexRune of a text of three small bytes at a rune that is none: -1.
-/
import Derived.Test.YtlbhnbloanamfaaDoorRqMath
import Derived.Test.YtlbhnbloanamfaaDoorLbIndex
import Derived.Test.YtlbhnbloanamfaaDoorMem
import Derived.Laws.RangeString
import Derived.Lib.OthersKept
import Derived.Deep.LoopGhost
import Derived.WalkMore
import Derived.Deep.QuietTactic
import Derived.BigQuiet
namespace Go.Proofs.YtlbhnbloanamfaaDoor
set_option linter.unusedSimpArgs false
set_option linter.unusedVariables false
open Go.RowKit

theorem inBlock_ret (id : Nat) (Q : Exit → Act → World → Prop) (a : Act) (w : World) : Exit.inBlock id Q .ret a w = Q .ret a w := rfl
theorem then_ret (K : Act → World → Prop) (Q : Exit → Act → World → Prop) (a : Act) (w : World) : Exit.then K Q .ret a w = Q .ret a w := rfl
def nl3 : ByteArray := ⟨#[0, 10, 13]⟩
/-- A rune that is no small one, as bytes: two to four, of which the last one is great. -/
structure BigRune (s : ByteArray) : Prop where
  lo : 2 ≤ s.size
  hi : s.size ≤ 4
  last : ∀ z : Int, s.data.toList.getLast?.map (fun c => (c.toNat : Int)) = some z → 128 ≤ z ∧ z ≤ 255
theorem big_rune {r : Int} (h : 128 ≤ r) (hv : Utf8.valid r = true) : BigRune (Utf8.encode r) := by
  have h1 : r ≤ 1114111 := by
    unfold Utf8.valid at hv
    simp at hv
    omega
  obtain ⟨n, rfl⟩ : ∃ n : Nat, r = n := ⟨r.toNat, by omega⟩
  have h2 : 128 ≤ n := by omega
  have h3 : n ≤ 1114111 := by omega
  unfold Utf8.encode
  simp only [hv, if_true, Int.toNat_natCast]
  rw [if_neg (by omega)]
  have hm : n % 64 < 64 := Nat.mod_lt _ (by omega)
  have hz : ∀ z : Int, ((UInt8.ofNat (128 + n % 64)).toNat : Int) = z → 128 ≤ z ∧ z ≤ 255 := by
    intro z hz
    rw [← hz, UInt8.toNat_ofNat']
    omega
  split
  · exact ⟨by simp [ByteArray.size], by simp [ByteArray.size], fun z e => hz z (by simpa using e)⟩
  · split
    · exact ⟨by simp [ByteArray.size], by simp [ByteArray.size], fun z e => hz z (by simpa using e)⟩
    · exact ⟨by simp [ByteArray.size], by simp [ByteArray.size], fun z e => hz z (by simpa using e)⟩
theorem nl3_no : ∀ c : Fin 256, 14 ≤ c.val → ∀ k : Fin 4, Lib.indexByte (nl3.extract k.val nl3.size).data.toList ((c.val : Int)).toNat.toUInt8 = -1 := by decide +kernel

theorem run_runestr (r : Int) (w : World) : (convert 21 9 (.int .i32 r)).run Tryd.prog w = .ok (.string (Utf8.encode r)) w := by
  simp [convert, run_underlying Tryd.underlying21, run_underlying Tryd.underlying9, Sem.run_bind, Conv.intToString]

theorem rq_ValidRune (r : Int) (hv : Utf8.valid r = true) (w : World) :
    Calls Tryd.prog 96 #[.int .i32 r] w fun e w' => e = .returned (.bool true) ∧ w = w' := by
  have h : (0 ≤ r ∧ r < 55296) ∨ (¬ r < 55296 ∧ 57343 < r ∧ r ≤ 1114111) := by
    unfold Utf8.valid at hv
    simp at hv
    omega
  clear hv
  rcases h with ⟨h1, h2⟩ | ⟨h1, h2, h3⟩
  all_goals
    go_enter Tryd.func96, Tryd.ntmps96
    go_wp2
    go_ret
    exact ⟨rfl, rfl⟩

set_option maxRecDepth 100000 in
set_option maxHeartbeats 3200000 in
theorem rq_rune_big (r : Int) (h : 128 ≤ r) (hv : Utf8.valid r = true) (hne : r ≠ 65533) (w : World) :
    Calls Tryd.prog 84 #[.string nl3, .int .i32 r] w fun e w' => e = .returned (.int .i64 (-1)) ∧ Below w.heap.size w w' := by
  have HB := hide (big_rune h hv)
  have hcv := run_runestr r
  have HV := hide (rq_ValidRune r hv)
  have hlo : ¬ r < 128 := by omega
  have h0 : 0 ≤ r := by omega
  have hne' : (r == 65533) = false := by simpa using hne
  obtain ⟨S, hS⟩ : ∃ S, S = Utf8.encode r := ⟨_, rfl⟩
  rw [← hS] at HB hcv
  clear hS hv hne
  obtain ⟨n, hn⟩ : ∃ n, S.size = n + 1 := ⟨S.size - 1, by have := HB.out.lo; omega⟩
  have hn' : (S.size : Int) = (n : Int) + 1 := by omega
  have hnl : (1 : Int) ≤ (n : Int) := by have := HB.out.lo; omega
  have hnh : (n : Int) ≤ 3 := by have := HB.out.hi; omega
  have hlt : n < S.size := by omega
  obtain ⟨z, hz⟩ : ∃ z, z = ((S[n].toNat : Nat) : Int) := ⟨_, rfl⟩
  have hzb : 128 ≤ z ∧ z ≤ 255 := by
    refine HB.out.last z ?_
    rw [List.getLast?_eq_getElem?]
    have : S.data.toList.length = n + 1 := by simp; exact hn
    rw [this, hz, Nat.add_sub_cancel]
    have hl : n < S.data.toList.length := by omega
    rw [List.getElem?_eq_getElem hl]
    rfl
  have hz' := hz.symm
  clear hz hnl hnh hn'
  obtain ⟨hz0, hz1⟩ := hzb
  have HI := hide (fun k : Fin 4 => nl3_no ⟨z.toNat, by omega⟩ (by simp; omega) k)
  simp only [Int.toNat_of_nonneg (show 0 ≤ z by omega)] at HI
  have hn3 : n = 1 ∨ n = 2 ∨ n = 3 := by have := HB.out.lo; have := HB.out.hi; omega
  have hsz : ((nl3.size : Nat) : Int) = 3 := rfl
  rcases hn3 with rfl | rfl | rfl
  · have hn' : (S.size : Int) = 2 := by omega
    clear hn
    have e0 : (((nl3[1]'(by decide)).toNat : Nat) : Int) = 10 := by decide
    have hzz : ((10 : Int) == z) = false := by simp; omega
    have HC := hide (fun w => (lb_IndexByte (nl3.extract 2 nl3.size) z w).mono (fun e w' h => (⟨h.1.trans (by rw [show Lib.indexByte (nl3.extract 2 nl3.size).data.toList z.toNat.toUInt8 = -1 from HI.out 2]), h.2.symm⟩ : e = .returned (.int .i64 (-1)) ∧ w' = w)))
    go_enter Tryd.func84, Tryd.ntmps84
    go_wp2_with (first
      | (go_at_call 96; refine (HV.out _).mono ?_; rintro e w2 ⟨rfl, rfl⟩))
    go_step3
    go_wp2_with fail
    go_loopg [9] 1 (fun g s9 wx => g = 1 ∧ s9 = .int .i64 1 ∧ wx = w)
    case atStart => exact ⟨rfl, rfl, rfl⟩
    case round =>
      obtain ⟨rfl, rfl, rfl⟩ := hrel
      go_wp2_with fail
      go_step3
      go_wp2_with fail
      go_quiet (fail)
      go_wp2_with fail
      have HW2 := hide (below_drewN (Below.refl wr.heap.size wr) nq)
      generalize wr.drewN nq = w2 at HW2 ⊢
      have w2' : IntKind.i64.wrap 2 = 2 := by decide
      go_quiet ((go_at_call 58; exact Calls.quiet_of_same (HC.out _)))
      go_wp2_with fail
      rw [Exit.noGoto_ret, inBlock_ret, then_ret, inBlock_ret, then_ret, Exit.noGoto_ret, inBlock_ret]
      go_ret
      exact ⟨rfl, below_drewN HW2.out _⟩
  · have hn' : (S.size : Int) = 3 := by omega
    clear hn
    have e0 : (((nl3[2]'(by decide)).toNat : Nat) : Int) = 13 := by decide
    have hzz : ((13 : Int) == z) = false := by simp; omega
    have HC := hide (fun w => (lb_IndexByte (nl3.extract 3 nl3.size) z w).mono (fun e w' h => (⟨h.1.trans (by rw [show Lib.indexByte (nl3.extract 3 nl3.size).data.toList z.toNat.toUInt8 = -1 from HI.out 3]), h.2.symm⟩ : e = .returned (.int .i64 (-1)) ∧ w' = w)))
    go_enter Tryd.func84, Tryd.ntmps84
    go_wp2_with (first
      | (go_at_call 96; refine (HV.out _).mono ?_; rintro e w2 ⟨rfl, rfl⟩))
    go_step3
    go_wp2_with fail
    go_loopg [9] 1 (fun g s9 wx => g = 1 ∧ s9 = .int .i64 2 ∧ wx = w)
    case atStart => exact ⟨rfl, rfl, rfl⟩
    case round =>
      obtain ⟨rfl, rfl, rfl⟩ := hrel
      go_wp2_with fail
      go_step3
      go_wp2_with fail
      go_quiet (fail)
      go_wp2_with fail
      have HW2 := hide (below_drewN (Below.refl wr.heap.size wr) nq)
      generalize wr.drewN nq = w2 at HW2 ⊢
      have w2' : IntKind.i64.wrap 3 = 3 := by decide
      go_quiet ((go_at_call 58; exact Calls.quiet_of_same (HC.out _)))
      go_wp2_with fail
      rw [Exit.noGoto_ret, inBlock_ret, then_ret, inBlock_ret, then_ret, Exit.noGoto_ret, inBlock_ret]
      go_ret
      exact ⟨rfl, below_drewN HW2.out _⟩
  · have hn' : (S.size : Int) = 4 := by omega
    clear hn
    go_enter Tryd.func84, Tryd.ntmps84
    go_wp2_with (first
      | (go_at_call 96; refine (HV.out _).mono ?_; rintro e w2 ⟨rfl, rfl⟩))
    go_step3
    go_wp2_with fail
    go_loopg [9] 1 (fun g s9 wx => g = 1 ∧ s9 = .int .i64 3 ∧ wx = w)
    case atStart => exact ⟨rfl, rfl, rfl⟩
    case round =>
      obtain ⟨rfl, rfl, rfl⟩ := hrel
      go_wp2_with fail
      rw [Exit.noGoto_ret]
      go_ret
      exact ⟨rfl, Below.refl _ _⟩

set_option maxRecDepth 100000 in
set_option maxHeartbeats 3200000 in
theorem rq_rune_err (w : World) :
    Calls Tryd.prog 84 #[.string nl3, .int .i32 65533] w fun e w' => e = .returned (.int .i64 (-1)) ∧ Below w.heap.size w w' := by
  go_enter Tryd.func84, Tryd.ntmps84
  go_wp2_with fail
  go_loopg [5, 6] 3 (fun g _ _ wx => ∃ i : Nat, i + g = 3 ∧ wx = w.iter nl3 i)
  case atStart => exact ⟨0, rfl, rfl⟩
  case round =>
    obtain ⟨i, hig, rfl⟩ := hrel
    cases gk with
    | zero =>
      obtain rfl : i = 3 := by omega
      have hnx := fun ty => run_next_end (P := Tryd.prog) w nl3 3 ty (by decide)
      go_wp2_with fail
      repeat rw [Exit.noGoto_ret]
      go_ret
      exact ⟨rfl, (Below.refl _ _).alloc (Nat.le_refl _) _⟩
    | succ g =>
      have hi : i < nl3.size := by have : nl3.size = 3 := rfl; omega
      have hsm : ∀ j : Fin 3, ((nl3[j.val]'j.isLt).toNat) < 128 := by decide
      have hnx := fun ty => run_next_ascii (P := Tryd.prog) w nl3 i ty hi (hsm ⟨i, hi⟩)
      obtain ⟨z, hz⟩ : ∃ z, z = (((nl3[i]'hi).toNat : Nat) : Int) := ⟨_, rfl⟩
      have hzb : z < 128 := by have := hsm ⟨i, hi⟩; rw [hz]; exact_mod_cast this
      rw [← hz] at hnx
      have hne : (z == 65533) = false := by simp; omega
      clear hz hsm
      go_wp2_with fail
      go_roundg g
      case measure => omega
      case rel => exact ⟨i + 1, by omega, rfl⟩
end Go.Proofs.YtlbhnbloanamfaaDoor
