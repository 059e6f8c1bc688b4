/-
  Layer 4: what fields count: the program's and the document's.
-/
import Derived.Test.YtchndegcnjejiaaDyMath
namespace Go.Proofs.Ytchndegcnjejiaa
open Go.RowKit

theorem fd_Size (a b : ByteArray) (n : Bool) (h : ((a.size + b.size + 32 : Nat) : Int) ≤ 1099511627776) (w : World) : Calls Try.prog 22 #[.agg #[.string a, .string b, .bool n]] w fun e w' => e = .returned (.int .i64 ((a.size + b.size + 32 : Nat) : Int)) ∧ Below w.heap.size w w' := by
  have h1 : (a.size : Int) ≤ 1099511627776 := by omega
  have h2 : (b.size : Int) ≤ 1099511627776 := by omega
  have h3 : (a.size : Int) + (b.size : Int) + 32 ≤ 1099511627776 := by omega
  clear h
  go_enter Try.func22, Try.ntmps22
  go_wp2
  go_ret
  exact ⟨ret_num (by omega), (Below.refl _ _).alloc (Nat.le_refl _) _⟩
theorem rd_Size (a b : ByteArray) (n : Bool) (h : ((a.size + b.size + 32 : Nat) : Int) ≤ 1099511627776) (w : World) : Calls Try.prog 37 #[.agg #[.string a, .string b, .bool n]] w fun e w' => e = .returned (.int .i64 ((a.size + b.size + 32 : Nat) : Int)) ∧ Below w.heap.size w w' := by
  have h1 : (a.size : Int) ≤ 1099511627776 := by omega
  have h2 : (b.size : Int) ≤ 1099511627776 := by omega
  have h3 : (a.size : Int) + (b.size : Int) + 32 ≤ 1099511627776 := by omega
  clear h
  go_enter Try.func37, Try.ntmps37
  go_wp2
  go_ret
  exact ⟨ret_num (by omega), (Below.refl _ _).alloc (Nat.le_refl _) _⟩

/-- What stands in a round: the field behind k others, and its cells. -/
theorem FL.round {w : World} {A : Option Addr} {n c : Nat} {l : List Fd} (h : FL w A n c l) {k : Nat} (hk : k < n) :
    ∃ f b off, l[k]? = some f ∧ A = some ⟨b, off, none⟩ ∧ b < w.heap.size ∧ w.cell? ⟨b, off + k * 3, none⟩ = some (.string f.n) ∧ w.cell? ⟨b, off + k * 3 + 1, none⟩ = some (.string f.v) ∧ w.cell? ⟨b, off + k * 3 + 2, none⟩ = some (.bool f.x) := by
  have hl := h.len
  obtain ⟨b, off, h1⟩ := h.at_ k _ (List.getElem?_eq_getElem (show k < l.length by omega))
  exact ⟨_, b, off, List.getElem?_eq_getElem (by omega), h1⟩

set_option maxRecDepth 100000 in
set_option maxHeartbeats 1600000 in
theorem dy_Size (m : Int) (A : Option Addr) (n c : Nat) (l : List Fd) (w : World) (hfl : FL w A n c l) (hs : (szs l : Int) ≤ 1099511627776) :
    Calls Try.prog 12 #[.agg #[.int .i64 m, .slice A n c]] w fun e w' => e = .returned (.int .i64 (szs l : Int)) ∧ Below w.heap.size w w' := by
  have hn : (n : Int) ≤ 1099511627776 := by have := szs_len l; have := hfl.len; omega
  have HFL := hide hfl
  have HS := hide hs
  clear hfl hs
  have hz := run_zero_is st_zero_raw
  obtain ⟨S, hS⟩ : ∃ S : Nat → Nat, ∀ k, S k = szs (l.take k) := ⟨_, fun _ => rfl⟩
  have HSZ := hide hS
  clear hS
  go_enter Try.func12, Try.ntmps12
  go_wp2_with fail
  go_loopw [3, 9] (fun s k wr => ∃ i : Nat, i ≤ n ∧ k = .int .i64 (i : Int) ∧ s = .int .i64 (S i : Int) ∧ Below w.heap.size w wr) (fun _ k _ => n - (intOf k).toNat)
  case atStart => exact ⟨0, by omega, rfl, by rw [HSZ.out]; rfl, (Below.refl _ _).alloc (Nat.le_refl _) _⟩
  case round =>
    obtain ⟨i, hi, rfl, rfl, hb⟩ := hrel
    have HB := hide hb
    clear hb
    by_cases hlt : i < n
    · have hlt' : (i : Int) < (n : Int) := by omega
      obtain ⟨f, b, off, hf, rfl, hbl, c0, c1, c2⟩ := (HFL.out.keep HB.out).round hlt
      have hg := szs_get l i f hf
      have hst := szs_take_succ l i f hf
      have htl := szs_take_le l (i + 1)
      have hsb : (S i : Int) + ((f.n.size + f.v.size + 32 : Nat) : Int) ≤ 1099511627776 := by rw [HSZ.out]; have := HS.out; unfold szF at hst; omega
      have HC := hide (fd_Size f.n f.v f.x (by have := HS.out; unfold szF at hg; omega))
      have HE := hide (show (S (i + 1) : Int) = (S i : Int) + ((f.n.size + f.v.size + 32 : Nat) : Int) by rw [HSZ.out, HSZ.out]; unfold szF at hst; omega)
      obtain ⟨z, hz'⟩ : ∃ z : Nat, z = f.n.size + f.v.size + 32 := ⟨_, rfl⟩
      rw [← hz'] at HC HE hsb
      have hs0 : (0 : Int) ≤ (S i : Int) := by omega
      have hz0 : (0 : Int) ≤ (z : Int) := by omega
      clear hg hst htl hz' hf
      go_wp2_with (go_at_call 22; refine (HC.out _).mono ?_; rintro e w2 ⟨rfl, hb2⟩; have HB2 := hide hb2; clear hb2)
      go_roundw
      case rel =>
        have hbb := HB.out
        exact ⟨i + 1, by omega, by go_num, by rw [HE.out], (hbb.alloc hbb.size _).trans (HB2.out.mono (by have := hbb.size; simp; omega))⟩
      case measure => simp [intOf]; omega
    · have hge : ¬ (i : Int) < (n : Int) := by omega
      obtain rfl : i = n := by omega
      go_wp2
      go_ret
      refine ⟨ret_num ?_, HB.out⟩
      rw [HSZ.out, ← HFL.out.len, List.take_length]

set_option maxRecDepth 100000 in
set_option maxHeartbeats 1600000 in
theorem rf_Sum (A : Option Addr) (n c : Nat) (l : List Fd) (w : World) (hfl : FL w A n c l) (hs : (szs l : Int) ≤ 1099511627776) :
    Calls Try.prog 26 #[.slice A n c] w fun e w' => e = .returned (.int .i64 (szs l : Int)) ∧ Below w.heap.size w w' := by
  have hn : (n : Int) ≤ 1099511627776 := by have := szs_len l; have := hfl.len; omega
  have HFL := hide hfl
  have HS := hide hs
  clear hfl hs
  obtain ⟨S, hS⟩ : ∃ S : Nat → Nat, ∀ k, S k = szs (l.take k) := ⟨_, fun _ => rfl⟩
  have HSZ := hide hS
  clear hS
  go_enter Try.func26, Try.ntmps26
  go_wp2_with fail
  go_loopw [3, 4] (fun s k wr => ∃ i : Nat, i ≤ n ∧ k = .int .i64 (i : Int) ∧ s = .int .i64 (S i : Int) ∧ Below w.heap.size w wr) (fun _ k _ => n - (intOf k).toNat)
  case atStart => exact ⟨0, by omega, rfl, by rw [HSZ.out]; rfl, Below.refl _ _⟩
  case round =>
    obtain ⟨i, hi, rfl, rfl, hb⟩ := hrel
    have HB := hide hb
    clear hb
    by_cases hlt : i < n
    · have hlt' : (i : Int) < (n : Int) := by omega
      obtain ⟨f, b, off, hf, rfl, hbl, c0, c1, c2⟩ := (HFL.out.keep HB.out).round hlt
      have hg := szs_get l i f hf
      have hst := szs_take_succ l i f hf
      have htl := szs_take_le l (i + 1)
      have hsb : (S i : Int) + ((f.n.size + f.v.size + 32 : Nat) : Int) ≤ 1099511627776 := by rw [HSZ.out]; have := HS.out; unfold szF at hst; omega
      have HC := hide (rd_Size f.n f.v f.x (by have := HS.out; unfold szF at hg; omega))
      have HE := hide (show (S (i + 1) : Int) = (S i : Int) + ((f.n.size + f.v.size + 32 : Nat) : Int) by rw [HSZ.out, HSZ.out]; unfold szF at hst; omega)
      obtain ⟨z, hz'⟩ : ∃ z : Nat, z = f.n.size + f.v.size + 32 := ⟨_, rfl⟩
      rw [← hz'] at HC HE hsb
      have hs0 : (0 : Int) ≤ (S i : Int) := by omega
      have hz0 : (0 : Int) ≤ (z : Int) := by omega
      clear hg hst htl hz' hf
      go_wp2_with (go_at_call 37; refine (HC.out _).mono ?_; rintro e w2 ⟨rfl, hb2⟩; have HB2 := hide hb2; clear hb2)
      go_roundw
      case rel =>
        have hbb := HB.out
        exact ⟨i + 1, by omega, by go_num, by rw [HE.out], hbb.trans (HB2.out.mono hbb.size)⟩
      case measure => simp [intOf]; omega
    · have hge : ¬ (i : Int) < (n : Int) := by omega
      obtain rfl : i = n := by omega
      go_wp2
      go_ret
      refine ⟨ret_num ?_, HB.out⟩
      rw [HSZ.out, ← HFL.out.len, List.take_length]

theorem rf_Size04 (m : Int) (A : Option Addr) (n c : Nat) (l : List Fd) (w : World) (hfl : FL w A n c l) (hs : (szs l : Int) ≤ 1099511627776) :
    Calls Try.prog 13 #[.agg #[.int .i64 m, .slice A n c]] w fun e w' => e = .returned (.int .i64 (szs l : Int)) ∧ Below w.heap.size w w' := by
  have HC := hide (rf_Sum A n c l _ (hfl.alloc (.cells #[.int .i64 m, .slice A n c] 24)) hs)
  clear hfl hs
  go_enter Try.func13, Try.ntmps13
  go_wp2_with (go_at_call 26; refine HC.out.mono ?_; rintro e w2 ⟨rfl, hb2⟩; have HB2 := hide hb2; clear hb2)
  go_ret
  exact ⟨rfl, ((Below.refl _ _).alloc (Nat.le_refl _) _).trans (HB2.out.mono (by simp))⟩
end Go.Proofs.Ytchndegcnjejiaa
