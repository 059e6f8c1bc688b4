/-
  StaticBack: its walk: for every place and value the Go text returns true, and leaves what was there as it was.
-/
import Derived.Test.YtiabijmejdodpaaStAwake
namespace Go.Proofs.Ytiabijmejdodpaa.staticBack
open Go.RowKit Go.Proofs.Ytiabijmejdodpaa

def selfB (k : Nat) : Bool := (List.range k).all fun j => !(decide (nm j = nm k) && decide (vl j = vl k))
theorem self_all : ∀ k, k < 61 → selfB k = true := by decide +kernel
theorem find_self (k : Nat) (hk : k < 61) : FindIs (nm k) (vl k) (k + 1) true := by
  refine .inl ⟨rfl, by omega, by omega, rfl, rfl, fun j hj ⟨h1, h2⟩ => ?_⟩
  have h := self_all k hk
  unfold selfB at h
  rw [List.all_eq_true] at h
  have := h j (List.mem_range.2 (by omega))
  rw [h1, h2] at this
  simp at this
theorem least_all : ∀ k, k < 61 → 1 ≤ stF (nm k) 61 ∧ stF (nm k) 61 ≤ k + 1 ∧ nm (stF (nm k) 61 - 1) = nm k := by decide +kernel
theorem back_facts (k : Nat) (hk : k < 61) (v : ByteArray) (r : Nat) (b : Bool) (h : FindIs (nm k) v r b) :
    ∃ q : Nat, (r : Int) = (q : Int) + 1 ∧ q < 61 ∧ nm q = nm k ∧ ((b = true ∧ vl q = v) ∨ (b = false ∧ vl q ≠ v ∧ q ≤ k)) := by
  rcases h with ⟨rfl, h1, h2, h3, h4, h5⟩ | ⟨rfl, h1, h2⟩
  · exact ⟨r - 1, by omega, by omega, h3, .inl ⟨rfl, h4⟩⟩
  · obtain ⟨g1, g2, g3⟩ := least_all k hk
    rw [← h1] at g1 g2 g3
    exact ⟨r - 1, by omega, by omega, g3, .inr ⟨rfl, fun e => h2 (r - 1) (by omega) ⟨g3, e⟩, by omega⟩⟩

set_option maxRecDepth 100000 in
set_option maxHeartbeats 1600000 in
theorem walk_nat (p : Nat) (hp : p < 256) (v : ByteArray) (w : World) :
    Calls Try.prog 5 #[.int .u8 (p : Nat), .string v] w fun e w' => e = .returned (.bool true) ∧ Below w.heap.size w w' := by
  by_cases hv : (100 : Int) < (v.size : Int)
  · go_enter Try.func5, Try.ntmps5
    go_wp2_with (go_at_call 6; refine (aw_static _).mono ?_; rintro e w7 ⟨rfl, hb7⟩; have HB7 := hide hb7; clear hb7)
    go_ret
    exact ⟨rfl, HB7.out⟩
  · obtain ⟨k, hk⟩ : ∃ k, k = p % 61 := ⟨_, rfl⟩
    have hk61 : k < 61 := by omega
    have hki : (p : Int) % 61 = (k : Int) := by omega
    have hz := run_zero_is st_zero_raw
    have C1 := hide (fun w : World => (show Calls Try.prog 7 #[.int .i64 (1 + (k : Int))] w _ from by rw [Int.add_comm]; exact st_At_nat k hk61 w))
    have C2 := hide (fun w : World => st_Find_is (find_self k hk61) (R := 1 + (k : Int)) (by omega) w)
    have BF := hide (back_facts k hk61 v)
    obtain ⟨N, hN⟩ : ∃ N, N = nm k := ⟨_, rfl⟩
    obtain ⟨V, hV⟩ : ∃ V, V = vl k := ⟨_, rfl⟩
    rw [← hN, ← hV] at C1 C2
    rw [← hN] at BF
    clear hk hN hV
    go_enter Try.func5, Try.ntmps5
    go_wp2_with fail
    refine (C1.out _).mono ?_
    rintro e w1 ⟨rfl, hb1⟩
    have B1 := hide (hb1.alloc hb1.size (.cells #[.string N, .string V, .bool false] 23))
    have K1 := hide (BlkIs.new w1 23 #[.string N, .string V, .bool false])
    clear hb1 C1 hki
    go_wp2_with fail
    refine (C2.out _).mono ?_
    rintro e w2 ⟨rfl, hb2⟩
    obtain ⟨g1, hg1⟩ : ∃ g, g = w1.heap.size := ⟨_, rfl⟩
    rw [← hg1] at K1 ⊢
    have K2 := hide (K1.out.keep hb2)
    have B2 := hide (B1.out.trans (hb2.mono B1.out.size))
    have c0 := K2.out.cell 0
    simp only [List.getElem?_toArray, List.getElem?_cons_zero] at c0
    clear hb2 hg1 K1 B1 C2
    go_wp2_with fail
    refine (st_Find N v _).mono ?_
    rintro e w3 ⟨r, b, rfl, hf, hb3⟩
    obtain ⟨q, hr, hq, hnq, hqb⟩ := BF.out r b hf
    have K3 := hide (K2.out.keep hb3)
    have B3 := hide (B2.out.trans (hb3.mono B2.out.size))
    have C3 := hide (st_At_nat q hq)
    obtain ⟨V', hV'⟩ : ∃ V, V = vl q := ⟨_, rfl⟩
    rw [hnq, ← hV'] at C3
    rw [← hV'] at hqb
    rw [hr]
    clear hr hb3 c0 K2 B2 hf BF hnq hV'
    go_wp2_with fail
    refine (C3.out _).mono ?_
    rintro e w4 ⟨rfl, hb4⟩
    have K4 := hide ((K3.out.keep hb4).alloc (.cells #[.string N, .string V', .bool false] 23))
    have B4 := hide ((B3.out.trans (hb4.mono B3.out.size)).alloc (by have h1 := hb4.size; have h2 := B3.out.size; omega) (.cells #[.string N, .string V', .bool false] 23))
    have c0 := K4.out.cell 0
    have c1 := K4.out.cell 1
    have c2 := K4.out.cell 2
    simp only [List.getElem?_toArray, List.getElem?_cons_zero, List.getElem?_cons_succ] at c0 c1 c2
    clear hb4 K3 B3 C3
    rcases hqb with ⟨rfl, hvq⟩ | ⟨rfl, hvq, hqk⟩
    · have hs := str_same hvq
      clear hvq
      go_wp2_with (go_at_call 6; refine (aw_static _).mono ?_; rintro e w7 ⟨rfl, hb7⟩; have HB7 := hide (B4.out.trans (hb7.mono B4.out.size)); clear hb7)
      go_ret
      exact ⟨rfl, HB7.out⟩
    · have hs := str_not hvq
      have hle : (q : Int) + 1 ≤ 1 + (k : Int) := by omega
      clear hvq
      go_wp2_with (go_at_call 6; refine (aw_static _).mono ?_; rintro e w7 ⟨rfl, hb7⟩; have HB7 := hide (B4.out.trans (hb7.mono B4.out.size)); clear hb7)
      go_ret
      exact ⟨rfl, HB7.out⟩

theorem walk (a0 : Int) (v : ByteArray) (w : World) (w0 : (Lit.int .u8 a0).wf = true) (_w1 : v.size ≤ maxLen) :
    Calls Try.prog 5 #[.int .u8 a0, .string v] w fun e w' => e = .returned (.bool true) ∧ Below w.heap.size w w' := by
  obtain ⟨h0, h1⟩ := bounds_u8 w0
  have := walk_nat a0.toNat (by omega) v w
  rwa [show ((a0.toNat : Nat) : Int) = a0 by omega] at this
end Go.Proofs.Ytiabijmejdodpaa.staticBack
