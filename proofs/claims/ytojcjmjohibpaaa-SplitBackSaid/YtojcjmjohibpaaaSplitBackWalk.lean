/-
  SplitBack: its walk: for all frames and both bytes the Go text returns true, and leaves what was there as it was.
-/
import Derived.Test.YtojcjmjohibpaaaSpAwake
import Derived.Test.YtojcjmjohibpaaaSbMath
import Derived.Test.YtojcjmjohibpaaaZlOpen
import Derived.Test.YtojcjmjohibpaaaFhPut
import Derived.Test.YtojcjmjohibpaaaSrRaws
import Derived.Deep.Cut
import Derived.Deep.DeepCutAuto
import Derived.BigGuardPart
namespace Go.Proofs.Ytojcjmjohibpaaa
set_option linter.unusedSimpArgs false
set_option linter.unusedVariables false
open Go.RowKit
/-- What a piece's reading leaves: the state in a block of its own, the frames, the code. -/
def PieceB (w w' : World) (g : Int) (B : ByteArray) (d : Bool) (n : Nat) (l : List Rw) (c : Int) (s1 s2 s3 : Value) : Prop :=
  ∃ y A cp, s1 = .pointer (some ⟨y, 0, none⟩) ∧ s2 = .slice A n cp ∧ s3 = .int .u32 c ∧ BlkIs w' y 26 #[.int .i64 g, .string B, .bool d] ∧ ZL w' A n cp l ∧ Below w.heap.size w w'
theorem hd_built4 (a b c d : Value) : Try.prog.built 49 [(0, a), (1, b), (2, c), (3, d)] = (Try.prog.built 49 [(0, a), (1, b), (2, c), (3, d)]) := rfl
theorem hd_built (a : Int) (b c : Int) (d : Int) : Try.prog.built 49 [(0, .int .i64 a), (1, .int .u8 b), (2, .int .u8 c), (3, .int .i64 d)] = some #[.int .i64 a, .int .u8 b, .int .u8 c, .int .i64 d] := by kernel_rfl
theorem hdc_one (a b c d : Int) : (#[Value.int .i64 a, .int .u8 b, .int .u8 c, .int .i64 d]).all (·.oneCell') = true := by simp [Value.oneCell']
theorem zb_ne {w : World} {A : Option Addr} {n c u : Nat} {l : List Rw} {x : Int} {y : ByteArray} {z : Bool} (h : ZL w A n c l) (hu : BlkIs w u 26 #[.int .i64 x, .string y, .bool z]) : ∀ b off, A = some ⟨b, off, none⟩ → 0 < n → ¬ b = u := by
  intro b off hA hn e
  subst e
  obtain ⟨r, b', off', hl, e1, _, c0, c1, c2, _, _⟩ := h.round hn
  rw [hA] at e1
  injection e1 with e1
  injection e1 with e1 e2
  subst e1 e2
  rw [hu.cell] at c0 c1 c2
  simp only [Nat.zero_mul, Nat.add_zero] at c0 c1 c2
  match off, c0, c1, c2 with
  | 0, c0, c1, c2 => simp at c1
  | 1, c0, c1, c2 => simp at c0
  | 2, c0, c1, c2 => simp at c0
  | k + 3, c0, c1, c2 => simp at c0
theorem ZL.lone5 {w : World} {A : Option Addr} {c : Nat} {r : Rw} (h : ZL w A 1 c [r]) : ∃ b off, A = some ⟨b, off, none⟩ ∧ b < w.heap.size ∧ w.cell? ⟨b, off, none⟩ = some (.int .i64 r.l) ∧ w.cell? ⟨b, off + 1, none⟩ = some (.int .u8 r.t) ∧ w.cell? ⟨b, off + 2, none⟩ = some (.int .u8 r.f) ∧ w.cell? ⟨b, off + 3, none⟩ = some (.int .i64 r.s) ∧ w.cell? ⟨b, off + 4, none⟩ = some (.string r.d) := by
  obtain ⟨b, off, e, hlt, h0, h1, h2, h3, h4⟩ := h.at_ 0 r rfl
  refine ⟨b, off, e, hlt, ?_, ?_, ?_, ?_, ?_⟩
  · simpa using h0
  · simpa using h1
  · simpa using h2
  · simpa using h3
  · simpa using h4
theorem rem_nat (m n : Int) (h0 : 0 ≤ m) (N : Nat) (hn : n = (N : Int)) (hp : 0 < N) : ∃ i : Nat, m % n = (i : Int) ∧ i < N := by
  subst hn
  refine ⟨(m % (N : Int)).toNat, ?_, ?_⟩
  · have := Int.emod_nonneg m (show (N : Int) ≠ 0 by omega); omega
  · have := Int.emod_nonneg m (show (N : Int) ≠ 0 by omega)
    have := Int.emod_lt_of_pos m (show (0 : Int) < (N : Int) by omega)
    omega
theorem mark_frozen (w : World) (C : Array Value) (t : TypeId) (k : Nat) (hk : k < C.size) : (w.alloc (.cells C t (C.size, C.size + 1))).frozen? ⟨w.heap.size, k, none⟩ = false := by
  have hg : (w.alloc (.cells C t (C.size, C.size + 1))).heap[w.heap.size]? = some (.cells C t (C.size, C.size + 1)) := heap_alloc_new w _
  unfold World.frozen?
  rw [hg]
  simp
  omega
theorem pre_cell (w : World) (k : Nat) (hk : k < 24) : (w.alloc (.cells #[.int .u8 80, .int .u8 82, .int .u8 73, .int .u8 32, .int .u8 42, .int .u8 32, .int .u8 72, .int .u8 84, .int .u8 84, .int .u8 80, .int .u8 47, .int .u8 50, .int .u8 46, .int .u8 48, .int .u8 13, .int .u8 10, .int .u8 13, .int .u8 10, .int .u8 83, .int .u8 77, .int .u8 13, .int .u8 10, .int .u8 13, .int .u8 10] 5 (24, 25))).cell? ⟨w.heap.size, k, none⟩ = some (.int .u8 (preB.getD k 0)) := by
  obtain ⟨b, off, e, _, hc⟩ := (rb_mark w 5 (24, 25) preB 24 rfl preB_all).2.1 (by omega)
  injection e with e
  injection e with e1 e2
  subst e1 e2
  have := hc k hk
  rw [Nat.zero_add] at this
  exact this
theorem mark_set (w : World) (t : TypeId) (fr : Nat × Nat) (xs : List Int) (k : Nat) (v : Int) (hk : k < xs.length) (hx : AllB xs) (v0 : 0 ≤ v) (v1 : v ≤ 255) :
    RB ((w.alloc (.cells (u8s xs).toArray t fr)).setCell ⟨w.heap.size, k, none⟩ (.int .u8 v)) (some ⟨w.heap.size, 0, none⟩) xs.length (xs.set k v) := by
  have hb : AllB (xs.set k v) := fun x h => by
    rcases List.mem_or_eq_of_mem_set h with h | h
    · exact hx x h
    · subst h; exact ⟨v0, v1⟩
  refine ⟨by simp, fun hp => ⟨w.heap.size, 0, rfl, by simp [World.setCell], fun i hi => ?_⟩, fun i => hb.getD i⟩
  rw [Nat.zero_add]
  by_cases hik : i = k
  · subst hik
    have hc : (w.alloc (.cells (u8s xs).toArray t fr)).cell? ⟨w.heap.size, i, none⟩ = some (.int .u8 (xs.getD i 0)) := by
      rw [World.cell?_alloc_mark]; simp [u8s, List.getD, hi]
    rw [World.cell?_setCell_same' _ _ _ (by rw [hc]; rfl)]
    simp [List.getD, hi]
  · rw [World.cell?_setCell_other _ _ _ _ (by intro e; injection e with _ e; exact hik e.symm), World.cell?_alloc_mark]
    simp [u8s, List.getD, hi, List.getElem?_set, Ne.symm hik]
end Go.Proofs.Ytojcjmjohibpaaa
namespace Go.Proofs.Ytojcjmjohibpaaa.splitBack
open Go.RowKit Go.Proofs.Ytojcjmjohibpaaa

set_option maxRecDepth 100000 in
set_option maxHeartbeats 6400000 in
theorem walk (a : Option Addr) (n c : Nat) (l : List Rw) (q p : Int) (w : World) (hl : ZL w a n c l) (hok : AllZ l) (w1 : (Lit.int .u8 q).wf = true) (w2 : (Lit.int .u8 p).wf = true) :
    Calls Try.prog 5 #[.slice a n c, .int .u8 q, .int .u8 p] w fun e w' => e = .returned (.bool true) ∧ Below w.heap.size w w' := by
  have HAW := hide (fun w => aw_split w)
  have HL := hide hl
  have HOK := hide hok
  have hq := bounds_u8 w1
  have hp := bounds_u8 w2
  clear hl hok w1 w2
  by_cases hn : 12 < n
  · have hn' : (12 : Int) < (n : Int) := by omega
    clear hn hq hp HL HOK
    go_enter Try.func5, Try.ntmps5
    go_wp2_with fail
    refine (HAW.out _).mono ?_
    rintro e w1 ⟨rfl, hb1⟩
    have B1 := hide hb1
    clear hb1
    go_wp2_with fail
    go_ret
    exact ⟨rfl, B1.out⟩
  have hn' : ¬ (12 : Int) < (n : Int) := by omega
  obtain ⟨kq, hkq, hk24⟩ := rem_nat q 24 hq.1 24 rfl (by omega)
  have q0 := hq.1
  have q1 := hq.2
  have p0 := hp.1
  have p1 := hp.2
  have HPRE := hide (fun w A cap hc1 hc2 hc3 hr => feed_is feed_pre ⟨#[]⟩ rfl 0 rfl A 24 cap (by decide) (by omega) hc1 hc2 hc3 w hr)
  clear hq hp hn
  have kc := Lib.run_convert_bytes_const (P := Try.prog) w 24 5 #[.int .u8 80, .int .u8 82, .int .u8 73, .int .u8 32, .int .u8 42, .int .u8 32, .int .u8 72, .int .u8 84, .int .u8 84, .int .u8 80, .int .u8 47, .int .u8 50, .int .u8 46, .int .u8 48, .int .u8 13, .int .u8 10, .int .u8 13, .int .u8 10, .int .u8 83, .int .u8 77, .int .u8 13, .int .u8 10, .int .u8 13, .int .u8 10] 24 24 Try.underlying24 Try.underlying5
  go_enter Try.func5, Try.ntmps5
  have B0 := hide (Below.refl w.heap.size w)
  go_wp2_with (refine rgs_built_want (by rfl) 26 _ rfl _ st_built0 ?_)
  clear kc
  have RN1 := hide (show RB (w.alloc (.cells #[.int .u8 80, .int .u8 82, .int .u8 73, .int .u8 32, .int .u8 42, .int .u8 32, .int .u8 72, .int .u8 84, .int .u8 84, .int .u8 80, .int .u8 47, .int .u8 50, .int .u8 46, .int .u8 48, .int .u8 13, .int .u8 10, .int .u8 13, .int .u8 10, .int .u8 83, .int .u8 77, .int .u8 13, .int .u8 10, .int .u8 13, .int .u8 10] 5 (24, 25))) (some ⟨w.heap.size, 0, none⟩) 24 preB from rb_mark w 5 (24, 25) preB 24 rfl preB_all)
  have B1 := hide (B0.out.alloc B0.out.size (.cells #[.int .u8 80, .int .u8 82, .int .u8 73, .int .u8 32, .int .u8 42, .int .u8 32, .int .u8 72, .int .u8 84, .int .u8 84, .int .u8 80, .int .u8 47, .int .u8 50, .int .u8 46, .int .u8 48, .int .u8 13, .int .u8 10, .int .u8 13, .int .u8 10, .int .u8 83, .int .u8 77, .int .u8 13, .int .u8 10, .int .u8 13, .int .u8 10] 5 (24, 25)))
  clear B0
  obtain ⟨p1, hp1⟩ : ∃ g, g = w.heap.size := ⟨_, rfl⟩
  rw [← hp1] at RN1 ⊢
  generalize w.alloc (.cells #[.int .u8 80, .int .u8 82, .int .u8 73, .int .u8 32, .int .u8 42, .int .u8 32, .int .u8 72, .int .u8 84, .int .u8 84, .int .u8 80, .int .u8 47, .int .u8 50, .int .u8 46, .int .u8 48, .int .u8 13, .int .u8 10, .int .u8 13, .int .u8 10, .int .u8 83, .int .u8 77, .int .u8 13, .int .u8 10, .int .u8 13, .int .u8 10] 5 (24, 25)) = w1 at B1 RN1 ⊢
  clear hp1
  refine (HPRE.out _ _ 24 (by omega) (by omega) (fun h => by cases h) RN1.out).mono ?_
  rintro e w2 ⟨v1, rfl, hown1, hb2⟩
  have B2 := hide (B1.out.trans (hb2.mono B1.out.size))
  clear hb2 B1
  clear RN1
  obtain ⟨A1, c1, rfl, _⟩ := own_zl hown1
  clear hown1
  go_upto_region 4 with (fail)
  have KN3 := hide (BlkIs.new w2 26 #[.int .i64 24, .string ⟨#[]⟩, .bool false])
  obtain ⟨st, hst⟩ : ∃ g, g = w2.heap.size := ⟨_, rfl⟩
  have Lst := hide (show w.heap.size ≤ st by rw [hst]; exact B2.out.size)
  have B3 := hide (B2.out.alloc B2.out.size (.cells #[.int .i64 24, .string ⟨#[]⟩, .bool false] 26))
  rw [← hst] at KN3 ⊢
  generalize w2.alloc (.cells #[.int .i64 24, .string ⟨#[]⟩, .bool false] 26) = w3 at B3 KN3 ⊢
  clear hst B2
  go_wp2_with fail
  go_loopw [10] (fun k wr => ∃ i : Nat, k = .int .i64 (i : Int) ∧ i ≤ n ∧ BlkIs wr st 26 #[.int .i64 24, .string ⟨#[]⟩, .bool false] ∧ Below w.heap.size w wr) (fun k _ => n - (intOf k).toNat)
  case atStart => exact ⟨0, rfl, by omega, KN3.out, B3.out⟩
  case round =>
    obtain ⟨i, rfl, hi, hkst, hbel⟩ := hrel
    have KS := hide hkst
    have BB := hide hbel
    clear hkst hbel KN3 B3
    by_cases hlt : i < n
    · have hlt' : (i : Int) < (n : Int) := by omega
      obtain ⟨r, b, off, hf, rfl, hbl, g0, g1, g2, g3, g4⟩ := HL.out.round hlt
      have HCE := hide (fun (w' : World) (hb' : Below w.heap.size w w') => (⟨(hb'.cell hbl).trans g0, (hb'.cell hbl).trans g1, (hb'.cell hbl).trans g2, (hb'.cell hbl).trans g3, (hb'.cell hbl).trans g4⟩ :
        w'.cell? ⟨b, off + i * 5, none⟩ = some (.int .i64 r.l) ∧ w'.cell? ⟨b, off + i * 5 + 1, none⟩ = some (.int .u8 r.t) ∧ w'.cell? ⟨b, off + i * 5 + 2, none⟩ = some (.int .u8 r.f) ∧ w'.cell? ⟨b, off + i * 5 + 3, none⟩ = some (.int .i64 r.s) ∧ w'.cell? ⟨b, off + i * 5 + 4, none⟩ = some (.string r.d)))
      have HRO := hide (HOK.out r (List.mem_of_getElem? hf))
      clear hf g0 g1 g2 g3 g4
      obtain ⟨_, _, _, _, g4⟩ := HCE.out _ BB.out
      by_cases h60 : 60 < r.d.size
      · have h60' : (60 : Int) < (r.d.size : Int) := by omega
        clear h60
        go_wp2_with fail
        refine (HAW.out _).mono ?_
        rintro e w1 ⟨rfl, hb1⟩
        have B9 := hide (BB.out.trans (hb1.mono BB.out.size))
        clear hb1 g4
        go_wp2_with fail
        go_ret
        exact ⟨rfl, B9.out⟩
      have h60' : ¬ (60 : Int) < (r.d.size : Int) := by omega
      go_upto_region 11 with (fail)
      clear g4
      refine wp_region_noPanic ?_
      refine wp_region_held_drew (S := fun w' => Below wr.heap.size wr w') (by kernel_rfl) (Below.refl _ _).drew (fun hS => ?_)
      refine wpAnyH_take (i := 0) (v := ?_) (by simp only [List.getElem?_toArray, List.getElem?_cons_zero] <;> exact rfl) (by kernel_rfl) (by kernel_rfl) (by kernel_rfl) (fun _ _ _ h => h) (Or.inl ⟨by rfl, ?_⟩) hS ?_
      rotate_left
      focus (intro w' hw'; go_simp; all_goals with_reducible rfl)
      try simp only [Act.put, List.setIfInBounds_toArray, List.set_cons_zero, List.set_cons_succ]
      refine wpAnyH_take (i := 1) (v := ?_) (by simp only [List.getElem?_toArray, List.getElem?_cons_succ, List.getElem?_cons_zero] <;> exact rfl) (by kernel_rfl) (by kernel_rfl) (by kernel_rfl) (fun _ _ _ h => h) (Or.inl ⟨by rfl, ?_⟩) hS ?_
      rotate_left
      focus (intro w' hw'; go_simp; all_goals with_reducible rfl)
      try simp only [Act.put, List.setIfInBounds_toArray, List.set_cons_zero, List.set_cons_succ]
      refine wpAnyH_take (i := 2) (v := ?_) (by simp only [List.getElem?_toArray, List.getElem?_cons_succ, List.getElem?_cons_zero] <;> exact rfl) (by kernel_rfl) (by kernel_rfl) (by kernel_rfl) (fun _ _ _ h => h) (Or.inl ⟨by rfl, ?_⟩) hS ?_
      rotate_left
      focus (intro w' hw'; go_simp; all_goals with_reducible rfl)
      try simp only [Act.put, List.setIfInBounds_toArray, List.set_cons_zero, List.set_cons_succ]
      refine wpAnyH_take (i := 3) (v := ?_) (by simp only [List.getElem?_toArray, List.getElem?_cons_succ, List.getElem?_cons_zero] <;> exact rfl) (by kernel_rfl) (by kernel_rfl) (by kernel_rfl) (fun _ _ _ h => h) (Or.inl ⟨by rfl, ?_⟩) hS ?_
      rotate_left
      focus (intro w' hw'; go_simp; all_goals with_reducible rfl)
      try simp only [Act.put, List.setIfInBounds_toArray, List.set_cons_zero, List.set_cons_succ]
      refine wpAnyH_take (i := 4) (v := ?_) (by simp only [List.getElem?_toArray, List.getElem?_cons_succ, List.getElem?_cons_zero] <;> exact rfl) (by kernel_rfl) (by kernel_rfl) (by kernel_rfl) (fun _ _ _ h => h) (Or.inl ⟨by rfl, ?_⟩) hS ?_
      rotate_left
      focus (intro w' hw'; obtain ⟨e0, e1, e2, e3, e4⟩ := HCE.out _ (BB.out.trans (hw'.mono BB.out.size)); go_simp; all_goals with_reducible rfl)
      try simp only [Act.put, List.setIfInBounds_toArray, List.set_cons_zero, List.set_cons_succ]
      refine wpAnyH_take (i := 5) (v := ?_) (by simp only [List.getElem?_toArray, List.getElem?_cons_succ, List.getElem?_cons_zero] <;> exact rfl) (by kernel_rfl) (by kernel_rfl) (by kernel_rfl) (fun _ _ _ h => h) (Or.inl ⟨by rfl, ?_⟩) hS ?_
      rotate_left
      focus (intro w' hw'; go_simp; all_goals with_reducible rfl)
      try simp only [Act.put, List.setIfInBounds_toArray, List.set_cons_zero, List.set_cons_succ]
      refine wpAnyH_take (i := 6) (v := ?_) (by simp only [List.getElem?_toArray, List.getElem?_cons_succ, List.getElem?_cons_zero] <;> exact rfl) (by kernel_rfl) (by kernel_rfl) (by kernel_rfl) (fun _ _ _ h => h) (Or.inl ⟨by rfl, ?_⟩) hS ?_
      rotate_left
      focus (intro w' hw'; go_simp; all_goals with_reducible rfl)
      try simp only [Act.put, List.setIfInBounds_toArray, List.set_cons_zero, List.set_cons_succ]
      refine wpAnyH_take (i := 7) (v := ?_) (by simp only [List.getElem?_toArray, List.getElem?_cons_succ, List.getElem?_cons_zero] <;> exact rfl) (by kernel_rfl) (by kernel_rfl) (by kernel_rfl) (fun _ _ _ h => h) (Or.inl ⟨by rfl, ?_⟩) hS ?_
      rotate_left
      focus (intro w' hw'; go_simp; all_goals with_reducible rfl)
      try simp only [Act.put, List.setIfInBounds_toArray, List.set_cons_zero, List.set_cons_succ]
      refine wpAnyH_take (i := 8) (v := ?_) (by simp only [List.getElem?_toArray, List.getElem?_cons_succ, List.getElem?_cons_zero] <;> exact rfl) (by kernel_rfl) (by kernel_rfl) (by kernel_rfl) (fun _ _ _ h => h) (Or.inl ⟨by rfl, ?_⟩) hS ?_
      rotate_left
      focus (intro w' hw'; go_simp; all_goals with_reducible rfl)
      try simp only [Act.put, List.setIfInBounds_toArray, List.set_cons_zero, List.set_cons_succ]
      refine wpAnyH_take (i := 9) (v := ?_) (by simp only [List.getElem?_toArray, List.getElem?_cons_succ, List.getElem?_cons_zero] <;> exact rfl) (by kernel_rfl) (by kernel_rfl) (by kernel_rfl) (fun _ _ _ h => h) (Or.inl ⟨by rfl, ?_⟩) hS ?_
      rotate_left
      focus (intro w' hw'; go_simp; all_goals with_reducible rfl)
      try simp only [Act.put, List.setIfInBounds_toArray, List.set_cons_zero, List.set_cons_succ]
      refine wpAnyH_take (i := 10) (v := ?_) (by simp only [List.getElem?_toArray, List.getElem?_cons_succ, List.getElem?_cons_zero] <;> exact rfl) (by kernel_rfl) (by kernel_rfl) (by kernel_rfl) (fun _ _ _ h => h) (Or.inl ⟨by rfl, ?_⟩) hS ?_
      rotate_left
      focus (intro w' hw'; go_simp; all_goals with_reducible rfl)
      try simp only [Act.put, List.setIfInBounds_toArray, List.set_cons_zero, List.set_cons_succ]
      refine wpAnyH_take (i := 11) (v := ?_) (by simp only [List.getElem?_toArray, List.getElem?_cons_succ, List.getElem?_cons_zero] <;> exact rfl) (by kernel_rfl) (by kernel_rfl) (by kernel_rfl) (fun _ _ _ h => h) (Or.inl ⟨by rfl, ?_⟩) hS ?_
      rotate_left
      focus (intro w' hw'; obtain ⟨e0, e1, e2, e3, e4⟩ := HCE.out _ (BB.out.trans (hw'.mono BB.out.size)); go_simp; all_goals with_reducible rfl)
      try simp only [Act.put, List.setIfInBounds_toArray, List.set_cons_zero, List.set_cons_succ]
      refine wpAnyH_take (i := 12) (v := ?_) (by simp only [List.getElem?_toArray, List.getElem?_cons_succ, List.getElem?_cons_zero] <;> exact rfl) (by kernel_rfl) (by kernel_rfl) (by kernel_rfl) (fun _ _ _ h => h) (Or.inl ⟨by rfl, ?_⟩) hS ?_
      rotate_left
      focus (intro w' hw'; go_simp; all_goals with_reducible rfl)
      try simp only [Act.put, List.setIfInBounds_toArray, List.set_cons_zero, List.set_cons_succ]
      refine wpAnyH_take (i := 13) (v := ?_) (by simp only [List.getElem?_toArray, List.getElem?_cons_succ, List.getElem?_cons_zero] <;> exact rfl) (by kernel_rfl) (by kernel_rfl) (by kernel_rfl) (fun _ _ _ h => h) (Or.inl ⟨by rfl, ?_⟩) hS ?_
      rotate_left
      focus (intro w' hw'; go_simp; all_goals with_reducible rfl)
      try simp only [Act.put, List.setIfInBounds_toArray, List.set_cons_zero, List.set_cons_succ]
      refine wpAnyH_take (i := 14) (v := ?_) (by simp only [List.getElem?_toArray, List.getElem?_cons_succ, List.getElem?_cons_zero] <;> exact rfl) (by kernel_rfl) (by kernel_rfl) (by kernel_rfl) (fun _ _ _ h => h) (Or.inl ⟨by rfl, ?_⟩) hS ?_
      rotate_left
      focus (intro w' hw'; go_simp; all_goals with_reducible rfl)
      try simp only [Act.put, List.setIfInBounds_toArray, List.set_cons_zero, List.set_cons_succ]
      refine wpAnyH_take (i := 15) (v := ?_) (by simp only [List.getElem?_toArray, List.getElem?_cons_succ, List.getElem?_cons_zero] <;> exact rfl) (by kernel_rfl) (by kernel_rfl) (by kernel_rfl) (fun _ _ _ h => h) (Or.inl ⟨by rfl, ?_⟩) hS ?_
      rotate_left
      focus (intro w' hw'; go_simp; all_goals with_reducible rfl)
      try simp only [Act.put, List.setIfInBounds_toArray, List.set_cons_zero, List.set_cons_succ]
      refine wpAnyH_take (i := 16) (v := ?_) (by simp only [List.getElem?_toArray, List.getElem?_cons_succ, List.getElem?_cons_zero] <;> exact rfl) (by kernel_rfl) (by kernel_rfl) (by kernel_rfl) (fun _ _ _ h => h) (Or.inl ⟨by rfl, ?_⟩) hS ?_
      rotate_left
      focus (intro w' hw'; go_simp; all_goals with_reducible rfl)
      try simp only [Act.put, List.setIfInBounds_toArray, List.set_cons_zero, List.set_cons_succ]
      refine wpAnyH_take (i := 17) (v := ?_) (by simp only [List.getElem?_toArray, List.getElem?_cons_succ, List.getElem?_cons_zero] <;> exact rfl) (by kernel_rfl) (by kernel_rfl) (by kernel_rfl) (fun _ _ _ h => h) (Or.inl ⟨by rfl, ?_⟩) hS ?_
      rotate_left
      focus (intro w' hw'; obtain ⟨e0, e1, e2, e3, e4⟩ := HCE.out _ (BB.out.trans (hw'.mono BB.out.size)); go_simp; all_goals with_reducible rfl)
      try simp only [Act.put, List.setIfInBounds_toArray, List.set_cons_zero, List.set_cons_succ]
      refine wpAnyH_take (i := 18) (v := ?_) (by simp only [List.getElem?_toArray, List.getElem?_cons_succ, List.getElem?_cons_zero] <;> exact rfl) (by kernel_rfl) (by kernel_rfl) (by kernel_rfl) (fun _ _ _ h => h) (Or.inl ⟨by rfl, ?_⟩) hS ?_
      rotate_left
      focus (intro w' hw'; go_simp; all_goals with_reducible rfl)
      try simp only [Act.put, List.setIfInBounds_toArray, List.set_cons_zero, List.set_cons_succ]
      refine wpAnyH_take (i := 19) (v := ?_) (by simp only [List.getElem?_toArray, List.getElem?_cons_succ, List.getElem?_cons_zero] <;> exact rfl) (by kernel_rfl) (by kernel_rfl) (by kernel_rfl) (fun _ _ _ h => h) (Or.inl ⟨by rfl, ?_⟩) hS ?_
      rotate_left
      focus (intro w' hw'; go_simp; all_goals with_reducible rfl)
      try simp only [Act.put, List.setIfInBounds_toArray, List.set_cons_zero, List.set_cons_succ]
      refine wpAnyH_take (i := 20) (v := ?_) (by simp only [List.getElem?_toArray, List.getElem?_cons_succ, List.getElem?_cons_zero] <;> exact rfl) (by kernel_rfl) (by kernel_rfl) (by kernel_rfl) (fun _ _ _ h => h) (Or.inl ⟨by rfl, ?_⟩) hS ?_
      rotate_left
      focus (intro w' hw'; go_simp; all_goals with_reducible rfl)
      try simp only [Act.put, List.setIfInBounds_toArray, List.set_cons_zero, List.set_cons_succ]
      refine wpAnyH_take (i := 21) (v := ?_) (by simp only [List.getElem?_toArray, List.getElem?_cons_succ, List.getElem?_cons_zero] <;> exact rfl) (by kernel_rfl) (by kernel_rfl) (by kernel_rfl) (fun _ _ _ h => h) (Or.inl ⟨by rfl, ?_⟩) hS ?_
      rotate_left
      focus (intro w' hw'; go_simp; all_goals with_reducible rfl)
      try simp only [Act.put, List.setIfInBounds_toArray, List.set_cons_zero, List.set_cons_succ]
      refine wpAnyH_take (i := 22) (v := ?_) (by simp only [List.getElem?_toArray, List.getElem?_cons_succ, List.getElem?_cons_zero] <;> exact rfl) (by kernel_rfl) (by kernel_rfl) (by kernel_rfl) (fun _ _ _ h => h) (Or.inl ⟨by rfl, ?_⟩) hS ?_
      rotate_left
      focus (intro w' hw'; go_simp; all_goals with_reducible rfl)
      try simp only [Act.put, List.setIfInBounds_toArray, List.set_cons_zero, List.set_cons_succ]
      refine wpAnyH_take (i := 23) (v := ?_) (by simp only [List.getElem?_toArray, List.getElem?_cons_succ, List.getElem?_cons_zero] <;> exact rfl) (by kernel_rfl) (by kernel_rfl) (by kernel_rfl) (fun _ _ _ h => h) (Or.inl ⟨by rfl, ?_⟩) hS ?_
      rotate_left
      focus (intro w' hw'; obtain ⟨e0, e1, e2, e3, e4⟩ := HCE.out _ (BB.out.trans (hw'.mono BB.out.size)); go_simp; all_goals with_reducible rfl)
      try simp only [Act.put, List.setIfInBounds_toArray, List.set_cons_zero, List.set_cons_succ]
      refine wpAnyH_take (i := 24) (v := ?_) (by simp only [List.getElem?_toArray, List.getElem?_cons_succ, List.getElem?_cons_zero] <;> exact rfl) (by kernel_rfl) (by kernel_rfl) (by kernel_rfl) (fun _ _ _ h => h) (Or.inl ⟨by rfl, ?_⟩) hS ?_
      rotate_left
      focus (intro w' hw'; have kk := hd_built (r.d.size : Int) r.t r.f r.s; go_simp; all_goals with_reducible rfl)
      try simp only [Act.put, List.setIfInBounds_toArray, List.set_cons_zero, List.set_cons_succ]
      generalize hwd : wr.drew = wd at hS ⊢
      have HWS := hide (show wr.heap.size ≤ wd.heap.size from hS.size)
      refine wpAnyH_ready (rs := [25]) (by kernel_rfl) (by simp) ?_
      refine AllReadyH.cons (o := _) (by simp only [List.getElem?_toArray, List.getElem?_cons_succ, List.getElem?_cons_zero] <;> exact rfl) (fun K hK => ?_) ?_
      focus (
        go_simp
        refine hK.out _ _ (hS.alloc hS.size _) (fun _ => ?_)
        have hu := BlkIs.new wd 49 #[.int .i64 0, .int .u8 0, .int .u8 0, .int .i64 0]
        obtain ⟨u, hu0⟩ : ∃ u, u = wd.heap.size := ⟨_, rfl⟩
        have hul : wr.heap.size ≤ u := by rw [hu0]; exact hS.size
        have hS := hS.alloc hS.size (.cells #[.int .i64 0, .int .u8 0, .int .u8 0, .int .i64 0] 49)
        rw [← hu0] at hu ⊢
        generalize wd.alloc (.cells #[.int .i64 0, .int .u8 0, .int .u8 0, .int .i64 0] 49) = wa at hS hu ⊢
        clear hu0 hK K
        try simp only [Act.put, List.setIfInBounds_toArray, List.set_cons_zero, List.set_cons_succ]
        refine wpAnyH_ready (rs := [26]) (by kernel_rfl) (by simp) ?_
        refine AllReadyH.cons (o := _) (by simp only [List.getElem?_toArray, List.getElem?_cons_succ, List.getElem?_cons_zero] <;> exact rfl) (fun K hK => ?_) ?_
        focus (
          refine rgs_store_blk (by rfl) 49 (.tmp 11) (.tmp 84) (by rfl) u #[.int .i64 (r.d.size : Int), .int .u8 r.t, .int .u8 r.f, .int .i64 r.s] #[.int .i64 0, .int .u8 0, .int .u8 0, .int .i64 0] 49 (by rfl) (by rfl) hu hd_size rfl (hdc_one _ _ _ _) ?_
          have hS := below_setRow hS hul #[.int .i64 (r.d.size : Int), .int .u8 r.t, .int .u8 r.f, .int .i64 r.s]
          have hu := hu.row #[.int .i64 (r.d.size : Int), .int .u8 r.t, .int .u8 r.f, .int .i64 r.s]
          refine hK.out _ _ hS (fun _ => ?_)
          generalize wa.setRow u #[.int .i64 (r.d.size : Int), .int .u8 r.t, .int .u8 r.f, .int .i64 r.s] = wz at hS hu ⊢
          clear hK K
          try simp only [Act.put, List.setIfInBounds_toArray, List.set_cons_zero, List.set_cons_succ]
          refine wpAnyH_done (by kernel_rfl) ?_ _
          refine NoPanic.normal ?_
          have Kst4 := hide (KS.out.keep hS)
          have B4 := hide (BB.out.trans (hS.mono BB.out.size))
          clear hS KS BB
          have HH := hide hu
          clear hu
          have hz := run_zero_is st_zero10
          go_wp2_with (refine wpList_load_blk rfl 49 (.tmp 11) rfl u rfl 49 #[.int .i64 (r.d.size : Int), .int .u8 r.t, .int .u8 r.f, .int .i64 r.s] _ HH.out Try.underlying49 rfl hd_size ?_)
          refine (fh_Put (r.d.size : Int) r.t r.f r.s _).mono ?_
          rintro e w5 ⟨v2, rfl, hown2, hb5⟩
          have Kst5 := hide (Kst4.out.keep hb5)
          have Ku5 := hide (HH.out.keep hb5)
          have B5 := hide (B4.out.trans (hb5.mono B4.out.size))
          clear hb5 Kst4 HH B4
          cases hok : okH (r.d.size : Int) r.s with
          | false =>
            rw [putH_no r.t r.f hok] at hown2
            rw [chkH_no hok]
            obtain ⟨A2, c2, rfl⟩ := own_form hown2
            clear hown2
            go_wp2_with fail
            refine (HAW.out _).mono ?_
            rintro e w6 ⟨rfl, hb6⟩
            have Kst6 := hide (Kst5.out.keep hb6)
            have Ku6 := hide (Ku5.out.keep hb6)
            have B6 := hide (B5.out.trans (hb6.mono B5.out.size))
            clear hb6 Kst5 Ku5 B5
            go_wp2_with fail
            go_ret
            exact ⟨rfl, B6.out⟩
          | true =>
            rw [putH_yes r.t r.f hok] at hown2
            rw [chkH_yes hok]
            obtain ⟨A2, c2, rfl⟩ := own_form hown2
            have hx0 := rb_of_own hown2 (hdB_all _ _ _ _ HRO.out.1 HRO.out.2.1 HRO.out.2.2.1 HRO.out.2.2.2)
            have hx1 := own_nil hown2
            rw [hdB_len] at hx0 hx1
            have RP := hide hx0.1
            have hx3 : 9 ≤ c2 := hx0.2.1
            have hx4 : (c2 : Int) ≤ 9223372036854775807 := by have := hx0.2.2; omega
            have hx5 : A2 = none → c2 = 0 := fun h => (hx1 h).2
            obtain ⟨xb, nl, sl, hf1, hf2, hns, hxl, hxe, hpos, hnl, hsl⟩ := bk_feed (t := r.t) (f := r.f) (s := r.s) (D := bts r.d) (d := r.d) rfl (by rw [bts_len]) hok (by omega)
            have hxa : AllB xb := by
              rcases hxe with rfl | rfl
              · intro x hx; cases hx
              · exact hdB_all _ _ _ _ HRO.out.1 HRO.out.2.1 HRO.out.2.2.1 HRO.out.2.2.2
            obtain ⟨XT, hXT⟩ : ∃ T, T = strOfNums xb := ⟨_, rfl⟩
            have eX : bts XT = xb := by rw [hXT, bts_str xb hxa]
            have sX : (XT.size : Int) ≤ 2000 := by rw [← bts_len, eX]; omega
            obtain ⟨nn, hnn⟩ : ∃ N, N = nl.length := ⟨_, rfl⟩
            obtain ⟨sn, hsn⟩ : ∃ N, N = sl.length := ⟨_, rfl⟩
            have hns1 : nn + sn = 1 := by rw [hnn, hsn, ← List.length_append, hns]; rfl
            have HF1 := hide (fun w hr => feed_is (B := ⟨#[]⟩) hf1 XT hXT.symm nn hnn.symm A2 9 c2 (by decide) (by omega) hx3 hx4 hx5 w hr)
            have HF2 := hide (fun w A cap hc1 hc2 hc3 hr => feed_is (B := XT) (by rw [eX]; exact hf2) ⟨#[]⟩ rfl sn hsn.symm A r.d.size cap sX (by omega) hc1 hc2 hc3 w hr)
            have HLX := hide (fun w => sp_Left 24 XT false sX w)
            rw [eX] at HLX
            have HL9 := hide (fun w => sp_Left 24 ⟨#[]⟩ false (by decide) w)
            rw [show bts ⟨#[]⟩ = [] from rfl, left9] at HL9
            have HNS := hide hns
            have HPOS := hide (show 0 < r.d.size → nn = 0 ∧ (⟨24, xb, false⟩ : Sp).left = (r.d.size : Int) from fun h => by
              obtain ⟨e1, e2⟩ := hpos (by omega)
              exact ⟨by rw [hnn, e1]; rfl, e2⟩)
            have HNN := hide hns1
            have HDM := hide (show r.d.size ≤ maxLen by unfold maxLen; omega)
            clear hown2 hx0 hx1 hf1 hf2 hns hxl hxe hpos hnl hsl hxa hXT eX sX hnn hsn hns1 hx3 hx4 hx5
            go_wp2_with (refine wpList_load_blk rfl 26 (.tmp 7) rfl st rfl 26 #[.int .i64 24, .string ⟨#[]⟩, .bool false] _ Kst5.out Try.underlying26 rfl st_size ?_)
            refine (HF1.out _ RP.out).mono ?_
            rintro e w6 ⟨v3, rfl, hown3, hb6⟩
            have Kst6 := hide (Kst5.out.keep hb6)
            have Ku6 := hide (Ku5.out.keep hb6)
            have Erp6 := hide (RP.out.below hb6)
            have B6 := hide (B5.out.trans (hb6.mono B5.out.size))
            clear hb6 Kst5 Ku5 RP B5
            clear Erp6
            obtain ⟨A3, c3, rfl, hz3⟩ := own_zl hown3
            have Z3 := hide hz3
            clear hown3 hz3
            go_upto_region 16 with (fail)
            have KN7 := hide (BlkIs.new w6 26 #[.int .i64 24, .string XT, .bool false])
            obtain ⟨x, hx⟩ : ∃ g, g = w6.heap.size := ⟨_, rfl⟩
            have Lx := hide (show w.heap.size ≤ x by rw [hx]; exact B6.out.size)
            have Nstx := hide (show st ≠ x by have := Kst6.out.lt; omega)
            have Nux := hide (show u ≠ x by have := Ku6.out.lt; omega)
            have Kst7 := hide (Kst6.out.alloc (.cells #[.int .i64 24, .string XT, .bool false] 26))
            have Ku7 := hide (Ku6.out.alloc (.cells #[.int .i64 24, .string XT, .bool false] 26))
            have Ezn7 := hide (Z3.out.alloc (.cells #[.int .i64 24, .string XT, .bool false] 26))
            have B7 := hide (B6.out.alloc B6.out.size (.cells #[.int .i64 24, .string XT, .bool false] 26))
            rw [← hx] at KN7 ⊢
            generalize w6.alloc (.cells #[.int .i64 24, .string XT, .bool false] 26) = w7 at Kst7 Ku7 Ezn7 B7 KN7 ⊢
            clear hx Kst6 Ku6 Z3 B6
            go_cut [128] (fun s1 wx => s1 = .bool false ∧ Below w7.heap.size w7 wx)
            case first =>
              obtain ⟨LX, hLX⟩ : ∃ L, L = (⟨24, xb, false⟩ : Sp).left := ⟨_, rfl⟩
              rw [← hLX] at HLX
              have HLP := hide (show 0 < r.d.size → nn = 0 ∧ LX = (r.d.size : Int) by rw [hLX]; exact HPOS.out)
              clear hLX
              by_cases hd0 : 0 < r.d.size
              · have hd1 : (0 : Int) < (r.d.size : Int) := by omega
                obtain ⟨rfl, rfl⟩ := HLP.out hd0
                refine wp_region_noPanic ?_
                refine wp_region_held_drew (S := fun w' => Below w7.heap.size w7 w') (by kernel_rfl) (Below.refl _ _).drew (fun hS => ?_)
                refine wpAnyH_take (i := 0) (v := ?_) (by simp only [List.getElem?_toArray, List.getElem?_cons_zero] <;> exact rfl) (by kernel_rfl) (by kernel_rfl) (by kernel_rfl) (fun _ _ _ h => h) (Or.inl ⟨by rfl, ?_⟩) hS ?_
                rotate_left
                focus (intro w' hw'; go_simp; all_goals with_reducible rfl)
                try simp only [Act.put, List.setIfInBounds_toArray, List.set_cons_zero, List.set_cons_succ]
                refine wpAnyH_take (i := 1) (v := ?_) (by simp only [List.getElem?_toArray, List.getElem?_cons_succ, List.getElem?_cons_zero] <;> exact rfl) (by kernel_rfl) (by kernel_rfl) (by kernel_rfl) (fun _ _ _ h => h) (Or.inl ⟨by rfl, ?_⟩) hS ?_
                rotate_left
                focus (intro w' hw'; have kk := (Ku7.out.keep hw').cell 0; simp only [List.getElem?_toArray, List.getElem?_cons_zero, List.getElem?_cons_succ] at kk; go_simp; all_goals with_reducible rfl)
                try simp only [Act.put, List.setIfInBounds_toArray, List.set_cons_zero, List.set_cons_succ]
                refine wpAnyH_take (i := 2) (v := ?_) (by simp only [List.getElem?_toArray, List.getElem?_cons_succ, List.getElem?_cons_zero] <;> exact rfl) (by kernel_rfl) (by kernel_rfl) (by kernel_rfl) (fun _ _ _ h => h) (Or.inl ⟨by rfl, ?_⟩) hS ?_
                rotate_left
                focus (intro w' hw'; go_simp; all_goals with_reducible rfl)
                try simp only [Act.put, List.setIfInBounds_toArray, List.set_cons_zero, List.set_cons_succ]
                refine wpAnyH_take (i := 3) (v := ?_) (by simp only [List.getElem?_toArray, List.getElem?_cons_succ, List.getElem?_cons_zero] <;> exact rfl) (by kernel_rfl) (by kernel_rfl) (by kernel_rfl) (fun _ _ _ h => h) (Or.inl ⟨by rfl, ?_⟩) hS ?_
                rotate_left
                focus (intro w' hw'; go_simp; all_goals with_reducible rfl)
                try simp only [Act.put, List.setIfInBounds_toArray, List.set_cons_zero, List.set_cons_succ]
                refine wpAnyH_take (i := 4) (v := ?_) (by simp only [List.getElem?_toArray, List.getElem?_cons_succ, List.getElem?_cons_zero] <;> exact rfl) (by kernel_rfl) (by kernel_rfl) (by kernel_rfl) (fun _ _ _ h => h) (Or.inl ⟨by rfl, ?_⟩) hS ?_
                rotate_left
                focus (intro w' hw'; go_simp; all_goals with_reducible rfl)
                try simp only [Act.put, List.setIfInBounds_toArray, List.set_cons_zero, List.set_cons_succ]
                refine wpAnyH_take (i := 5) (v := ?_) (by simp only [List.getElem?_toArray, List.getElem?_cons_succ, List.getElem?_cons_zero] <;> exact rfl) (by kernel_rfl) (by kernel_rfl) (by kernel_rfl) (fun _ _ _ h => h) (Or.inl ⟨by rfl, ?_⟩) hS ?_
                rotate_left
                focus (intro w' hw'; go_simp; all_goals with_reducible rfl)
                try simp only [Act.put, List.setIfInBounds_toArray, List.set_cons_zero, List.set_cons_succ]
                refine wpAnyH_take (i := 6) (v := ?_) (by simp only [List.getElem?_toArray, List.getElem?_cons_succ, List.getElem?_cons_zero] <;> exact rfl) (by kernel_rfl) (by kernel_rfl) (by kernel_rfl) (fun _ _ _ h => h) (Or.inl ⟨by rfl, ?_⟩) hS ?_
                rotate_left
                focus (intro w' hw'; go_simp; all_goals with_reducible rfl)
                try simp only [Act.put, List.setIfInBounds_toArray, List.set_cons_zero, List.set_cons_succ]
                refine wpAnyH_take (i := 7) (v := ?_) (by simp only [List.getElem?_toArray, List.getElem?_cons_succ, List.getElem?_cons_zero] <;> exact rfl) (by kernel_rfl) (by kernel_rfl) (by kernel_rfl) (fun _ _ _ h => h) (Or.inl ⟨by rfl, ?_⟩) hS ?_
                rotate_left
                focus (intro w' hw'; go_simp; all_goals with_reducible rfl)
                try simp only [Act.put, List.setIfInBounds_toArray, List.set_cons_zero, List.set_cons_succ]
                refine wpAnyH_take (i := 8) (by simp only [List.getElem?_toArray, List.getElem?_cons_succ, List.getElem?_cons_zero] <;> exact rfl) (by kernel_rfl) (by kernel_rfl) (by kernel_rfl) (fun _ _ _ h => h) (rgs_yields_blk (by rfl) 26 (.tmp 14) (by rfl) x (by rfl) 26 #[.int .i64 24, .string XT, .bool false] _ (fun w' hw' => KN7.out.keep hw') Try.underlying26 rfl st_size) hS ?_
                try simp only [Act.put, List.setIfInBounds_toArray, List.set_cons_zero, List.set_cons_succ]
                refine wpAnyH_take (i := 10) (v := ?_) (by simp only [List.getElem?_toArray, List.getElem?_cons_succ, List.getElem?_cons_zero] <;> exact rfl) (by kernel_rfl) (by kernel_rfl) (by kernel_rfl) (fun _ _ _ h => h) (Or.inl ⟨by rfl, ?_⟩) hS ?_
                rotate_left
                focus (intro w' hw'; go_simp; all_goals with_reducible rfl)
                try simp only [Act.put, List.setIfInBounds_toArray, List.set_cons_zero, List.set_cons_succ]
                refine wpAnyH_take (i := 11) (v := ?_) (by simp only [List.getElem?_toArray, List.getElem?_cons_succ, List.getElem?_cons_zero] <;> exact rfl) (by kernel_rfl) (by kernel_rfl) (by kernel_rfl) (fun _ _ _ h => h) (Or.inl ⟨by rfl, ?_⟩) hS ?_
                rotate_left
                focus (intro w' hw'; have kk := (Ku7.out.keep hw').cell 0; simp only [List.getElem?_toArray, List.getElem?_cons_zero, List.getElem?_cons_succ] at kk; go_simp; all_goals with_reducible rfl)
                try simp only [Act.put, List.setIfInBounds_toArray, List.set_cons_zero, List.set_cons_succ]
                refine wpAnyH_ready (rs := [9]) (by kernel_rfl) (by simp) ?_
                refine AllReadyH.cons (o := _) (by simp only [List.getElem?_toArray, List.getElem?_cons_succ, List.getElem?_cons_zero] <;> exact rfl) (fun K hK => ?_) ?_
                focus (
                  go_simp
                  go_at_call 13
                  refine (HLX.out _).mono ?_
                  rintro e wc1 ⟨rfl, hb⟩
                  have hS := hS.trans (hb.mono hS.size)
                  clear hb
                  go_wp2_with fail
                  refine hK.out _ _ hS (fun _ => ?_)
                  clear hK K
                  try simp only [Act.put, List.setIfInBounds_toArray, List.set_cons_zero, List.set_cons_succ])
                rotate_left
                focus (exact AllReadyH.nil)
                refine wpAnyH_take (i := 12) (v := ?_) (by simp only [List.getElem?_toArray, List.getElem?_cons_succ, List.getElem?_cons_zero] <;> exact rfl) (by kernel_rfl) (by kernel_rfl) (by kernel_rfl) (fun _ _ _ h => h) (Or.inl ⟨by rfl, ?_⟩) hS ?_
                rotate_left
                focus (intro w' hw'; go_simp; all_goals with_reducible rfl)
                try simp only [Act.put, List.setIfInBounds_toArray, List.set_cons_zero, List.set_cons_succ]
                refine wpAnyH_take (i := 13) (v := ?_) (by simp only [List.getElem?_toArray, List.getElem?_cons_succ, List.getElem?_cons_zero] <;> exact rfl) (by kernel_rfl) (by kernel_rfl) (by kernel_rfl) (fun _ _ _ h => h) (Or.inl ⟨by rfl, ?_⟩) hS ?_
                rotate_left
                focus (intro w' hw'; go_simp; all_goals with_reducible rfl)
                try simp only [Act.put, List.setIfInBounds_toArray, List.set_cons_zero, List.set_cons_succ]
                refine wpAnyH_take (i := 14) (v := ?_) (by simp only [List.getElem?_toArray, List.getElem?_cons_succ, List.getElem?_cons_zero] <;> exact rfl) (by kernel_rfl) (by kernel_rfl) (by kernel_rfl) (fun _ _ _ h => h) (Or.inl ⟨by rfl, ?_⟩) hS ?_
                rotate_left
                focus (intro w' hw'; go_simp; all_goals with_reducible rfl)
                try simp only [Act.put, List.setIfInBounds_toArray, List.set_cons_zero, List.set_cons_succ]
                refine wpAnyH_take (i := 15) (v := ?_) (by simp only [List.getElem?_toArray, List.getElem?_cons_succ, List.getElem?_cons_zero] <;> exact rfl) (by kernel_rfl) (by kernel_rfl) (by kernel_rfl) (fun _ _ _ h => h) (Or.inl ⟨by rfl, ?_⟩) hS ?_
                rotate_left
                focus (intro w' hw'; go_simp; all_goals with_reducible rfl)
                try simp only [Act.put, List.setIfInBounds_toArray, List.set_cons_zero, List.set_cons_succ]
                refine wpAnyH_take (i := 16) (v := ?_) (by simp only [List.getElem?_toArray, List.getElem?_cons_succ, List.getElem?_cons_zero] <;> exact rfl) (by kernel_rfl) (by kernel_rfl) (by kernel_rfl) (fun _ _ _ h => h) (Or.inl ⟨by rfl, ?_⟩) hS ?_
                rotate_left
                focus (intro w' hw'; go_simp; all_goals with_reducible rfl)
                try simp only [Act.put, List.setIfInBounds_toArray, List.set_cons_zero, List.set_cons_succ]
                refine wpAnyH_take (i := 17) (v := ?_) (by simp only [List.getElem?_toArray, List.getElem?_cons_succ, List.getElem?_cons_zero] <;> exact rfl) (by kernel_rfl) (by kernel_rfl) (by kernel_rfl) (fun _ _ _ h => h) (Or.inl ⟨by rfl, ?_⟩) hS ?_
                rotate_left
                focus (intro w' hw'; go_simp; all_goals with_reducible rfl)
                try simp only [Act.put, List.setIfInBounds_toArray, List.set_cons_zero, List.set_cons_succ]
                refine wpAnyH_take (i := 18) (v := ?_) (by simp only [List.getElem?_toArray, List.getElem?_cons_succ, List.getElem?_cons_zero] <;> exact rfl) (by kernel_rfl) (by kernel_rfl) (by kernel_rfl) (fun _ _ _ h => h) (Or.inl ⟨by rfl, ?_⟩) hS ?_
                rotate_left
                focus (intro w' hw'; go_simp; all_goals with_reducible rfl)
                try simp only [Act.put, List.setIfInBounds_toArray, List.set_cons_zero, List.set_cons_succ]
                refine wpAnyH_take (i := 19) (v := ?_) (by simp only [List.getElem?_toArray, List.getElem?_cons_succ, List.getElem?_cons_zero] <;> exact rfl) (by kernel_rfl) (by kernel_rfl) (by kernel_rfl) (fun _ _ _ h => h) (Or.inl ⟨by rfl, ?_⟩) hS ?_
                rotate_left
                focus (intro w' hw'; go_simp; all_goals with_reducible rfl)
                try simp only [Act.put, List.setIfInBounds_toArray, List.set_cons_zero, List.set_cons_succ]
                refine wpAnyH_take (i := 20) (by simp only [List.getElem?_toArray, List.getElem?_cons_succ, List.getElem?_cons_zero] <;> exact rfl) (by kernel_rfl) (by kernel_rfl) (by kernel_rfl) (fun _ _ _ h => h) (rgs_yields_blk (by rfl) 26 (.tmp 7) (by rfl) st (by rfl) 26 #[.int .i64 24, .string ⟨#[]⟩, .bool false] _ (fun w' hw' => Kst7.out.keep hw') Try.underlying26 rfl st_size) hS ?_
                try simp only [Act.put, List.setIfInBounds_toArray, List.set_cons_zero, List.set_cons_succ]
                refine wpAnyH_ready (rs := [21]) (by kernel_rfl) (by simp) ?_
                refine AllReadyH.cons (o := _) (by simp only [List.getElem?_toArray, List.getElem?_cons_succ, List.getElem?_cons_zero] <;> exact rfl) (fun K hK => ?_) ?_
                focus (
                  go_simp
                  go_at_call 13
                  refine (HL9.out _).mono ?_
                  rintro e wc2 ⟨rfl, hb⟩
                  have hS := hS.trans (hb.mono hS.size)
                  clear hb
                  go_wp2_with fail
                  refine hK.out _ _ hS (fun _ => ?_)
                  clear hK K
                  try simp only [Act.put, List.setIfInBounds_toArray, List.set_cons_zero, List.set_cons_succ])
                rotate_left
                focus (exact AllReadyH.nil)
                refine wpAnyH_take (i := 22) (v := ?_) (by simp only [List.getElem?_toArray, List.getElem?_cons_succ, List.getElem?_cons_zero] <;> exact rfl) (by kernel_rfl) (by kernel_rfl) (by kernel_rfl) (fun _ _ _ h => h) (Or.inl ⟨by rfl, ?_⟩) hS ?_
                rotate_left
                focus (intro w' hw'; go_simp; all_goals with_reducible rfl)
                try simp only [Act.put, List.setIfInBounds_toArray, List.set_cons_zero, List.set_cons_succ]
                refine wpAnyH_take (i := 23) (v := ?_) (by simp only [List.getElem?_toArray, List.getElem?_cons_succ, List.getElem?_cons_zero] <;> exact rfl) (by kernel_rfl) (by kernel_rfl) (by kernel_rfl) (fun _ _ _ h => h) (Or.inl ⟨by rfl, ?_⟩) hS ?_
                rotate_left
                focus (intro w' hw'; go_simp; all_goals with_reducible rfl)
                try simp only [Act.put, List.setIfInBounds_toArray, List.set_cons_zero, List.set_cons_succ]
                refine wpAnyH_done (by kernel_rfl) ?_ _
                refine NoPanic.normal ?_
                go_wp2
                go_meet
                exact ⟨rfl, hS⟩
              · have hd1 : ¬ (0 : Int) < (r.d.size : Int) := by omega
                refine wp_region_noPanic ?_
                refine wp_region_held_drew (S := fun w' => Below w7.heap.size w7 w') (by kernel_rfl) (Below.refl _ _).drew (fun hS => ?_)
                refine wpAnyH_take (i := 0) (v := ?_) (by simp only [List.getElem?_toArray, List.getElem?_cons_zero] <;> exact rfl) (by kernel_rfl) (by kernel_rfl) (by kernel_rfl) (fun _ _ _ h => h) (Or.inl ⟨by rfl, ?_⟩) hS ?_
                rotate_left
                focus (intro w' hw'; go_simp; all_goals with_reducible rfl)
                try simp only [Act.put, List.setIfInBounds_toArray, List.set_cons_zero, List.set_cons_succ]
                refine wpAnyH_take (i := 1) (v := ?_) (by simp only [List.getElem?_toArray, List.getElem?_cons_succ, List.getElem?_cons_zero] <;> exact rfl) (by kernel_rfl) (by kernel_rfl) (by kernel_rfl) (fun _ _ _ h => h) (Or.inl ⟨by rfl, ?_⟩) hS ?_
                rotate_left
                focus (intro w' hw'; have kk := (Ku7.out.keep hw').cell 0; simp only [List.getElem?_toArray, List.getElem?_cons_zero, List.getElem?_cons_succ] at kk; go_simp; all_goals with_reducible rfl)
                try simp only [Act.put, List.setIfInBounds_toArray, List.set_cons_zero, List.set_cons_succ]
                refine wpAnyH_take (i := 2) (v := ?_) (by simp only [List.getElem?_toArray, List.getElem?_cons_succ, List.getElem?_cons_zero] <;> exact rfl) (by kernel_rfl) (by kernel_rfl) (by kernel_rfl) (fun _ _ _ h => h) (Or.inl ⟨by rfl, ?_⟩) hS ?_
                rotate_left
                focus (intro w' hw'; go_simp; all_goals with_reducible rfl)
                try simp only [Act.put, List.setIfInBounds_toArray, List.set_cons_zero, List.set_cons_succ]
                refine wpAnyH_take (i := 3) (v := ?_) (by simp only [List.getElem?_toArray, List.getElem?_cons_succ, List.getElem?_cons_zero] <;> exact rfl) (by kernel_rfl) (by kernel_rfl) (by kernel_rfl) (fun _ _ _ h => h) (Or.inl ⟨by rfl, ?_⟩) hS ?_
                rotate_left
                focus (intro w' hw'; go_simp; all_goals with_reducible rfl)
                try simp only [Act.put, List.setIfInBounds_toArray, List.set_cons_zero, List.set_cons_succ]
                refine wpAnyH_take (i := 4) (v := undef) (by simp only [List.getElem?_toArray, List.getElem?_cons_succ, List.getElem?_cons_zero] <;> exact rfl) (by kernel_rfl) (by kernel_rfl) (by kernel_rfl) (fun _ _ _ h => h) (Or.inr ⟨by rfl, rfl⟩) hS ?_
                try simp only [Act.put, List.setIfInBounds_toArray, List.set_cons_zero, List.set_cons_succ]
                refine wpAnyH_take (i := 5) (v := undef) (by simp only [List.getElem?_toArray, List.getElem?_cons_succ, List.getElem?_cons_zero] <;> exact rfl) (by kernel_rfl) (by kernel_rfl) (by kernel_rfl) (fun _ _ _ h => h) (Or.inr ⟨by rfl, rfl⟩) hS ?_
                try simp only [Act.put, List.setIfInBounds_toArray, List.set_cons_zero, List.set_cons_succ]
                refine wpAnyH_take (i := 6) (v := undef) (by simp only [List.getElem?_toArray, List.getElem?_cons_succ, List.getElem?_cons_zero] <;> exact rfl) (by kernel_rfl) (by kernel_rfl) (by kernel_rfl) (fun _ _ _ h => h) (Or.inr ⟨by rfl, rfl⟩) hS ?_
                try simp only [Act.put, List.setIfInBounds_toArray, List.set_cons_zero, List.set_cons_succ]
                refine wpAnyH_take (i := 7) (v := undef) (by simp only [List.getElem?_toArray, List.getElem?_cons_succ, List.getElem?_cons_zero] <;> exact rfl) (by kernel_rfl) (by kernel_rfl) (by kernel_rfl) (fun _ _ _ h => h) (Or.inr ⟨by rfl, rfl⟩) hS ?_
                try simp only [Act.put, List.setIfInBounds_toArray, List.set_cons_zero, List.set_cons_succ]
                refine wpAnyH_take (i := 8) (v := undef) (by simp only [List.getElem?_toArray, List.getElem?_cons_succ, List.getElem?_cons_zero] <;> exact rfl) (by kernel_rfl) (by kernel_rfl) (by kernel_rfl) (fun _ _ _ h => h) (Or.inr ⟨by rfl, rfl⟩) hS ?_
                try simp only [Act.put, List.setIfInBounds_toArray, List.set_cons_zero, List.set_cons_succ]
                refine wpAnyH_take (i := 9) (v := undef) (by simp only [List.getElem?_toArray, List.getElem?_cons_succ, List.getElem?_cons_zero] <;> exact rfl) (by kernel_rfl) (by kernel_rfl) (by kernel_rfl) (fun _ _ _ h => h) (Or.inr ⟨by rfl, rfl⟩) hS ?_
                try simp only [Act.put, List.setIfInBounds_toArray, List.set_cons_zero, List.set_cons_succ]
                refine wpAnyH_take (i := 10) (v := undef) (by simp only [List.getElem?_toArray, List.getElem?_cons_succ, List.getElem?_cons_zero] <;> exact rfl) (by kernel_rfl) (by kernel_rfl) (by kernel_rfl) (fun _ _ _ h => h) (Or.inr ⟨by rfl, rfl⟩) hS ?_
                try simp only [Act.put, List.setIfInBounds_toArray, List.set_cons_zero, List.set_cons_succ]
                refine wpAnyH_take (i := 11) (v := undef) (by simp only [List.getElem?_toArray, List.getElem?_cons_succ, List.getElem?_cons_zero] <;> exact rfl) (by kernel_rfl) (by kernel_rfl) (by kernel_rfl) (fun _ _ _ h => h) (Or.inr ⟨by rfl, rfl⟩) hS ?_
                try simp only [Act.put, List.setIfInBounds_toArray, List.set_cons_zero, List.set_cons_succ]
                refine wpAnyH_take (i := 12) (v := undef) (by simp only [List.getElem?_toArray, List.getElem?_cons_succ, List.getElem?_cons_zero] <;> exact rfl) (by kernel_rfl) (by kernel_rfl) (by kernel_rfl) (fun _ _ _ h => h) (Or.inr ⟨by rfl, rfl⟩) hS ?_
                try simp only [Act.put, List.setIfInBounds_toArray, List.set_cons_zero, List.set_cons_succ]
                refine wpAnyH_take (i := 13) (v := undef) (by simp only [List.getElem?_toArray, List.getElem?_cons_succ, List.getElem?_cons_zero] <;> exact rfl) (by kernel_rfl) (by kernel_rfl) (by kernel_rfl) (fun _ _ _ h => h) (Or.inr ⟨by rfl, rfl⟩) hS ?_
                try simp only [Act.put, List.setIfInBounds_toArray, List.set_cons_zero, List.set_cons_succ]
                refine wpAnyH_take (i := 14) (v := ?_) (by simp only [List.getElem?_toArray, List.getElem?_cons_succ, List.getElem?_cons_zero] <;> exact rfl) (by kernel_rfl) (by kernel_rfl) (by kernel_rfl) (fun _ _ _ h => h) (Or.inl ⟨by rfl, ?_⟩) hS ?_
                rotate_left
                focus (intro w' hw'; go_simp; all_goals with_reducible rfl)
                try simp only [Act.put, List.setIfInBounds_toArray, List.set_cons_zero, List.set_cons_succ]
                refine wpAnyH_take (i := 15) (v := ?_) (by simp only [List.getElem?_toArray, List.getElem?_cons_succ, List.getElem?_cons_zero] <;> exact rfl) (by kernel_rfl) (by kernel_rfl) (by kernel_rfl) (fun _ _ _ h => h) (Or.inl ⟨by rfl, ?_⟩) hS ?_
                rotate_left
                focus (intro w' hw'; go_simp; all_goals with_reducible rfl)
                try simp only [Act.put, List.setIfInBounds_toArray, List.set_cons_zero, List.set_cons_succ]
                refine wpAnyH_take (i := 16) (v := ?_) (by simp only [List.getElem?_toArray, List.getElem?_cons_succ, List.getElem?_cons_zero] <;> exact rfl) (by kernel_rfl) (by kernel_rfl) (by kernel_rfl) (fun _ _ _ h => h) (Or.inl ⟨by rfl, ?_⟩) hS ?_
                rotate_left
                focus (intro w' hw'; go_simp; all_goals with_reducible rfl)
                try simp only [Act.put, List.setIfInBounds_toArray, List.set_cons_zero, List.set_cons_succ]
                refine wpAnyH_take (i := 17) (v := ?_) (by simp only [List.getElem?_toArray, List.getElem?_cons_succ, List.getElem?_cons_zero] <;> exact rfl) (by kernel_rfl) (by kernel_rfl) (by kernel_rfl) (fun _ _ _ h => h) (Or.inl ⟨by rfl, ?_⟩) hS ?_
                rotate_left
                focus (intro w' hw'; go_simp; all_goals with_reducible rfl)
                try simp only [Act.put, List.setIfInBounds_toArray, List.set_cons_zero, List.set_cons_succ]
                refine wpAnyH_take (i := 18) (v := ?_) (by simp only [List.getElem?_toArray, List.getElem?_cons_succ, List.getElem?_cons_zero] <;> exact rfl) (by kernel_rfl) (by kernel_rfl) (by kernel_rfl) (fun _ _ _ h => h) (Or.inl ⟨by rfl, ?_⟩) hS ?_
                rotate_left
                focus (intro w' hw'; go_simp; all_goals with_reducible rfl)
                try simp only [Act.put, List.setIfInBounds_toArray, List.set_cons_zero, List.set_cons_succ]
                refine wpAnyH_take (i := 19) (v := ?_) (by simp only [List.getElem?_toArray, List.getElem?_cons_succ, List.getElem?_cons_zero] <;> exact rfl) (by kernel_rfl) (by kernel_rfl) (by kernel_rfl) (fun _ _ _ h => h) (Or.inl ⟨by rfl, ?_⟩) hS ?_
                rotate_left
                focus (intro w' hw'; go_simp; all_goals with_reducible rfl)
                try simp only [Act.put, List.setIfInBounds_toArray, List.set_cons_zero, List.set_cons_succ]
                refine wpAnyH_take (i := 20) (by simp only [List.getElem?_toArray, List.getElem?_cons_succ, List.getElem?_cons_zero] <;> exact rfl) (by kernel_rfl) (by kernel_rfl) (by kernel_rfl) (fun _ _ _ h => h) (rgs_yields_blk (by rfl) 26 (.tmp 7) (by rfl) st (by rfl) 26 #[.int .i64 24, .string ⟨#[]⟩, .bool false] _ (fun w' hw' => Kst7.out.keep hw') Try.underlying26 rfl st_size) hS ?_
                try simp only [Act.put, List.setIfInBounds_toArray, List.set_cons_zero, List.set_cons_succ]
                refine wpAnyH_ready (rs := [21]) (by kernel_rfl) (by simp) ?_
                refine AllReadyH.cons (o := _) (by simp only [List.getElem?_toArray, List.getElem?_cons_succ, List.getElem?_cons_zero] <;> exact rfl) (fun K hK => ?_) ?_
                focus (
                  go_simp
                  go_at_call 13
                  refine (HL9.out _).mono ?_
                  rintro e wc1 ⟨rfl, hb⟩
                  have hS := hS.trans (hb.mono hS.size)
                  clear hb
                  go_wp2_with fail
                  refine hK.out _ _ hS (fun _ => ?_)
                  clear hK K
                  try simp only [Act.put, List.setIfInBounds_toArray, List.set_cons_zero, List.set_cons_succ])
                rotate_left
                focus (exact AllReadyH.nil)
                refine wpAnyH_take (i := 22) (v := ?_) (by simp only [List.getElem?_toArray, List.getElem?_cons_succ, List.getElem?_cons_zero] <;> exact rfl) (by kernel_rfl) (by kernel_rfl) (by kernel_rfl) (fun _ _ _ h => h) (Or.inl ⟨by rfl, ?_⟩) hS ?_
                rotate_left
                focus (intro w' hw'; go_simp; all_goals with_reducible rfl)
                try simp only [Act.put, List.setIfInBounds_toArray, List.set_cons_zero, List.set_cons_succ]
                refine wpAnyH_take (i := 23) (v := ?_) (by simp only [List.getElem?_toArray, List.getElem?_cons_succ, List.getElem?_cons_zero] <;> exact rfl) (by kernel_rfl) (by kernel_rfl) (by kernel_rfl) (fun _ _ _ h => h) (Or.inl ⟨by rfl, ?_⟩) hS ?_
                rotate_left
                focus (intro w' hw'; go_simp; all_goals with_reducible rfl)
                try simp only [Act.put, List.setIfInBounds_toArray, List.set_cons_zero, List.set_cons_succ]
                refine wpAnyH_done (by kernel_rfl) ?_ _
                refine NoPanic.normal ?_
                go_wp2
                go_meet
                exact ⟨rfl, hS⟩
            obtain ⟨w8, hw8⟩ : ∃ x, x = wc := ⟨_, rfl⟩
            subst hw8
            obtain ⟨rfl, hb8⟩ := hcut
            have Kst8 := hide (Kst7.out.keep hb8)
            have Ku8 := hide (Ku7.out.keep hb8)
            have Kx8 := hide (KN7.out.keep hb8)
            have Ezn8 := hide (Ezn7.out.keep hb8)
            have B8 := hide (B7.out.trans (hb8.mono B7.out.size))
            clear hb8 Kst7 Ku7 KN7 Ezn7 B7
            clear HLX HL9 HPOS
            go_upto_region 18 with (fail)
            go_cut [17, 18, 16] (fun s1 s2 s3 wx => PieceB w8 wx 24 ⟨#[]⟩ false sn sl 0 s1 s2 s3)
            case first =>
              refine wp_region_noPanic ?_
              refine wp_region_held_drew (S := fun w' => Below w8.heap.size w8 w') (by kernel_rfl) (Below.refl _ _).drew (fun hS => ?_)
              refine wpAnyH_take (i := 0) (by simp only [List.getElem?_toArray, List.getElem?_cons_zero] <;> exact rfl) (by kernel_rfl) (by kernel_rfl) (by kernel_rfl) (fun _ _ _ h => h) (rgs_yields_blk (by rfl) 26 (.tmp 14) (by rfl) x (by rfl) 26 #[.int .i64 24, .string XT, .bool false] _ (fun w' hw' => Kx8.out.keep hw') Try.underlying26 rfl st_size) hS ?_
              try simp only [Act.put, List.setIfInBounds_toArray, List.set_cons_zero, List.set_cons_succ]
              refine wpAnyH_take (i := 1) (v := ?_) (by simp only [List.getElem?_toArray, List.getElem?_cons_succ, List.getElem?_cons_zero] <;> exact rfl) (by kernel_rfl) (by kernel_rfl) (by kernel_rfl) (fun _ _ _ h => h) (Or.inl ⟨by rfl, ?_⟩) hS ?_
              rotate_left
              focus (intro w' hw'; go_simp; all_goals with_reducible rfl)
              try simp only [Act.put, List.setIfInBounds_toArray, List.set_cons_zero, List.set_cons_succ]
              refine wpAnyH_take (i := 2) (v := ?_) (by simp only [List.getElem?_toArray, List.getElem?_cons_succ, List.getElem?_cons_zero] <;> exact rfl) (by kernel_rfl) (by kernel_rfl) (by kernel_rfl) (fun _ _ _ h => h) (Or.inl ⟨by rfl, ?_⟩) hS ?_
              rotate_left
              focus (intro w' hw'; go_simp; all_goals with_reducible rfl)
              try simp only [Act.put, List.setIfInBounds_toArray, List.set_cons_zero, List.set_cons_succ]
              refine wpAnyH_take (i := 3) (v := ?_) (by simp only [List.getElem?_toArray, List.getElem?_cons_succ, List.getElem?_cons_zero] <;> exact rfl) (by kernel_rfl) (by kernel_rfl) (by kernel_rfl) (fun _ _ _ h => h) (Or.inl ⟨by rfl, ?_⟩) hS ?_
              rotate_left
              focus (intro w' hw'; go_simp; all_goals with_reducible rfl)
              try simp only [Act.put, List.setIfInBounds_toArray, List.set_cons_zero, List.set_cons_succ]
              refine wpAnyH_take (i := 4) (v := ?_) (by simp only [List.getElem?_toArray, List.getElem?_cons_succ, List.getElem?_cons_zero] <;> exact rfl) (by kernel_rfl) (by kernel_rfl) (by kernel_rfl) (fun _ _ _ h => h) (Or.inl ⟨by rfl, ?_⟩) hS ?_
              rotate_left
              focus (intro w' hw'; go_simp; all_goals with_reducible rfl)
              try simp only [Act.put, List.setIfInBounds_toArray, List.set_cons_zero, List.set_cons_succ]
              refine wpAnyH_take (i := 5) (v := ?_) (by simp only [List.getElem?_toArray, List.getElem?_cons_succ, List.getElem?_cons_zero] <;> exact rfl) (by kernel_rfl) (by kernel_rfl) (by kernel_rfl) (fun _ _ _ h => h) (Or.inl ⟨by rfl, ?_⟩) hS ?_
              rotate_left
              focus (intro w' hw'; obtain ⟨e0, e1, e2, e3, e4⟩ := HCE.out _ (B8.out.trans (hw'.mono B8.out.size)); go_simp; all_goals with_reducible rfl)
              try simp only [Act.put, List.setIfInBounds_toArray, List.set_cons_zero, List.set_cons_succ]
              generalize w8.drew = wd at hS ⊢
              refine wpAnyH_ready (rs := [6, 12]) (by kernel_rfl) (by simp) ?_
              refine AllReadyH.cons (o := _) (by simp only [List.getElem?_toArray, List.getElem?_cons_succ, List.getElem?_cons_zero] <;> exact rfl) (fun K hK => ?_) ?_
              focus (
                obtain ⟨cp, wv1, hcv, hrv, hbv, hcp, hcm, _⟩ := str_row wd r.d
                go_simp
                clear hcv
                have hS := hS.trans (hbv.mono hS.size)
                have hcp0 := hcm HDM.out
                unfold maxLen at hcp0
                obtain ⟨pv, hpv⟩ : ∃ p, p = wd.heap.size := ⟨_, rfl⟩
                rw [← hpv] at hrv ⊢
                refine hK.out _ _ hS (fun _ => ?_)
                clear hpv hbv hcm
                clear hK K
                try simp only [Act.put, List.setIfInBounds_toArray, List.set_cons_zero, List.set_cons_succ]
                refine wpAnyH_ready (rs := [7, 12]) (by kernel_rfl) (by simp) ?_
                refine AllReadyH.cons (o := _) (by simp only [List.getElem?_toArray, List.getElem?_cons_succ, List.getElem?_cons_zero] <;> exact rfl) (fun K hK => ?_) ?_
                focus (
                  go_simp
                  go_at_call 7
                  refine (HF2.out _ _ _ hcp (by omega) (fun h => by cases h) hrv).mono ?_
                  rintro e wf2 ⟨v, rfl, hown, hb⟩
                  obtain ⟨A, cq, rfl, hz⟩ := own_zl hown
                  have hS := hS.trans (hb.mono hS.size)
                  clear hb hown hrv
                  go_wp2_with fail
                  refine hK.out _ _ hS (fun _ => ?_)
                  clear hK K
                  try simp only [Act.put, List.setIfInBounds_toArray, List.set_cons_zero, List.set_cons_succ]
                  refine wpAnyH_take (i := 8) (v := ?_) (by simp only [List.getElem?_toArray, List.getElem?_cons_succ, List.getElem?_cons_zero] <;> exact rfl) (by kernel_rfl) (by kernel_rfl) (by kernel_rfl) (fun _ _ _ h => h) (Or.inl ⟨by rfl, ?_⟩) hS ?_
                  rotate_left
                  focus (intro w' hw'; go_simp; all_goals with_reducible rfl)
                  try simp only [Act.put, List.setIfInBounds_toArray, List.set_cons_zero, List.set_cons_succ]
                  refine wpAnyH_take (i := 9) (v := ?_) (by simp only [List.getElem?_toArray, List.getElem?_cons_succ, List.getElem?_cons_zero] <;> exact rfl) (by kernel_rfl) (by kernel_rfl) (by kernel_rfl) (fun _ _ _ h => h) (Or.inl ⟨by rfl, ?_⟩) hS ?_
                  rotate_left
                  focus (intro w' hw'; go_simp; all_goals with_reducible rfl)
                  try simp only [Act.put, List.setIfInBounds_toArray, List.set_cons_zero, List.set_cons_succ]
                  refine wpAnyH_take (i := 10) (v := ?_) (by simp only [List.getElem?_toArray, List.getElem?_cons_succ, List.getElem?_cons_zero] <;> exact rfl) (by kernel_rfl) (by kernel_rfl) (by kernel_rfl) (fun _ _ _ h => h) (Or.inl ⟨by rfl, ?_⟩) hS ?_
                  rotate_left
                  focus (intro w' hw'; go_simp; all_goals with_reducible rfl)
                  try simp only [Act.put, List.setIfInBounds_toArray, List.set_cons_zero, List.set_cons_succ]
                  refine wpAnyH_take (i := 11) (v := ?_) (by simp only [List.getElem?_toArray, List.getElem?_cons_succ, List.getElem?_cons_zero] <;> exact rfl) (by kernel_rfl) (by kernel_rfl) (by kernel_rfl) (fun _ _ _ h => h) (Or.inl ⟨by rfl, ?_⟩) hS ?_
                  rotate_left
                  focus (intro w' hw'; go_simp; all_goals with_reducible rfl)
                  try simp only [Act.put, List.setIfInBounds_toArray, List.set_cons_zero, List.set_cons_succ]
                  refine wpAnyH_ready (rs := [12]) (by kernel_rfl) (by simp) ?_
                  refine AllReadyH.cons (o := _) (by simp only [List.getElem?_toArray, List.getElem?_cons_succ, List.getElem?_cons_zero] <;> exact rfl) (fun K hK => ?_) ?_
                  focus (
                    go_simp
                    refine hK.out _ _ (hS.alloc hS.size _) (fun _ => ?_)
                    have hu := BlkIs.new wf2 26 #[.int .i64 0, .string ⟨#[]⟩, .bool false]
                    obtain ⟨u9, hu0⟩ : ∃ u, u = wf2.heap.size := ⟨_, rfl⟩
                    have hul : w8.heap.size ≤ u9 := by rw [hu0]; exact hS.size
                    have hS := hS.alloc hS.size (.cells #[.int .i64 0, .string ⟨#[]⟩, .bool false] 26)
                    have hz := hz.alloc (.cells #[.int .i64 0, .string ⟨#[]⟩, .bool false] 26)
                    rw [← hu0] at hu ⊢
                    generalize wf2.alloc (.cells #[.int .i64 0, .string ⟨#[]⟩, .bool false] 26) = wa3 at hS hu hz ⊢
                    clear hu0
                    clear hK K
                    try simp only [Act.put, List.setIfInBounds_toArray, List.set_cons_zero, List.set_cons_succ]
                    refine wpAnyH_ready (rs := [13]) (by kernel_rfl) (by simp) ?_
                    refine AllReadyH.cons (o := _) (by simp only [List.getElem?_toArray, List.getElem?_cons_succ, List.getElem?_cons_zero] <;> exact rfl) (fun K hK => ?_) ?_
                    focus (
                      refine rgs_store_blk (by rfl) 26 (.tmp 17) (.tmp 138) (by rfl) u9 #[.int .i64 24, .string ⟨#[]⟩, .bool false] #[.int .i64 0, .string ⟨#[]⟩, .bool false] 26 (by rfl) (by rfl) hu st_size rfl (st_one _ _ _) ?_
                      have hz := hz.kb ((KB.refl (· = u9) wa3).setRow (fun _ => rfl) #[.int .i64 24, .string ⟨#[]⟩, .bool false]) (zb_ne hz hu)
                      have hS := below_setRow hS hul #[.int .i64 24, .string ⟨#[]⟩, .bool false]
                      have hu := hu.row #[.int .i64 24, .string ⟨#[]⟩, .bool false]
                      refine hK.out _ _ hS (fun _ => ?_)
                      clear hK K
                      try simp only [Act.put, List.setIfInBounds_toArray, List.set_cons_zero, List.set_cons_succ]
                      refine wpAnyH_take (i := 14) (v := ?_) (by simp only [List.getElem?_toArray, List.getElem?_cons_succ, List.getElem?_cons_zero] <;> exact rfl) (by kernel_rfl) (by kernel_rfl) (by kernel_rfl) (fun _ _ _ h => h) (Or.inl ⟨by rfl, ?_⟩) hS ?_
                      rotate_left
                      focus (intro w' hw'; go_simp; all_goals with_reducible rfl)
                      try simp only [Act.put, List.setIfInBounds_toArray, List.set_cons_zero, List.set_cons_succ]
                      refine wpAnyH_take (i := 15) (v := ?_) (by simp only [List.getElem?_toArray, List.getElem?_cons_succ, List.getElem?_cons_zero] <;> exact rfl) (by kernel_rfl) (by kernel_rfl) (by kernel_rfl) (fun _ _ _ h => h) (Or.inl ⟨by rfl, ?_⟩) hS ?_
                      rotate_left
                      focus (intro w' hw'; go_simp; all_goals with_reducible rfl)
                      try simp only [Act.put, List.setIfInBounds_toArray, List.set_cons_zero, List.set_cons_succ]
                      refine wpAnyH_done (by kernel_rfl) ?_ _
                      refine NoPanic.normal ?_
                      go_wp2
                      go_meet
                      exact ⟨u9, A, cq, rfl, rfl, rfl, hu, hz, hS⟩)
                    exact AllReadyH.nil)
                  exact AllReadyH.nil)
                refine AllReadyH.cons (o := _) (by simp only [List.getElem?_toArray, List.getElem?_cons_succ, List.getElem?_cons_zero] <;> exact rfl) (fun K hK => ?_) ?_
                focus (
                  go_simp
                  refine hK.out _ _ (hS.alloc hS.size _) (fun _ => ?_)
                  have hu := BlkIs.new wv1 26 #[.int .i64 0, .string ⟨#[]⟩, .bool false]
                  obtain ⟨u9, hu0⟩ : ∃ u, u = wv1.heap.size := ⟨_, rfl⟩
                  have hul : w8.heap.size ≤ u9 := by rw [hu0]; exact hS.size
                  have hS := hS.alloc hS.size (.cells #[.int .i64 0, .string ⟨#[]⟩, .bool false] 26)
                  have hrv := hrv.below ((Below.refl _ _).alloc (Nat.le_refl _) (.cells #[.int .i64 0, .string ⟨#[]⟩, .bool false] 26))
                  rw [← hu0] at hu ⊢
                  generalize wv1.alloc (.cells #[.int .i64 0, .string ⟨#[]⟩, .bool false] 26) = wa4 at hS hu hrv ⊢
                  clear hu0
                  clear hK K
                  try simp only [Act.put, List.setIfInBounds_toArray, List.set_cons_zero, List.set_cons_succ]
                  refine wpAnyH_ready (rs := [7]) (by kernel_rfl) (by simp) ?_
                  refine AllReadyH.cons (o := _) (by simp only [List.getElem?_toArray, List.getElem?_cons_succ, List.getElem?_cons_zero] <;> exact rfl) (fun K hK => ?_) ?_
                  focus (
                    go_simp
                    go_at_call 7
                    refine (HF2.out _ _ _ hcp (by omega) (fun h => by cases h) hrv).mono ?_
                    rintro e wf5 ⟨v, rfl, hown, hb⟩
                    obtain ⟨A, cq, rfl, hz⟩ := own_zl hown
                    have hu := hu.keep hb
                    have hS := hS.trans (hb.mono hS.size)
                    clear hb hown hrv
                    go_wp2_with fail
                    refine hK.out _ _ hS (fun _ => ?_)
                    clear hK K
                    try simp only [Act.put, List.setIfInBounds_toArray, List.set_cons_zero, List.set_cons_succ]
                    refine wpAnyH_take (i := 8) (v := ?_) (by simp only [List.getElem?_toArray, List.getElem?_cons_succ, List.getElem?_cons_zero] <;> exact rfl) (by kernel_rfl) (by kernel_rfl) (by kernel_rfl) (fun _ _ _ h => h) (Or.inl ⟨by rfl, ?_⟩) hS ?_
                    rotate_left
                    focus (intro w' hw'; go_simp; all_goals with_reducible rfl)
                    try simp only [Act.put, List.setIfInBounds_toArray, List.set_cons_zero, List.set_cons_succ]
                    refine wpAnyH_take (i := 9) (v := ?_) (by simp only [List.getElem?_toArray, List.getElem?_cons_succ, List.getElem?_cons_zero] <;> exact rfl) (by kernel_rfl) (by kernel_rfl) (by kernel_rfl) (fun _ _ _ h => h) (Or.inl ⟨by rfl, ?_⟩) hS ?_
                    rotate_left
                    focus (intro w' hw'; go_simp; all_goals with_reducible rfl)
                    try simp only [Act.put, List.setIfInBounds_toArray, List.set_cons_zero, List.set_cons_succ]
                    refine wpAnyH_take (i := 10) (v := ?_) (by simp only [List.getElem?_toArray, List.getElem?_cons_succ, List.getElem?_cons_zero] <;> exact rfl) (by kernel_rfl) (by kernel_rfl) (by kernel_rfl) (fun _ _ _ h => h) (Or.inl ⟨by rfl, ?_⟩) hS ?_
                    rotate_left
                    focus (intro w' hw'; go_simp; all_goals with_reducible rfl)
                    try simp only [Act.put, List.setIfInBounds_toArray, List.set_cons_zero, List.set_cons_succ]
                    refine wpAnyH_take (i := 11) (v := ?_) (by simp only [List.getElem?_toArray, List.getElem?_cons_succ, List.getElem?_cons_zero] <;> exact rfl) (by kernel_rfl) (by kernel_rfl) (by kernel_rfl) (fun _ _ _ h => h) (Or.inl ⟨by rfl, ?_⟩) hS ?_
                    rotate_left
                    focus (intro w' hw'; go_simp; all_goals with_reducible rfl)
                    try simp only [Act.put, List.setIfInBounds_toArray, List.set_cons_zero, List.set_cons_succ]
                    refine wpAnyH_ready (rs := [13]) (by kernel_rfl) (by simp) ?_
                    refine AllReadyH.cons (o := _) (by simp only [List.getElem?_toArray, List.getElem?_cons_succ, List.getElem?_cons_zero] <;> exact rfl) (fun K hK => ?_) ?_
                    focus (
                      refine rgs_store_blk (by rfl) 26 (.tmp 17) (.tmp 138) (by rfl) u9 #[.int .i64 24, .string ⟨#[]⟩, .bool false] #[.int .i64 0, .string ⟨#[]⟩, .bool false] 26 (by rfl) (by rfl) hu st_size rfl (st_one _ _ _) ?_
                      have hz := hz.kb ((KB.refl (· = u9) wf5).setRow (fun _ => rfl) #[.int .i64 24, .string ⟨#[]⟩, .bool false]) (zb_ne hz hu)
                      have hS := below_setRow hS hul #[.int .i64 24, .string ⟨#[]⟩, .bool false]
                      have hu := hu.row #[.int .i64 24, .string ⟨#[]⟩, .bool false]
                      refine hK.out _ _ hS (fun _ => ?_)
                      clear hK K
                      try simp only [Act.put, List.setIfInBounds_toArray, List.set_cons_zero, List.set_cons_succ]
                      refine wpAnyH_take (i := 14) (v := ?_) (by simp only [List.getElem?_toArray, List.getElem?_cons_succ, List.getElem?_cons_zero] <;> exact rfl) (by kernel_rfl) (by kernel_rfl) (by kernel_rfl) (fun _ _ _ h => h) (Or.inl ⟨by rfl, ?_⟩) hS ?_
                      rotate_left
                      focus (intro w' hw'; go_simp; all_goals with_reducible rfl)
                      try simp only [Act.put, List.setIfInBounds_toArray, List.set_cons_zero, List.set_cons_succ]
                      refine wpAnyH_take (i := 15) (v := ?_) (by simp only [List.getElem?_toArray, List.getElem?_cons_succ, List.getElem?_cons_zero] <;> exact rfl) (by kernel_rfl) (by kernel_rfl) (by kernel_rfl) (fun _ _ _ h => h) (Or.inl ⟨by rfl, ?_⟩) hS ?_
                      rotate_left
                      focus (intro w' hw'; go_simp; all_goals with_reducible rfl)
                      try simp only [Act.put, List.setIfInBounds_toArray, List.set_cons_zero, List.set_cons_succ]
                      refine wpAnyH_done (by kernel_rfl) ?_ _
                      refine NoPanic.normal ?_
                      go_wp2
                      go_meet
                      exact ⟨u9, A, cq, rfl, rfl, rfl, hu, hz, hS⟩)
                    exact AllReadyH.nil)
                  exact AllReadyH.nil)
                exact AllReadyH.nil)
              refine AllReadyH.cons (o := _) (by simp only [List.getElem?_toArray, List.getElem?_cons_succ, List.getElem?_cons_zero] <;> exact rfl) (fun K hK => ?_) ?_
              focus (
                go_simp
                refine hK.out _ _ (hS.alloc hS.size _) (fun _ => ?_)
                have hu := BlkIs.new wd 26 #[.int .i64 0, .string ⟨#[]⟩, .bool false]
                obtain ⟨u9, hu0⟩ : ∃ u, u = wd.heap.size := ⟨_, rfl⟩
                have hul : w8.heap.size ≤ u9 := by rw [hu0]; exact hS.size
                have hS := hS.alloc hS.size (.cells #[.int .i64 0, .string ⟨#[]⟩, .bool false] 26)
                rw [← hu0] at hu ⊢
                generalize wd.alloc (.cells #[.int .i64 0, .string ⟨#[]⟩, .bool false] 26) = wa6 at hS hu ⊢
                clear hu0
                clear hK K
                try simp only [Act.put, List.setIfInBounds_toArray, List.set_cons_zero, List.set_cons_succ]
                refine wpAnyH_ready (rs := [6]) (by kernel_rfl) (by simp) ?_
                refine AllReadyH.cons (o := _) (by simp only [List.getElem?_toArray, List.getElem?_cons_succ, List.getElem?_cons_zero] <;> exact rfl) (fun K hK => ?_) ?_
                focus (
                  obtain ⟨cp, wv7, hcv, hrv, hbv, hcp, hcm, _⟩ := str_row wa6 r.d
                  go_simp
                  clear hcv
                  have hS := hS.trans (hbv.mono hS.size)
                  have hcp0 := hcm HDM.out
                  unfold maxLen at hcp0
                  have hu := hu.keep hbv
                  obtain ⟨pv, hpv⟩ : ∃ p, p = wa6.heap.size := ⟨_, rfl⟩
                  rw [← hpv] at hrv ⊢
                  refine hK.out _ _ hS (fun _ => ?_)
                  clear hpv hbv hcm
                  clear hK K
                  try simp only [Act.put, List.setIfInBounds_toArray, List.set_cons_zero, List.set_cons_succ]
                  refine wpAnyH_ready (rs := [7]) (by kernel_rfl) (by simp) ?_
                  refine AllReadyH.cons (o := _) (by simp only [List.getElem?_toArray, List.getElem?_cons_succ, List.getElem?_cons_zero] <;> exact rfl) (fun K hK => ?_) ?_
                  focus (
                    go_simp
                    go_at_call 7
                    refine (HF2.out _ _ _ hcp (by omega) (fun h => by cases h) hrv).mono ?_
                    rintro e wf8 ⟨v, rfl, hown, hb⟩
                    obtain ⟨A, cq, rfl, hz⟩ := own_zl hown
                    have hu := hu.keep hb
                    have hS := hS.trans (hb.mono hS.size)
                    clear hb hown hrv
                    go_wp2_with fail
                    refine hK.out _ _ hS (fun _ => ?_)
                    clear hK K
                    try simp only [Act.put, List.setIfInBounds_toArray, List.set_cons_zero, List.set_cons_succ]
                    refine wpAnyH_take (i := 8) (v := ?_) (by simp only [List.getElem?_toArray, List.getElem?_cons_succ, List.getElem?_cons_zero] <;> exact rfl) (by kernel_rfl) (by kernel_rfl) (by kernel_rfl) (fun _ _ _ h => h) (Or.inl ⟨by rfl, ?_⟩) hS ?_
                    rotate_left
                    focus (intro w' hw'; go_simp; all_goals with_reducible rfl)
                    try simp only [Act.put, List.setIfInBounds_toArray, List.set_cons_zero, List.set_cons_succ]
                    refine wpAnyH_take (i := 9) (v := ?_) (by simp only [List.getElem?_toArray, List.getElem?_cons_succ, List.getElem?_cons_zero] <;> exact rfl) (by kernel_rfl) (by kernel_rfl) (by kernel_rfl) (fun _ _ _ h => h) (Or.inl ⟨by rfl, ?_⟩) hS ?_
                    rotate_left
                    focus (intro w' hw'; go_simp; all_goals with_reducible rfl)
                    try simp only [Act.put, List.setIfInBounds_toArray, List.set_cons_zero, List.set_cons_succ]
                    refine wpAnyH_take (i := 10) (v := ?_) (by simp only [List.getElem?_toArray, List.getElem?_cons_succ, List.getElem?_cons_zero] <;> exact rfl) (by kernel_rfl) (by kernel_rfl) (by kernel_rfl) (fun _ _ _ h => h) (Or.inl ⟨by rfl, ?_⟩) hS ?_
                    rotate_left
                    focus (intro w' hw'; go_simp; all_goals with_reducible rfl)
                    try simp only [Act.put, List.setIfInBounds_toArray, List.set_cons_zero, List.set_cons_succ]
                    refine wpAnyH_take (i := 11) (v := ?_) (by simp only [List.getElem?_toArray, List.getElem?_cons_succ, List.getElem?_cons_zero] <;> exact rfl) (by kernel_rfl) (by kernel_rfl) (by kernel_rfl) (fun _ _ _ h => h) (Or.inl ⟨by rfl, ?_⟩) hS ?_
                    rotate_left
                    focus (intro w' hw'; go_simp; all_goals with_reducible rfl)
                    try simp only [Act.put, List.setIfInBounds_toArray, List.set_cons_zero, List.set_cons_succ]
                    refine wpAnyH_ready (rs := [13]) (by kernel_rfl) (by simp) ?_
                    refine AllReadyH.cons (o := _) (by simp only [List.getElem?_toArray, List.getElem?_cons_succ, List.getElem?_cons_zero] <;> exact rfl) (fun K hK => ?_) ?_
                    focus (
                      refine rgs_store_blk (by rfl) 26 (.tmp 17) (.tmp 138) (by rfl) u9 #[.int .i64 24, .string ⟨#[]⟩, .bool false] #[.int .i64 0, .string ⟨#[]⟩, .bool false] 26 (by rfl) (by rfl) hu st_size rfl (st_one _ _ _) ?_
                      have hz := hz.kb ((KB.refl (· = u9) wf8).setRow (fun _ => rfl) #[.int .i64 24, .string ⟨#[]⟩, .bool false]) (zb_ne hz hu)
                      have hS := below_setRow hS hul #[.int .i64 24, .string ⟨#[]⟩, .bool false]
                      have hu := hu.row #[.int .i64 24, .string ⟨#[]⟩, .bool false]
                      refine hK.out _ _ hS (fun _ => ?_)
                      clear hK K
                      try simp only [Act.put, List.setIfInBounds_toArray, List.set_cons_zero, List.set_cons_succ]
                      refine wpAnyH_take (i := 14) (v := ?_) (by simp only [List.getElem?_toArray, List.getElem?_cons_succ, List.getElem?_cons_zero] <;> exact rfl) (by kernel_rfl) (by kernel_rfl) (by kernel_rfl) (fun _ _ _ h => h) (Or.inl ⟨by rfl, ?_⟩) hS ?_
                      rotate_left
                      focus (intro w' hw'; go_simp; all_goals with_reducible rfl)
                      try simp only [Act.put, List.setIfInBounds_toArray, List.set_cons_zero, List.set_cons_succ]
                      refine wpAnyH_take (i := 15) (v := ?_) (by simp only [List.getElem?_toArray, List.getElem?_cons_succ, List.getElem?_cons_zero] <;> exact rfl) (by kernel_rfl) (by kernel_rfl) (by kernel_rfl) (fun _ _ _ h => h) (Or.inl ⟨by rfl, ?_⟩) hS ?_
                      rotate_left
                      focus (intro w' hw'; go_simp; all_goals with_reducible rfl)
                      try simp only [Act.put, List.setIfInBounds_toArray, List.set_cons_zero, List.set_cons_succ]
                      refine wpAnyH_done (by kernel_rfl) ?_ _
                      refine NoPanic.normal ?_
                      go_wp2
                      go_meet
                      exact ⟨u9, A, cq, rfl, rfl, rfl, hu, hz, hS⟩)
                    exact AllReadyH.nil)
                  exact AllReadyH.nil)
                exact AllReadyH.nil)
              exact AllReadyH.nil
            obtain ⟨w9, hw9⟩ : ∃ x, x = wc := ⟨_, rfl⟩
            subst hw9
            obtain ⟨y, A9, c9, rfl, rfl, rfl, hk9, hz9, hb9⟩ := hcut
            have Kst9 := hide (Kst8.out.keep hb9)
            have Ku9 := hide (Ku8.out.keep hb9)
            have Kx9 := hide (Kx8.out.keep hb9)
            have Ezn9 := hide (Ezn8.out.keep hb9)
            have B9 := hide (B8.out.trans (hb9.mono B8.out.size))
            clear hb9 Kst8 Ku8 Kx8 Ezn8 B8
            have KN9 := hide hk9
            have ZS9 := hide hz9
            clear hk9 hz9
            go_upto_region 19 with (fail)
            go_upto_region 20 with (first | (at_builtin; refine wpList_append_zl _ rfl (.tmp 141) (.tmp 142) rfl w9.heap.size _ 0 [] rfl (own_made5 w9 w9.heap.size (Nat.le_refl _) _) A3 nn c3 nl rfl (Ezn9.out.keep ((Below.refl w9.heap.size w9).alloc (Nat.le_refl _) (.cells #[] 53))) (by have := HNN.out; omega) (by simp) ?_; intro v1_ w1_ hown1_ hg1_; have BW1_ := hide (own_below_z (own_made5 w9 w9.heap.size (Nat.le_refl _) _) ((Below.refl w9.heap.size w9).alloc (Nat.le_refl _) (.cells #[] 53)) (Nat.le_refl _) (Nat.le_refl _) hg1_); rw [Nat.zero_add, List.nil_append] at hown1_; have O1_ := hide hown1_; clear hown1_ hg1_) | (at_builtin; refine wpList_append_zl _ rfl (.tmp 143) (.tmp 144) rfl w9.heap.size v1_ nn nl rfl O1_.out A9 sn c9 sl rfl (ZS9.out.keep BW1_.out) (by have := HNN.out; omega) BW1_.out.size ?_; intro v2_ w2_ hown2_ hg2_; have BW2_ := hide (own_below_z O1_.out BW1_.out (Nat.le_refl _) (Nat.le_refl _) hg2_); rw [HNN.out, HNS.out] at hown2_; have O2_ := hide hown2_; clear hown2_ hg2_))
            clear O1_ BW1_
            obtain ⟨AL, cL, rfl, hzl_⟩ := own_zl O2_.out
            have hb_ := BW2_.out
            clear O2_ BW2_
            obtain ⟨w10, hw10⟩ : ∃ x, x = w2_ := ⟨_, rfl⟩
            subst hw10
            have Kst10 := hide (Kst9.out.keep hb_)
            have Ku10 := hide (Ku9.out.keep hb_)
            have Kx10 := hide (Kx9.out.keep hb_)
            have Ky10 := hide (KN9.out.keep hb_)
            have Ezn10 := hide (Ezn9.out.keep hb_)
            have Ezs10 := hide (ZS9.out.keep hb_)
            have B10 := hide (B9.out.trans (hb_.mono B9.out.size))
            clear hb_ Kst9 Ku9 Kx9 KN9 Ezn9 ZS9 B9
            clear Ezn10 Ezs10
            obtain ⟨bL, oL, rfl, hbL, m0, m1, m2, m3, m4⟩ := ZL.lone5 hzl_
            clear hzl_
            have HME := hide (fun (w' : World) (hb' : Below w10.heap.size w10 w') => (⟨(hb'.cell hbL).trans m0, (hb'.cell hbL).trans m1, (hb'.cell hbL).trans m2, (hb'.cell hbL).trans m3, (hb'.cell hbL).trans m4⟩ :
              w'.cell? ⟨bL, oL, none⟩ = some (.int .i64 (r.d.size : Int)) ∧ w'.cell? ⟨bL, oL + 1, none⟩ = some (.int .u8 r.t) ∧ w'.cell? ⟨bL, oL + 2, none⟩ = some (.int .u8 r.f) ∧ w'.cell? ⟨bL, oL + 3, none⟩ = some (.int .i64 r.s) ∧ w'.cell? ⟨bL, oL + 4, none⟩ = some (.string r.d)))
            clear m0 m1 m2 m3 m4
            refine wp_region_noPanic ?_
            refine wp_region_held_drew (S := fun w' => Below w10.heap.size w10 w') (by kernel_rfl) (Below.refl _ _).drew (fun hS => ?_)
            refine wpAnyH_take (i := 0) (v := ?_) (by simp only [List.getElem?_toArray, List.getElem?_cons_zero] <;> exact rfl) (by kernel_rfl) (by kernel_rfl) (by kernel_rfl) (fun _ _ _ h => h) (Or.inl ⟨by rfl, ?_⟩) hS ?_
            rotate_left
            focus (intro w' hw'; go_simp; all_goals with_reducible rfl)
            try simp only [Act.put, List.setIfInBounds_toArray, List.set_cons_zero, List.set_cons_succ]
            refine wpAnyH_take (i := 1) (v := ?_) (by simp only [List.getElem?_toArray, List.getElem?_cons_succ, List.getElem?_cons_zero] <;> exact rfl) (by kernel_rfl) (by kernel_rfl) (by kernel_rfl) (fun _ _ _ h => h) (Or.inl ⟨by rfl, ?_⟩) hS ?_
            rotate_left
            focus (intro w' hw'; go_simp; all_goals with_reducible rfl)
            try simp only [Act.put, List.setIfInBounds_toArray, List.set_cons_zero, List.set_cons_succ]
            refine wpAnyH_take (i := 2) (v := ?_) (by simp only [List.getElem?_toArray, List.getElem?_cons_succ, List.getElem?_cons_zero] <;> exact rfl) (by kernel_rfl) (by kernel_rfl) (by kernel_rfl) (fun _ _ _ h => h) (Or.inl ⟨by rfl, ?_⟩) hS ?_
            rotate_left
            focus (intro w' hw'; go_simp; all_goals with_reducible rfl)
            try simp only [Act.put, List.setIfInBounds_toArray, List.set_cons_zero, List.set_cons_succ]
            refine wpAnyH_take (i := 3) (v := ?_) (by simp only [List.getElem?_toArray, List.getElem?_cons_succ, List.getElem?_cons_zero] <;> exact rfl) (by kernel_rfl) (by kernel_rfl) (by kernel_rfl) (fun _ _ _ h => h) (Or.inl ⟨by rfl, ?_⟩) hS ?_
            rotate_left
            focus (intro w' hw'; go_simp; all_goals with_reducible rfl)
            try simp only [Act.put, List.setIfInBounds_toArray, List.set_cons_zero, List.set_cons_succ]
            refine wpAnyH_take (i := 4) (v := ?_) (by simp only [List.getElem?_toArray, List.getElem?_cons_succ, List.getElem?_cons_zero] <;> exact rfl) (by kernel_rfl) (by kernel_rfl) (by kernel_rfl) (fun _ _ _ h => h) (Or.inl ⟨by rfl, ?_⟩) hS ?_
            rotate_left
            focus (intro w' hw'; go_simp; all_goals with_reducible rfl)
            try simp only [Act.put, List.setIfInBounds_toArray, List.set_cons_zero, List.set_cons_succ]
            refine wpAnyH_take (i := 5) (v := ?_) (by simp only [List.getElem?_toArray, List.getElem?_cons_succ, List.getElem?_cons_zero] <;> exact rfl) (by kernel_rfl) (by kernel_rfl) (by kernel_rfl) (fun _ _ _ h => h) (Or.inl ⟨by rfl, ?_⟩) hS ?_
            rotate_left
            focus (intro w' hw'; go_simp; all_goals with_reducible rfl)
            try simp only [Act.put, List.setIfInBounds_toArray, List.set_cons_zero, List.set_cons_succ]
            refine wpAnyH_take (i := 6) (v := ?_) (by simp only [List.getElem?_toArray, List.getElem?_cons_succ, List.getElem?_cons_zero] <;> exact rfl) (by kernel_rfl) (by kernel_rfl) (by kernel_rfl) (fun _ _ _ h => h) (Or.inl ⟨by rfl, ?_⟩) hS ?_
            rotate_left
            focus (intro w' hw'; go_simp; all_goals with_reducible rfl)
            try simp only [Act.put, List.setIfInBounds_toArray, List.set_cons_zero, List.set_cons_succ]
            refine wpAnyH_take (i := 7) (v := ?_) (by simp only [List.getElem?_toArray, List.getElem?_cons_succ, List.getElem?_cons_zero] <;> exact rfl) (by kernel_rfl) (by kernel_rfl) (by kernel_rfl) (fun _ _ _ h => h) (Or.inl ⟨by rfl, ?_⟩) hS ?_
            rotate_left
            focus (intro w' hw'; go_simp; all_goals with_reducible rfl)
            try simp only [Act.put, List.setIfInBounds_toArray, List.set_cons_zero, List.set_cons_succ]
            refine wpAnyH_take (i := 8) (v := ?_) (by simp only [List.getElem?_toArray, List.getElem?_cons_succ, List.getElem?_cons_zero] <;> exact rfl) (by kernel_rfl) (by kernel_rfl) (by kernel_rfl) (fun _ _ _ h => h) (Or.inl ⟨by rfl, ?_⟩) hS ?_
            rotate_left
            focus (intro w' hw'; go_simp; all_goals with_reducible rfl)
            try simp only [Act.put, List.setIfInBounds_toArray, List.set_cons_zero, List.set_cons_succ]
            refine wpAnyH_take (i := 9) (v := ?_) (by simp only [List.getElem?_toArray, List.getElem?_cons_succ, List.getElem?_cons_zero] <;> exact rfl) (by kernel_rfl) (by kernel_rfl) (by kernel_rfl) (fun _ _ _ h => h) (Or.inl ⟨by rfl, ?_⟩) hS ?_
            rotate_left
            focus (intro w' hw'; go_simp; all_goals with_reducible rfl)
            try simp only [Act.put, List.setIfInBounds_toArray, List.set_cons_zero, List.set_cons_succ]
            refine wpAnyH_take (i := 10) (v := ?_) (by simp only [List.getElem?_toArray, List.getElem?_cons_succ, List.getElem?_cons_zero] <;> exact rfl) (by kernel_rfl) (by kernel_rfl) (by kernel_rfl) (fun _ _ _ h => h) (Or.inl ⟨by rfl, ?_⟩) hS ?_
            rotate_left
            focus (intro w' hw'; go_simp; all_goals with_reducible rfl)
            try simp only [Act.put, List.setIfInBounds_toArray, List.set_cons_zero, List.set_cons_succ]
            refine wpAnyH_take (i := 11) (v := ?_) (by simp only [List.getElem?_toArray, List.getElem?_cons_succ, List.getElem?_cons_zero] <;> exact rfl) (by kernel_rfl) (by kernel_rfl) (by kernel_rfl) (fun _ _ _ h => h) (Or.inl ⟨by rfl, ?_⟩) hS ?_
            rotate_left
            focus (intro w' hw'; obtain ⟨m0, m1, m2, m3, m4⟩ := HME.out _ hw'; go_simp; all_goals with_reducible rfl)
            try simp only [Act.put, List.setIfInBounds_toArray, List.set_cons_zero, List.set_cons_succ]
            refine wpAnyH_take (i := 12) (by simp only [List.getElem?_toArray, List.getElem?_cons_succ, List.getElem?_cons_zero] <;> exact rfl) (by kernel_rfl) (by kernel_rfl) (by kernel_rfl) (fun _ _ _ h => h) (rgs_yields_blk (by rfl) 49 (.tmp 11) (by rfl) u (by rfl) 49 #[.int .i64 (r.d.size : Int), .int .u8 r.t, .int .u8 r.f, .int .i64 r.s] _ (fun w' hw' => Ku10.out.keep hw') Try.underlying49 rfl hd_size) hS ?_
            try simp only [Act.put, List.setIfInBounds_toArray, List.set_cons_zero, List.set_cons_succ]
            refine wpAnyH_take (i := 13) (v := ?_) (by simp only [List.getElem?_toArray, List.getElem?_cons_succ, List.getElem?_cons_zero] <;> exact rfl) (by kernel_rfl) (by kernel_rfl) (by kernel_rfl) (fun _ _ _ h => h) (Or.inl ⟨by rfl, ?_⟩) hS ?_
            rotate_left
            focus (intro w' hw'; go_simp; all_goals with_reducible rfl)
            try simp only [Act.put, List.setIfInBounds_toArray, List.set_cons_zero, List.set_cons_succ]
            refine wpAnyH_take (i := 14) (v := ?_) (by simp only [List.getElem?_toArray, List.getElem?_cons_succ, List.getElem?_cons_zero] <;> exact rfl) (by kernel_rfl) (by kernel_rfl) (by kernel_rfl) (fun _ _ _ h => h) (Or.inl ⟨by rfl, ?_⟩) hS ?_
            rotate_left
            focus (intro w' hw'; go_simp; all_goals with_reducible rfl)
            try simp only [Act.put, List.setIfInBounds_toArray, List.set_cons_zero, List.set_cons_succ]
            refine wpAnyH_take (i := 15) (v := ?_) (by simp only [List.getElem?_toArray, List.getElem?_cons_succ, List.getElem?_cons_zero] <;> exact rfl) (by kernel_rfl) (by kernel_rfl) (by kernel_rfl) (fun _ _ _ h => h) (Or.inl ⟨by rfl, ?_⟩) hS ?_
            rotate_left
            focus (intro w' hw'; go_simp; all_goals with_reducible rfl)
            try simp only [Act.put, List.setIfInBounds_toArray, List.set_cons_zero, List.set_cons_succ]
            refine wpAnyH_take (i := 16) (v := ?_) (by simp only [List.getElem?_toArray, List.getElem?_cons_succ, List.getElem?_cons_zero] <;> exact rfl) (by kernel_rfl) (by kernel_rfl) (by kernel_rfl) (fun _ _ _ h => h) (Or.inl ⟨by rfl, ?_⟩) hS ?_
            rotate_left
            focus (intro w' hw'; go_simp; all_goals with_reducible rfl)
            try simp only [Act.put, List.setIfInBounds_toArray, List.set_cons_zero, List.set_cons_succ]
            refine wpAnyH_take (i := 17) (v := ?_) (by simp only [List.getElem?_toArray, List.getElem?_cons_succ, List.getElem?_cons_zero] <;> exact rfl) (by kernel_rfl) (by kernel_rfl) (by kernel_rfl) (fun _ _ _ h => h) (Or.inl ⟨by rfl, ?_⟩) hS ?_
            rotate_left
            focus (intro w' hw'; go_simp; all_goals with_reducible rfl)
            try simp only [Act.put, List.setIfInBounds_toArray, List.set_cons_zero, List.set_cons_succ]
            refine wpAnyH_take (i := 18) (v := ?_) (by simp only [List.getElem?_toArray, List.getElem?_cons_succ, List.getElem?_cons_zero] <;> exact rfl) (by kernel_rfl) (by kernel_rfl) (by kernel_rfl) (fun _ _ _ h => h) (Or.inl ⟨by rfl, ?_⟩) hS ?_
            rotate_left
            focus (intro w' hw'; go_simp; all_goals with_reducible rfl)
            try simp only [Act.put, List.setIfInBounds_toArray, List.set_cons_zero, List.set_cons_succ]
            refine wpAnyH_take (i := 19) (v := ?_) (by simp only [List.getElem?_toArray, List.getElem?_cons_succ, List.getElem?_cons_zero] <;> exact rfl) (by kernel_rfl) (by kernel_rfl) (by kernel_rfl) (fun _ _ _ h => h) (Or.inl ⟨by rfl, ?_⟩) hS ?_
            rotate_left
            focus (intro w' hw'; obtain ⟨m0, m1, m2, m3, m4⟩ := HME.out _ hw'; go_simp; all_goals with_reducible rfl)
            try simp only [Act.put, List.setIfInBounds_toArray, List.set_cons_zero, List.set_cons_succ]
            refine wpAnyH_take (i := 20) (v := ?_) (by simp only [List.getElem?_toArray, List.getElem?_cons_succ, List.getElem?_cons_zero] <;> exact rfl) (by kernel_rfl) (by kernel_rfl) (by kernel_rfl) (fun _ _ _ h => h) (Or.inl ⟨by rfl, ?_⟩) hS ?_
            rotate_left
            focus (intro w' hw'; go_simp; all_goals with_reducible rfl)
            try simp only [Act.put, List.setIfInBounds_toArray, List.set_cons_zero, List.set_cons_succ]
            refine wpAnyH_take (i := 21) (v := ?_) (by simp only [List.getElem?_toArray, List.getElem?_cons_succ, List.getElem?_cons_zero] <;> exact rfl) (by kernel_rfl) (by kernel_rfl) (by kernel_rfl) (fun _ _ _ h => h) (Or.inl ⟨by rfl, ?_⟩) hS ?_
            rotate_left
            focus (intro w' hw'; go_simp; all_goals with_reducible rfl)
            try simp only [Act.put, List.setIfInBounds_toArray, List.set_cons_zero, List.set_cons_succ]
            refine wpAnyH_take (i := 22) (v := ?_) (by simp only [List.getElem?_toArray, List.getElem?_cons_succ, List.getElem?_cons_zero] <;> exact rfl) (by kernel_rfl) (by kernel_rfl) (by kernel_rfl) (fun _ _ _ h => h) (Or.inl ⟨by rfl, ?_⟩) hS ?_
            rotate_left
            focus (intro w' hw'; go_simp; all_goals with_reducible rfl)
            try simp only [Act.put, List.setIfInBounds_toArray, List.set_cons_zero, List.set_cons_succ]
            refine wpAnyH_take (i := 23) (v := ?_) (by simp only [List.getElem?_toArray, List.getElem?_cons_succ, List.getElem?_cons_zero] <;> exact rfl) (by kernel_rfl) (by kernel_rfl) (by kernel_rfl) (fun _ _ _ h => h) (Or.inl ⟨by rfl, ?_⟩) hS ?_
            rotate_left
            focus (intro w' hw'; go_simp; all_goals with_reducible rfl)
            try simp only [Act.put, List.setIfInBounds_toArray, List.set_cons_zero, List.set_cons_succ]
            refine wpAnyH_take (i := 24) (v := ?_) (by simp only [List.getElem?_toArray, List.getElem?_cons_succ, List.getElem?_cons_zero] <;> exact rfl) (by kernel_rfl) (by kernel_rfl) (by kernel_rfl) (fun _ _ _ h => h) (Or.inl ⟨by rfl, ?_⟩) hS ?_
            rotate_left
            focus (intro w' hw'; obtain ⟨e0, e1, e2, e3, e4⟩ := HCE.out _ (B10.out.trans (hw'.mono B10.out.size)); go_simp; all_goals with_reducible rfl)
            try simp only [Act.put, List.setIfInBounds_toArray, List.set_cons_zero, List.set_cons_succ]
            refine wpAnyH_take (i := 25) (v := ?_) (by simp only [List.getElem?_toArray, List.getElem?_cons_succ, List.getElem?_cons_zero] <;> exact rfl) (by kernel_rfl) (by kernel_rfl) (by kernel_rfl) (fun _ _ _ h => h) (Or.inl ⟨by rfl, ?_⟩) hS ?_
            rotate_left
            focus (intro w' hw'; go_simp; all_goals with_reducible rfl)
            try simp only [Act.put, List.setIfInBounds_toArray, List.set_cons_zero, List.set_cons_succ]
            refine wpAnyH_take (i := 26) (v := ?_) (by simp only [List.getElem?_toArray, List.getElem?_cons_succ, List.getElem?_cons_zero] <;> exact rfl) (by kernel_rfl) (by kernel_rfl) (by kernel_rfl) (fun _ _ _ h => h) (Or.inl ⟨by rfl, ?_⟩) hS ?_
            rotate_left
            focus (intro w' hw'; go_simp; all_goals with_reducible rfl)
            try simp only [Act.put, List.setIfInBounds_toArray, List.set_cons_zero, List.set_cons_succ]
            refine wpAnyH_done (by kernel_rfl) ?_ _
            refine NoPanic.normal ?_
            generalize w10.drew = wq at hS ⊢
            have Kst11 := hide (Kst10.out.keep hS)
            have Ku11 := hide (Ku10.out.keep hS)
            have Kx11 := hide (Kx10.out.keep hS)
            have Ky11 := hide (Ky10.out.keep hS)
            have B11 := hide (B10.out.trans (hS.mono B10.out.size))
            clear hS Kst10 Ku10 Kx10 Ky10 B10
            go_wp2_with (first | refine wpList_load_blk rfl 26 (.tmp 17) rfl y rfl 26 #[.int .i64 24, .string ⟨#[]⟩, .bool false] _ Ky11.out Try.underlying26 rfl st_size ?_ | refine wpList_store_blk rfl 26 (.tmp 7) (.tmp 173) rfl st #[.int .i64 24, .string ⟨#[]⟩, .bool false] #[.int .i64 24, .string ⟨#[]⟩, .bool false] 26 rfl rfl Kst11.out st_size rfl (st_one _ _ _) ?_)
            go_roundw
            case rel => exact ⟨i + 1, by go_num, by omega, Kst11.out.row _, below_setRow B11.out Lst.out _⟩
            case measure => simp [intOf]; omega)
        exact AllReadyH.nil)
      exact AllReadyH.nil
    · obtain rfl : i = n := by omega
      have hge : ¬ (i : Int) < (i : Int) := by omega
      have kc := Lib.run_convert_bytes_const (P := Try.prog) wr 24 5 #[.int .u8 80, .int .u8 82, .int .u8 73, .int .u8 32, .int .u8 42, .int .u8 32, .int .u8 72, .int .u8 84, .int .u8 84, .int .u8 80, .int .u8 47, .int .u8 50, .int .u8 46, .int .u8 48, .int .u8 13, .int .u8 10, .int .u8 13, .int .u8 10, .int .u8 83, .int .u8 77, .int .u8 13, .int .u8 10, .int .u8 13, .int .u8 10] 24 24 Try.underlying24 Try.underlying5
      obtain ⟨rp, hrp, hrp2⟩ := rem_nat p 255 p0 255 rfl (by omega)
      obtain ⟨x, hx⟩ : ∃ x, x = preB.getD kq 0 := ⟨_, rfl⟩
      have hxb := preB_all.getD kq
      rw [← hx] at hxb
      obtain ⟨hv0, hv1, hv2⟩ := xor_ne x (1 + (rp : Int)) hxb.1 hxb.2 (by omega) (by omega)
      obtain ⟨V, hV⟩ : ∃ V, bits .xor .u8 x (1 + (rp : Int)) = V := ⟨_, rfl⟩
      rw [hV] at hv0 hv1 hv2
      have hrb := mark_set wr 5 (24, 25) preB kq V (by rw [preB_len]; exact hk24) preB_all hv1 hv2
      have HFO := hide (fun w hr => feed_is (feed_other kq hk24 V (by rw [← hx]; exact hv0)) ⟨#[]⟩ rfl 0 rfl (some ⟨wr.heap.size, 0, none⟩) 24 24 (by decide) (by omega) (by omega) (by omega) (fun h => by cases h) w hr)
      have hcell := pre_cell wr kq hk24
      rw [← hx] at hcell
      have hfroz := mark_frozen wr #[.int .u8 80, .int .u8 82, .int .u8 73, .int .u8 32, .int .u8 42, .int .u8 32, .int .u8 72, .int .u8 84, .int .u8 84, .int .u8 80, .int .u8 47, .int .u8 50, .int .u8 46, .int .u8 48, .int .u8 13, .int .u8 10, .int .u8 13, .int .u8 10, .int .u8 83, .int .u8 77, .int .u8 13, .int .u8 10, .int .u8 13, .int .u8 10] 5 kq (by exact hk24)
      rw [show (#[.int .u8 80, .int .u8 82, .int .u8 73, .int .u8 32, .int .u8 42, .int .u8 32, .int .u8 72, .int .u8 84, .int .u8 84, .int .u8 80, .int .u8 47, .int .u8 50, .int .u8 46, .int .u8 48, .int .u8 13, .int .u8 10, .int .u8 13, .int .u8 10, .int .u8 83, .int .u8 77, .int .u8 13, .int .u8 10, .int .u8 13, .int .u8 10] : Array Value).size = 24 from rfl] at hfroz
      have HRB := hide hrb
      have HV := hide hV
      have hk24i : (kq : Int) < 24 := by omega
      have hrpi : (rp : Int) ≤ 254 := by omega
      clear hx hxb hv0 hv1 hv2 hrb hrp2 hk24 hlt hge
      go_upto_region 25 with (fail)
      rw [hkq]
      clear hkq kc
      have hV := HV.out
      go_upto_region 26 with (fail)
      have BQ := hide ((BB.out.alloc BB.out.size (.cells #[.int .u8 80, .int .u8 82, .int .u8 73, .int .u8 32, .int .u8 42, .int .u8 32, .int .u8 72, .int .u8 84, .int .u8 84, .int .u8 80, .int .u8 47, .int .u8 50, .int .u8 46, .int .u8 48, .int .u8 13, .int .u8 10, .int .u8 13, .int .u8 10, .int .u8 83, .int .u8 77, .int .u8 13, .int .u8 10, .int .u8 13, .int .u8 10] 5 (24, 25))).setCell (p := ⟨wr.heap.size, kq, none⟩) BB.out.size (.int .u8 V))
      have RQ : RB ((wr.alloc (.cells #[.int .u8 80, .int .u8 82, .int .u8 73, .int .u8 32, .int .u8 42, .int .u8 32, .int .u8 72, .int .u8 84, .int .u8 84, .int .u8 80, .int .u8 47, .int .u8 50, .int .u8 46, .int .u8 48, .int .u8 13, .int .u8 10, .int .u8 13, .int .u8 10, .int .u8 83, .int .u8 77, .int .u8 13, .int .u8 10, .int .u8 13, .int .u8 10] 5 (24, 25))).setCell ⟨wr.heap.size, kq, none⟩ (.int .u8 V)) (some ⟨wr.heap.size, 0, none⟩) 24 (preB.set kq V) := HRB.out
      clear hcell hfroz hV HRB BB
      generalize (wr.alloc (.cells #[.int .u8 80, .int .u8 82, .int .u8 73, .int .u8 32, .int .u8 42, .int .u8 32, .int .u8 72, .int .u8 84, .int .u8 84, .int .u8 80, .int .u8 47, .int .u8 50, .int .u8 46, .int .u8 48, .int .u8 13, .int .u8 10, .int .u8 13, .int .u8 10, .int .u8 83, .int .u8 77, .int .u8 13, .int .u8 10, .int .u8 13, .int .u8 10] 5 (24, 25))).setCell ⟨wr.heap.size, kq, none⟩ (.int .u8 V) = w12 at BQ RQ ⊢
      have RQ2 := hide RQ
      clear RQ
      go_wp2_with (refine rgs_built_want (by rfl) 26 _ rfl _ st_built0 ?_)
      refine (HFO.out _ RQ2.out).mono ?_
      rintro e w13 ⟨v9, rfl, hown9, hb13⟩
      have B13 := hide (BQ.out.trans (hb13.mono BQ.out.size))
      clear hb13 BQ
      obtain ⟨A9, c9, rfl, _⟩ := own_zl hown9
      clear hown9
      go_upto_region 27 with (fail)
      have KN14 := hide (BlkIs.new w13 26 #[.int .i64 0, .string ⟨#[]⟩, .bool true])
      obtain ⟨z, hz⟩ : ∃ g, g = w13.heap.size := ⟨_, rfl⟩
      have Lz := hide (show w.heap.size ≤ z by rw [hz]; exact B13.out.size)
      have B14 := hide (B13.out.alloc B13.out.size (.cells #[.int .i64 0, .string ⟨#[]⟩, .bool true] 26))
      rw [← hz] at KN14 ⊢
      generalize w13.alloc (.cells #[.int .i64 0, .string ⟨#[]⟩, .bool true] 26) = w14 at B14 KN14 ⊢
      clear hz B13
      obtain ⟨d0, d1, d2⟩ := st_cells KN14.out
      go_wp2_with (refine rgs_built_want (by rfl) 26 _ rfl _ st_built1 ?_)
      clear d0 d1 d2
      refine (HAW.out _).mono ?_
      rintro e w15 ⟨rfl, hb15⟩
      have Kz15 := hide (KN14.out.keep hb15)
      have B15 := hide (B14.out.trans (hb15.mono B14.out.size))
      clear hb15 KN14 B14
      go_wp2_with fail
      go_ret
      exact ⟨rfl, B15.out⟩
end Go.Proofs.Ytojcjmjohibpaaa.splitBack
