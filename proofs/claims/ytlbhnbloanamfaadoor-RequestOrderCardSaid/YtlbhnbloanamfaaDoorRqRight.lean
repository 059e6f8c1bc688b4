/-
  Layer 17: which fields may stand behind: isOfConnection, areRight, hasStrangeTE; first, parted (written by gen17right.py).
-/
import Derived.Test.YtlbhnbloanamfaaDoorRqFind
import Derived.Test.YtlbhnbloanamfaaDoorFdSlice
namespace Go.Proofs.YtlbhnbloanamfaaDoor
set_option linter.unusedSimpArgs false
set_option linter.unusedVariables false
open Go.RowKit

set_option maxHeartbeats 1600000 in
theorem rq_isOfConnection (n : ByteArray) (w : World) :
    Calls Tryd.prog 54 #[.string n] w fun e w' => e = .returned (.bool (connB n)) ∧ w = w' := by
  obtain ⟨v, hv⟩ : ∃ v, v = connB n := ⟨_, rfl⟩
  rw [← hv]
  have HV := hide hv
  clear hv
  by_cases h0 : n = nConn
  · have e0 : (n.toList == [99, 111, 110, 110, 101, 99, 116, 105, 111, 110]) = true := lit_same h0
    have HT := hide (show connB n = true by unfold connB; rw [decide_eq_true h0]; rfl)
    clear h0
    go_enter Tryd.func54, Tryd.ntmps54
    go_wp2
    go_ret
    exact ⟨by rw [HV.out, HT.out]; rfl, rfl⟩
  have e0 : (n.toList == [99, 111, 110, 110, 101, 99, 116, 105, 111, 110]) = false := lit_not h0
  by_cases h1 : n = nKeep
  · have e1 : (n.toList == [107, 101, 101, 112, 45, 97, 108, 105, 118, 101]) = true := lit_same h1
    have HT := hide (show connB n = true by unfold connB; rw [decide_eq_false h0, decide_eq_true h1]; rfl)
    clear h0 h1
    go_enter Tryd.func54, Tryd.ntmps54
    go_wp2
    go_ret
    exact ⟨by rw [HV.out, HT.out]; rfl, rfl⟩
  have e1 : (n.toList == [107, 101, 101, 112, 45, 97, 108, 105, 118, 101]) = false := lit_not h1
  by_cases h2 : n = nProxy
  · have e2 : (n.toList == [112, 114, 111, 120, 121, 45, 99, 111, 110, 110, 101, 99, 116, 105, 111, 110]) = true := lit_same h2
    have HT := hide (show connB n = true by unfold connB; rw [decide_eq_false h0, decide_eq_false h1, decide_eq_true h2]; rfl)
    clear h0 h1 h2
    go_enter Tryd.func54, Tryd.ntmps54
    go_wp2
    go_ret
    exact ⟨by rw [HV.out, HT.out]; rfl, rfl⟩
  have e2 : (n.toList == [112, 114, 111, 120, 121, 45, 99, 111, 110, 110, 101, 99, 116, 105, 111, 110]) = false := lit_not h2
  by_cases h3 : n = nTrans
  · have e3 : (n.toList == [116, 114, 97, 110, 115, 102, 101, 114, 45, 101, 110, 99, 111, 100, 105, 110, 103]) = true := lit_same h3
    have HT := hide (show connB n = true by unfold connB; rw [decide_eq_false h0, decide_eq_false h1, decide_eq_false h2, decide_eq_true h3]; rfl)
    clear h0 h1 h2 h3
    go_enter Tryd.func54, Tryd.ntmps54
    go_wp2
    go_ret
    exact ⟨by rw [HV.out, HT.out]; rfl, rfl⟩
  have e3 : (n.toList == [116, 114, 97, 110, 115, 102, 101, 114, 45, 101, 110, 99, 111, 100, 105, 110, 103]) = false := lit_not h3
  by_cases h4 : n = nUp
  · have e4 : (n.toList == [117, 112, 103, 114, 97, 100, 101]) = true := lit_same h4
    have HT := hide (show connB n = true by unfold connB; rw [decide_eq_false h0, decide_eq_false h1, decide_eq_false h2, decide_eq_false h3, decide_eq_true h4]; rfl)
    clear h0 h1 h2 h3 h4
    go_enter Tryd.func54, Tryd.ntmps54
    go_wp2
    go_ret
    exact ⟨by rw [HV.out, HT.out]; rfl, rfl⟩
  have e4 : (n.toList == [117, 112, 103, 114, 97, 100, 101]) = false := lit_not h4
  have HT := hide (show connB n = false by unfold connB; rw [decide_eq_false h0, decide_eq_false h1, decide_eq_false h2, decide_eq_false h3, decide_eq_false h4]; rfl)
  clear h0 h1 h2 h3 h4
  go_enter Tryd.func54, Tryd.ntmps54
  go_wp2
  go_ret
  exact ⟨by rw [HV.out, HT.out]; rfl, rfl⟩

set_option maxHeartbeats 1600000 in
theorem rq_areRight1 (f : Fd) (w : World) (h1 : (f.n.size : Int) ≤ 100000) (h2 : (f.v.size : Int) ≤ 100000) :
    Calls Tryd.prog 53 #[.agg #[.string f.n, .string f.v, .bool f.x]] w fun e w' => e = .returned (.bool (!rightF f)) ∧ Below w.heap.size w w' := by
  have HT := hide (fun w => rq_Token f.n (by omega) w)
  have HC := hide (fun w => rq_isOfConnection f.n w)
  have HU := hide (fun w => rq_isValue f.v (by omega) w)
  obtain ⟨v, hv⟩ : ∃ v, v = !rightF f := ⟨_, rfl⟩
  rw [← hv]
  obtain ⟨t, ht⟩ : ∃ t, t = tokB f.n := ⟨_, rfl⟩
  obtain ⟨c, hc⟩ : ∃ c, c = connB f.n := ⟨_, rfl⟩
  obtain ⟨u, hu⟩ : ∃ u, u = valB f.v := ⟨_, rfl⟩
  have HV := hide (show v = !(t && (!c && u)) by rw [hv, ht, hc, hu]; rfl)
  rw [← ht] at HT
  rw [← hc] at HC
  rw [← hu] at HU
  have HK := hide (BlkIs.new w 42 #[.string f.n, .string f.v, .bool f.x])
  have HB := hide (bel1 w (.cells #[.string f.n, .string f.v, .bool f.x] 42))
  clear hv ht hc hu h1 h2
  cases t with
  | false =>
    go_enter Tryd.func53, Tryd.ntmps53
    go_wp2_with fail
    refine (HT.out _).mono ?_
    rintro e w2 ⟨rfl, hb2⟩
    have HB2 := hide (HB.out.trans (hb2.mono HB.out.size))
    clear hb2
    go_wp2
    go_ret
    exact ⟨by rw [HV.out]; rfl, HB2.out⟩
  | true =>
    cases c with
    | true =>
      go_enter Tryd.func53, Tryd.ntmps53
      go_wp2_with fail
      refine (HT.out _).mono ?_
      rintro e w2 ⟨rfl, hb2⟩
      have HK2 := hide (HK.out.keep hb2)
      have HB2 := hide (HB.out.trans (hb2.mono HB.out.size))
      have k0 := HK2.out.cell 0
      simp only [List.getElem?_toArray, List.getElem?_cons_zero] at k0
      clear hb2
      go_wp2_with (go_at_call 54; refine (HC.out _).mono ?_; rintro e w3 ⟨rfl, rfl⟩)
      go_ret
      exact ⟨by rw [HV.out]; rfl, HB2.out⟩
    | false =>
      go_enter Tryd.func53, Tryd.ntmps53
      go_wp2_with fail
      refine (HT.out _).mono ?_
      rintro e w2 ⟨rfl, hb2⟩
      have HK2 := hide (HK.out.keep hb2)
      have HB2 := hide (HB.out.trans (hb2.mono HB.out.size))
      have k0 := HK2.out.cell 0
      have k1 := HK2.out.cell 1
      simp only [List.getElem?_toArray, List.getElem?_cons_zero, List.getElem?_cons_succ] at k0 k1
      clear hb2
      go_wp2_with (first
        | (go_at_call 54; refine (HC.out _).mono ?_; rintro e w3 ⟨rfl, rfl⟩)
        | (go_at_call 50; refine (HU.out _).mono ?_; rintro e w3 ⟨rfl, hb3⟩; have HB3 := hide (HB2.out.trans (hb3.mono HB2.out.size)); clear hb3))
      go_ret
      exact ⟨by rw [HV.out]; rfl, HB3.out⟩
theorem find_right : FindIs 53 #[] (fun f => !rightF f) (fun _ => True) where
  ent := rq_enters Tryd.func53 (by kernel_rfl) (by kernel_rfl)
  step := fun f w h1 h2 _ => rq_areRight1 f w h1 h2
  keep := fun _ _ _ _ => trivial

theorem right_any (l : List Fd) : rightL l = !l.any (fun f => !rightF f) := by
  unfold rightL
  induction l with
  | nil => rfl
  | cons f l ih => rw [List.all_cons, List.any_cons, ih, Bool.not_or, Bool.not_not]

theorem rq_areRight (A : Option Addr) (n c : Nat) (l : List Fd) (w : World) (hfl : FL w A n c l) (hm : Mod l) :
    Calls Tryd.prog 29 #[.slice A n c] w fun e w' => e = .returned (.bool (rightL l)) ∧ Below w.heap.size w w' := by
  have HC := hide (rq_ContainsFunc A n c l _ #[] _ _ w hfl hm find_right trivial)
  obtain ⟨v, hv⟩ : ∃ v, v = l.any (fun f => !rightF f) := ⟨_, rfl⟩
  rw [← hv] at HC
  have HV := hide (show rightL l = !v by rw [hv]; exact right_any l)
  clear hv hfl hm
  go_enter Tryd.func29, Tryd.ntmps29
  go_wp2_with fail
  refine HC.out.mono ?_
  rintro e w2 ⟨rfl, hb⟩
  have HB := hide hb
  clear hb
  go_wp2
  go_ret
  exact ⟨by rw [HV.out]; rfl, HB.out⟩
theorem rq_hasTE (A : Option Addr) (n c : Nat) (l : List Fd) (w : World) (hfl : FL w A n c l) (hm : Mod l) :
    Calls Tryd.prog 30 #[.slice A n c] w fun e w' => e = .returned (.bool (teB l)) ∧ Below w.heap.size w w' := by
  have HC := hide (rq_ContainsFunc A n c l _ #[] _ _ w hfl hm find_te trivial)
  obtain ⟨v, hv⟩ : ∃ v, v = teB l := ⟨_, rfl⟩
  rw [show l.any teF = v from hv.symm] at HC
  rw [← hv]
  clear hv hfl hm
  go_enter Tryd.func30, Tryd.ntmps30
  go_wp2_with fail
  refine HC.out.mono ?_
  rintro e w2 ⟨rfl, hb⟩
  have HB := hide hb
  clear hb
  go_wp2
  go_ret
  exact ⟨rfl, HB.out⟩

/-! ## first, parted -/
theorem fst_none {nm : ByteArray} {l : List Fd} (h : ∀ f ∈ l, isN nm f = false) : fst' nm l = bNil := by
  unfold fst' vals
  rw [List.filter_eq_nil_iff.2 (fun f hf => by rw [h f hf]; simp)]
  rfl
theorem fst_some {nm : ByteArray} : ∀ {l : List Fd} {i : Nat} {f : Fd}, l[i]? = some f → isN nm f = true → (∀ (j : Nat) g, j < i → l[j]? = some g → isN nm g = false) → fst' nm l = f.v
  | [], i, f, h, _, _ => by simp at h
  | g :: l, 0, f, h, hp, _ => by
    simp at h
    subst h
    unfold fst' vals
    rw [List.filter_cons_of_pos hp]
    rfl
  | g :: l, i + 1, f, h, hp, hn => by
    have ih := fst_some (l := l) (i := i) (f := f) (by simpa using h) hp (fun j x hj hx => hn (j + 1) x (by omega) (by simpa using hx))
    have h0 := hn 0 g (by omega) rfl
    unfold fst' vals at ih ⊢
    rw [List.filter_cons_of_neg (by rw [h0]; simp)]
    exact ih

set_option maxRecDepth 100000 in
set_option maxHeartbeats 1600000 in
theorem rq_first (A : Option Addr) (n c : Nat) (l : List Fd) (nm : ByteArray) (w : World) (hfl : FL w A n c l) (hm : Mod l) :
    Calls Tryd.prog 26 #[.slice A n c, .string nm] w fun e w' => e = .returned (.string (fst' nm l)) ∧ Below w.heap.size w w' := by
  have HB0 := hide (bel1 w (.cells #[.string nm] 9))
  have HFL := hide (hfl.keep HB0.out)
  have HC := hide (rq_IndexFunc A n c l _ #[.pointer (some ⟨w.heap.size, 0, none⟩)] _ _ _ HFL.out hm (find_first nm w.heap.size) (BlkIs.new w 9 #[.string nm]))
  have hn : (n : Int) ≤ 1000 := by have := hm.1; have := hfl.len; omega
  clear hfl hm
  go_enter Tryd.func26, Tryd.ntmps26
  go_wp2_with fail
  refine HC.out.mono ?_
  rintro e w2 ⟨r, rfl, hr, hb⟩
  have HB := hide (HB0.out.trans (hb.mono HB0.out.size))
  have HF2 := hide (HFL.out.keep hb)
  clear hb HC
  rcases hr with ⟨rfl, hr⟩ | ⟨i, f, rfl, h1, h2, h3⟩
  · have HT := hide (fst_none hr)
    clear hr
    go_wp2
    go_ret
    exact ⟨by rw [HT.out]; rfl, HB.out⟩
  · have HT := hide (fst_some h1 h2 h3)
    obtain ⟨b, off, rfl, hbl, c0, c1, c2⟩ := HF2.out.at_ i f h1
    have hlt : i < n := by
      have := (List.getElem?_eq_some_iff.1 h1).1
      rw [HF2.out.len] at this
      exact this
    have hlt' : (i : Int) < (n : Int) := by omega
    clear h1 h2 h3
    go_wp2
    go_ret
    exact ⟨by rw [HT.out]; rfl, HB.out⟩
/-- What parted answers. -/
def GivesParted (w : World) (l : List Fd) (e : Ending) (w' : World) : Prop := ∃ (A B : Option Addr) (n m c d : Nat), e = .returned (.tuple #[.slice A n c, .slice B m d]) ∧ FL w' A n c (hdL l) ∧ FL w' B m d (tlL l) ∧ Below w.heap.size w w'
theorem tw_all {p : Fd → Bool} : ∀ {l : List Fd}, (∀ f ∈ l, p f = true) → l.takeWhile p = l
  | [], _ => rfl
  | f :: l, h => by
    rw [List.takeWhile_cons, h f List.mem_cons_self, if_pos rfl, tw_all (fun g hg => h g (List.mem_cons_of_mem _ hg))]
theorem parted_idx {l : List Fd} {r : Int} (h : IdxIs (fun f => !psF f) l r) : (r = -1 ∧ (l.takeWhile psF).length = l.length) ∨ r = (l.takeWhile psF).length ∧ (l.takeWhile psF).length < l.length := by
  rcases h with ⟨rfl, h⟩ | ⟨i, f, rfl, h1, h2, h3⟩
  · refine .inl ⟨rfl, ?_⟩
    rw [tw_all (fun f hf => by simpa using h f hf)]
  · have hi : i < l.length := (List.getElem?_eq_some_iff.1 h1).1
    have key : ∀ (l : List Fd) (i : Nat) (f : Fd), l[i]? = some f → psF f = false → (∀ (j : Nat) g, j < i → l[j]? = some g → psF g = true) → (l.takeWhile psF).length = i := by
      intro l
      induction l with
      | nil => intro i f h; simp at h
      | cons g l ih =>
        intro i f h hp hn
        cases i with
        | zero =>
          simp at h
          subst h
          rw [List.takeWhile_cons, hp]
          rfl
        | succ i =>
          have h0 := hn 0 g (by omega) rfl
          rw [List.takeWhile_cons, h0, if_pos rfl, List.length_cons, ih i f (by simpa using h) hp (fun j x hj hx => hn (j + 1) x (by omega) (by simpa using hx))]
    have := key l i f h1 (by simpa using h2) (fun j g hj hg => by simpa using h3 j g hj hg)
    exact .inr ⟨by rw [this], by omega⟩

set_option maxRecDepth 100000 in
set_option maxHeartbeats 1600000 in
theorem rq_parted (A : Option Addr) (n c : Nat) (l : List Fd) (w : World) (hfl : FL w A n c l) (hm : Mod l) :
    Calls Tryd.prog 23 #[.slice A n c] w (GivesParted w l) := by
  have HFL := hide hfl
  have HC := hide (rq_IndexFunc A n c l _ #[] _ _ w hfl hm find_parted trivial)
  have hn : (n : Int) ≤ 1000 := by have := hm.1; have := hfl.len; omega
  clear hfl hm
  go_enter Tryd.func23, Tryd.ntmps23
  go_wp2_with fail
  refine HC.out.mono ?_
  rintro e w2 ⟨r, rfl, hr, hb⟩
  have HB := hide hb
  have HF2 := hide (HFL.out.keep hb)
  have hk := parted_idx hr
  obtain ⟨k, hkk⟩ : ∃ k, k = (l.takeWhile psF).length := ⟨_, rfl⟩
  rw [← hkk, HF2.out.len] at hk
  have HK := hide hkk
  have hle : k ≤ n := by rw [← HF2.out.len, hkk]; exact (List.takeWhile_prefix _).length_le
  obtain ⟨hs1, hf1⟩ := fl_head HF2.out k hle
  obtain ⟨Q, d, hs2, hf2⟩ := fl_tail HF2.out k hle
  have HF1 := hide hf1
  have HG := hide hf2
  have hko : (k : Int) ≤ (n : Int) := by omega
  have hnc : n ≤ c := HF2.out.le
  clear hb HC hr hkk hf1 hf2
  rcases hk with ⟨rfl, rfl⟩ | ⟨rfl, hlt⟩
  all_goals
    go_wp2_with fail
    go_quiet (fail)
    go_wp2
    go_ret2
    refine ⟨A, Q, _, _, c, d, rfl, ?_, ?_, below_drewN HB.out _⟩
    · unfold hdL; rw [tw_take, ← HK.out]; exact HF1.out.keep (below_drewN (Below.refl _ _) _)
    · unfold tlL; rw [dw_drop, ← HK.out]; have hx := HG.out.keep (below_drewN (Below.refl w2.heap.size w2) nq); first | exact hx | simpa using hx
end Go.Proofs.YtlbhnbloanamfaaDoor
