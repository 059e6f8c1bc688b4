/-
  Layer 4: whether two lists, two tables are one: the program's and the document's.
-/
import Derived.Test.YtchndegcnjejiaaDyRef
import Derived.Laws.StructEq
namespace Go.Proofs.Ytchndegcnjejiaa
open Go.RowKit

/-- How two fields part, in the walk's words. -/
def FdPart (f g : Fd) : Prop := (f.n.toList == g.n.toList) = false ∨ ((f.n.toList == g.n.toList) = true ∧ (f.v.toList == g.v.toList) = false) ∨ ((f.n.toList == g.n.toList) = true ∧ (f.v.toList == g.v.toList) = true ∧ (f.x == g.x) = false)
theorem fd_part {f g : Fd} (h : f ≠ g) : FdPart f g := by
  by_cases h1 : f.n = g.n
  · by_cases h2 : f.v = g.v
    · refine .inr (.inr ⟨str_same h1, str_same h2, ?_⟩)
      rw [beq_eq_false_iff_ne]
      intro h3
      obtain ⟨a, b, c⟩ := f
      obtain ⟨a', b', c'⟩ := g
      simp only at h1 h2 h3
      subst h1 h2 h3
      exact h rfl
    · exact .inr (.inl ⟨str_same h1, str_not h2⟩)
  · exact .inl (str_not h1)
theorem take_same {l l' : List Fd} {i : Nat} {f f' : Fd} (h : l.take i = l'.take i) (hf : l[i]? = some f) (hf' : l'[i]? = some f') (e : f = f') : l.take (i + 1) = l'.take (i + 1) := by
  rw [List.take_add_one, List.take_add_one, h, hf, hf', e]
theorem take_not {l l' : List Fd} {i : Nat} {f f' : Fd} (hf : l[i]? = some f) (hf' : l'[i]? = some f') (e : f ≠ f') : l ≠ l' := by
  rintro rfl
  rw [hf] at hf'
  exact e (Option.some.inj hf')

set_option maxRecDepth 100000 in
set_option maxHeartbeats 1600000 in
theorem sl_Equal (A A' : Option Addr) (n n' c c' : Nat) (l l' : List Fd) (w : World) (hfl : FL w A n c l) (hfl' : FL w A' n' c' l') (hn : (n : Int) ≤ 1099511627776) (hn' : (n' : Int) ≤ 1099511627776) :
    Calls Try.prog 30 #[.slice A n c, .slice A' n' c'] w fun e w' => e = .returned (.bool (decide (l = l'))) ∧ Below w.heap.size w w' := by
  obtain ⟨C, hC⟩ : ∃ C, C = decide (l = l') := ⟨_, rfl⟩
  rw [← hC]
  have HCK := hide hC
  have HFL := hide hfl
  have HFL' := hide hfl'
  clear hC hfl hfl'
  by_cases hne : n = n'
  · subst hne
    have hnn : ((n : Int) == (n : Int)) = true := by simp
    go_enter Try.func30, Try.ntmps30
    go_wp2_with fail
    go_loopw [5, 13] (fun _ k wr => ∃ i : Nat, i ≤ n ∧ k = .int .i64 (i : Int) ∧ l.take i = l'.take i ∧ Below w.heap.size w wr) (fun _ k _ => n - (intOf k).toNat)
    case atStart => exact ⟨0, by omega, rfl, rfl, Below.refl _ _⟩
    case round =>
      obtain ⟨i, hi, rfl, hno, hb⟩ := hrel
      have HNO := hide hno
      have HB := hide hb
      clear hno hb
      by_cases hlt : i < n
      · have hlt' : (i : Int) < (n : Int) := by omega
        obtain ⟨f, b, off, hf, rfl, hbl, c0, c1, c2⟩ := (HFL.out.keep HB.out).round hlt
        obtain ⟨f', b', off', hf', rfl, hbl', c0', c1', c2'⟩ := (HFL'.out.keep HB.out).round hlt
        have HF := hide hf
        have HF' := hide hf'
        clear hf hf'
        by_cases hff : f = f'
        · subst hff
          have HT := hide (take_same HNO.out HF.out HF'.out rfl)
          go_wp2_with fail
          go_quiet (fail)
          go_wp2
          go_roundw
          case rel => exact ⟨i + 1, by omega, by go_num, HT.out, below_drewN HB.out _⟩
          case measure => simp [intOf]; omega
        · have HT := hide (take_not HF.out HF'.out hff)
          obtain h1 | ⟨h1, h2⟩ | ⟨h1, h2, h3⟩ := fd_part hff
          all_goals
            clear hff
            go_wp2_with fail
            go_quiet (fail)
            go_wp2
            go_ret
            exact ⟨by rw [HCK.out, decide_eq_false HT.out]; rfl, below_drewN HB.out _⟩
      · have hge : ¬ (i : Int) < (n : Int) := by omega
        obtain rfl : i = n := by omega
        go_wp2
        go_ret
        refine ⟨?_, HB.out⟩
        have h1 := HNO.out
        rw [← HFL.out.len, List.take_length, HFL.out.len, ← HFL'.out.len, List.take_length] at h1
        rw [HCK.out, h1]
        simp
  · have hnn : ((n : Int) == (n' : Int)) = false := by simp; omega
    go_enter Try.func30, Try.ntmps30
    go_wp2
    go_ret
    refine ⟨?_, Below.refl _ _⟩
    rw [HCK.out, decide_eq_false (fun e => hne (by rw [← HFL.out.len, ← HFL'.out.len, e]))]
    rfl
set_option maxRecDepth 100000 in
set_option maxHeartbeats 1600000 in
theorem rf_SameFields (A A' : Option Addr) (n n' c c' : Nat) (l l' : List Fd) (w : World) (hfl : FL w A n c l) (hfl' : FL w A' n' c' l') (hn : (n : Int) ≤ 1099511627776) (hn' : (n' : Int) ≤ 1099511627776) :
    Calls Try.prog 21 #[.slice A n c, .slice A' n' c'] w fun e w' => e = .returned (.bool (decide (l = l'))) ∧ Below w.heap.size w w' := by
  obtain ⟨C, hC⟩ : ∃ C, C = decide (l = l') := ⟨_, rfl⟩
  rw [← hC]
  have HCK := hide hC
  have HFL := hide hfl
  have HFL' := hide hfl'
  clear hC hfl hfl'
  by_cases hne : n = n'
  · subst hne
    have hnn : ((n : Int) == (n : Int)) = true := by simp
    go_enter Try.func21, Try.ntmps21
    go_wp2_with fail
    go_loopw [5] (fun k wr => ∃ i : Nat, i ≤ n ∧ k = .int .i64 (i : Int) ∧ l.take i = l'.take i ∧ Below w.heap.size w wr) (fun k _ => n - (intOf k).toNat)
    case atStart => exact ⟨0, by omega, rfl, rfl, Below.refl _ _⟩
    case round =>
      obtain ⟨i, hi, rfl, hno, hb⟩ := hrel
      have HNO := hide hno
      have HB := hide hb
      clear hno hb
      by_cases hlt : i < n
      · have hlt' : (i : Int) < (n : Int) := by omega
        obtain ⟨f, b, off, hf, rfl, hbl, c0, c1, c2⟩ := (HFL.out.keep HB.out).round hlt
        obtain ⟨f', b', off', hf', rfl, hbl', c0', c1', c2'⟩ := (HFL'.out.keep HB.out).round hlt
        have HF := hide hf
        have HF' := hide hf'
        clear hf hf'
        by_cases hff : f = f'
        · subst hff
          have HT := hide (take_same HNO.out HF.out HF'.out rfl)
          go_wp2_with fail
          go_quiet (fail)
          go_wp2
          go_roundw
          case rel => exact ⟨i + 1, by omega, by go_num, HT.out, below_drewN HB.out _⟩
          case measure => simp [intOf]; omega
        · have HT := hide (take_not HF.out HF'.out hff)
          obtain h1 | ⟨h1, h2⟩ | ⟨h1, h2, h3⟩ := fd_part hff
          all_goals
            clear hff
            go_wp2_with fail
            go_quiet (fail)
            go_wp2
            go_ret
            exact ⟨by rw [HCK.out, decide_eq_false HT.out]; rfl, below_drewN HB.out _⟩
      · have hge : ¬ (i : Int) < (n : Int) := by omega
        obtain rfl : i = n := by omega
        go_wp2
        go_ret
        refine ⟨?_, HB.out⟩
        have h1 := HNO.out
        rw [← HFL.out.len, List.take_length, HFL.out.len, ← HFL'.out.len, List.take_length] at h1
        rw [HCK.out, h1]
        simp
  · have hnn : ((n : Int) == (n' : Int)) = false := by simp; omega
    go_enter Try.func21, Try.ntmps21
    go_wp2
    go_ret
    refine ⟨?_, Below.refl _ _⟩
    rw [HCK.out, decide_eq_false (fun e => hne (by rw [← HFL.out.len, ← HFL'.out.len, e]))]
    rfl

/-- Two tables: the second one's Same by the given equality of lists. -/
def sameB (m : Int) (l : List Fd) (m' : Int) (l' : List Fd) : Bool := decide (m = m') && decide (l = l')
theorem sameB_no {m m' : Int} {l l' : List Fd} (h : m ≠ m') : sameB m l m' l' = false := by simp [sameB, h]
theorem sameB_yes {m : Int} {l l' : List Fd} : sameB m l m l' = decide (l = l') := by simp [sameB]

set_option maxRecDepth 100000 in
set_option maxHeartbeats 1600000 in
theorem dy_Same (m m' : Int) (A A' : Option Addr) (n n' c c' : Nat) (l l' : List Fd) (w : World) (hfl : FL w A n c l) (hfl' : FL w A' n' c' l') (hn : (n : Int) ≤ 1099511627776) (hn' : (n' : Int) ≤ 1099511627776) :
    Calls Try.prog 16 #[.agg #[.int .i64 m, .slice A n c], .agg #[.int .i64 m', .slice A' n' c']] w fun e w' => e = .returned (.bool (sameB m l m' l')) ∧ Below w.heap.size w w' := by
  have HFL := hide ((hfl.alloc (.cells #[.int .i64 m, .slice A n c] 27)).alloc (.cells #[.int .i64 m', .slice A' n' c'] 27))
  have HFL' := hide ((hfl'.alloc (.cells #[.int .i64 m, .slice A n c] 27)).alloc (.cells #[.int .i64 m', .slice A' n' c'] 27))
  have B0 := hide (((Below.refl w.heap.size w).alloc (Nat.le_refl _) (.cells #[.int .i64 m, .slice A n c] 27)).alloc (by simp) (.cells #[.int .i64 m', .slice A' n' c'] 27))
  clear hfl hfl'
  by_cases hm : m = m'
  · subst hm
    have hmm : (m == m) = true := by simp
    rw [sameB_yes]
    have HC := hide (sl_Equal A A' n n' c c' l l' _ HFL.out HFL'.out hn hn')
    obtain ⟨C, hC⟩ : ∃ C, C = decide (l = l') := ⟨_, rfl⟩
    rw [← hC] at HC ⊢
    clear hC
    go_enter Try.func16, Try.ntmps16
    go_wp2_with (go_at_call 30; refine HC.out.mono ?_; rintro e w2 ⟨rfl, hb2⟩; have HB2 := hide hb2; clear hb2)
    go_ret
    exact ⟨rfl, B0.out.trans (HB2.out.mono B0.out.size)⟩
  · have hmm : (m == m') = false := by simp [hm]
    have HS := hide (sameB_no (l := l) (l' := l') hm)
    obtain ⟨C, hC⟩ : ∃ C, C = sameB m l m' l' := ⟨_, rfl⟩
    rw [← hC] at HS ⊢
    clear hC hm
    go_enter Try.func16, Try.ntmps16
    go_wp2
    go_ret
    exact ⟨by rw [HS.out]; rfl, B0.out⟩

set_option maxRecDepth 100000 in
set_option maxHeartbeats 1600000 in
theorem rf_Same (m m' : Int) (A A' : Option Addr) (n n' c c' : Nat) (l l' : List Fd) (w : World) (hfl : FL w A n c l) (hfl' : FL w A' n' c' l') (hn : (n : Int) ≤ 1099511627776) (hn' : (n' : Int) ≤ 1099511627776) :
    Calls Try.prog 17 #[.agg #[.int .i64 m, .slice A n c], .agg #[.int .i64 m', .slice A' n' c']] w fun e w' => e = .returned (.bool (sameB m l m' l')) ∧ Below w.heap.size w w' := by
  have HFL := hide ((hfl.alloc (.cells #[.int .i64 m, .slice A n c] 24)).alloc (.cells #[.int .i64 m', .slice A' n' c'] 24))
  have HFL' := hide ((hfl'.alloc (.cells #[.int .i64 m, .slice A n c] 24)).alloc (.cells #[.int .i64 m', .slice A' n' c'] 24))
  have B0 := hide (((Below.refl w.heap.size w).alloc (Nat.le_refl _) (.cells #[.int .i64 m, .slice A n c] 24)).alloc (by simp) (.cells #[.int .i64 m', .slice A' n' c'] 24))
  clear hfl hfl'
  by_cases hm : m = m'
  · subst hm
    have hmm : (m == m) = true := by simp
    rw [sameB_yes]
    have HC := hide (rf_SameFields A A' n n' c c' l l' _ HFL.out HFL'.out hn hn')
    obtain ⟨C, hC⟩ : ∃ C, C = decide (l = l') := ⟨_, rfl⟩
    rw [← hC] at HC ⊢
    clear hC
    go_enter Try.func17, Try.ntmps17
    go_wp2_with (go_at_call 21; refine HC.out.mono ?_; rintro e w2 ⟨rfl, hb2⟩; have HB2 := hide hb2; clear hb2)
    go_ret
    exact ⟨rfl, B0.out.trans (HB2.out.mono B0.out.size)⟩
  · have hmm : (m == m') = false := by simp [hm]
    have HS := hide (sameB_no (l := l) (l' := l') hm)
    obtain ⟨C, hC⟩ : ∃ C, C = sameB m l m' l' := ⟨_, rfl⟩
    rw [← hC] at HS ⊢
    clear hC hm
    go_enter Try.func17, Try.ntmps17
    go_wp2
    go_ret
    exact ⟨by rw [HS.out]; rfl, B0.out⟩

/-- Few fields, and small ones. -/
def smallB (f : Fd) : Bool := decide ((f.n.size : Int) ≤ 200) && decide ((f.v.size : Int) ≤ 200)
def lightB (l : List Fd) : Bool := decide ((l.length : Int) ≤ 30) && l.all smallB
def LightTo (l : List Fd) (k : Nat) : Prop := ∀ j f, j < k → l[j]? = some f → smallB f = true
theorem LightTo.zero (l : List Fd) : LightTo l 0 := fun _ _ h => absurd h (by omega)
theorem LightTo.succ {l : List Fd} {k : Nat} (h : LightTo l k) {f : Fd} (hf : l[k]? = some f) (hx : smallB f = true) : LightTo l (k + 1) := fun j g hj hg => by
  by_cases e : j = k
  · subst e; rw [hf] at hg; injection hg with hg; subst hg; exact hx
  · exact h j g (by omega) hg
theorem light_yes {l : List Fd} (hn : (l.length : Int) ≤ 30) (h : LightTo l l.length) : lightB l = true := by
  unfold lightB
  rw [Bool.and_eq_true, decide_eq_true_eq, List.all_eq_true]
  refine ⟨hn, fun f hf => ?_⟩
  obtain ⟨i, hi, rfl⟩ := List.getElem_of_mem hf
  exact h i _ hi (List.getElem?_eq_getElem hi)
theorem light_no {l : List Fd} {k : Nat} {f : Fd} (hf : l[k]? = some f) (hx : smallB f = false) : lightB l = false := by
  unfold lightB
  rw [Bool.and_eq_false_iff]
  refine .inr ?_
  rw [List.all_eq_false]
  exact ⟨f, List.mem_of_getElem? hf, by rw [hx]; simp⟩
theorem light_long {l : List Fd} (hn : ¬ (l.length : Int) ≤ 30) : lightB l = false := by simp [lightB]; omega
theorem light_szs {l : List Fd} (h : lightB l = true) : (l.length : Int) ≤ 30 ∧ (szs l : Int) ≤ 12960 ∧ ∀ f ∈ l, (szF f : Int) ≤ 432 := by
  unfold lightB at h
  rw [Bool.and_eq_true, decide_eq_true_eq, List.all_eq_true] at h
  obtain ⟨hn, ha⟩ := h
  have h1 : ∀ f ∈ l, (szF f : Int) ≤ 432 := fun f hf => by
    have := ha f hf
    simp only [smallB, Bool.and_eq_true, decide_eq_true_eq] at this
    unfold szF
    omega
  refine ⟨hn, ?_, h1⟩
  have key : ∀ l : List Fd, (∀ f ∈ l, (szF f : Int) ≤ 432) → (szs l : Int) ≤ 432 * (l.length : Int) := by
    intro l
    induction l with
    | nil => intro _; simp [szs]
    | cons f l ih =>
      intro hl
      have h2 := ih (fun g hg => hl g (List.mem_cons_of_mem _ hg))
      have h3 := hl f List.mem_cons_self
      simp only [szs, List.length_cons]
      omega
  have := key l h1
  omega

set_option maxRecDepth 100000 in
set_option maxHeartbeats 1600000 in
theorem rf_Light (A : Option Addr) (n c : Nat) (l : List Fd) (w : World) (hfl : FL w A n c l) :
    Calls Try.prog 6 #[.slice A n c] w fun e w' => e = .returned (.bool (lightB l)) ∧ w = w' := by
  obtain ⟨C, hC⟩ : ∃ C, C = lightB l := ⟨_, rfl⟩
  rw [← hC]
  have HCK := hide hC
  have HFL := hide hfl
  clear hC hfl
  by_cases hn : (n : Int) ≤ 30
  · have hn' : ¬ (30 : Int) < (n : Int) := by omega
    go_enter Try.func6, Try.ntmps6
    go_wp2_with fail
    go_loop [3] (fun k => ∃ i : Nat, i ≤ n ∧ k = .int .i64 (i : Int) ∧ LightTo l i) (fun k => n - (intOf k).toNat)
    case atStart => exact ⟨0, by omega, rfl, .zero l⟩
    case round =>
      obtain ⟨i, hi, rfl, hno⟩ := hrel
      have HNO := hide hno
      clear hno
      by_cases hlt : i < n
      · have hlt' : (i : Int) < (n : Int) := by omega
        obtain ⟨f, b, off, hf, rfl, hbl, c0, c1, _⟩ := HFL.out.round hlt
        have HF := hide hf
        clear hf
        by_cases h1 : (f.n.size : Int) ≤ 200
        · have h1' : ¬ (200 : Int) < (f.n.size : Int) := by omega
          by_cases h2 : (f.v.size : Int) ≤ 200
          · have h2' : ¬ (200 : Int) < (f.v.size : Int) := by omega
            have HT := hide (HNO.out.succ HF.out (by simp [smallB, h1, h2]))
            go_wp2
            go_round
            case rel => exact ⟨i + 1, by omega, by go_num, HT.out⟩
            case measure => simp [intOf]; omega
          · have h2' : (200 : Int) < (f.v.size : Int) := by omega
            have HT := hide (light_no HF.out (by simp [smallB, h1]; omega))
            go_wp2
            go_ret
            exact ⟨by rw [HCK.out, HT.out]; rfl, rfl⟩
        · have h1' : (200 : Int) < (f.n.size : Int) := by omega
          have HT := hide (light_no HF.out (by simp [smallB]; omega))
          go_wp2
          go_ret
          exact ⟨by rw [HCK.out, HT.out]; rfl, rfl⟩
      · have hge : ¬ (i : Int) < (n : Int) := by omega
        obtain rfl : i = n := by omega
        have HT := hide (light_yes (l := l) (by rw [HFL.out.len]; exact hn) (by rw [HFL.out.len]; exact HNO.out))
        go_wp2
        go_ret
        exact ⟨by rw [HCK.out, HT.out]; rfl, rfl⟩
  · have hn' : (30 : Int) < (n : Int) := by omega
    have HT := hide (light_long (l := l) (by rw [HFL.out.len]; exact hn))
    go_enter Try.func6, Try.ntmps6
    go_wp2
    go_ret
    exact ⟨by rw [HCK.out, HT.out]; rfl, rfl⟩
end Go.Proofs.Ytchndegcnjejiaa
