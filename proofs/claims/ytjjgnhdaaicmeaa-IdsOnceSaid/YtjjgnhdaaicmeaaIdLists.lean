/-
  Layer 15: contracts on lists of numbers: In, began, SameInts (the document's), slices.Equal, slices.Clone, behind.
-/
import Derived.Test.YtjjgnhdaaicmeaaIdNum
namespace Go.Proofs.Ytjjgnhdaaicmeaa
set_option linter.unusedSimpArgs false
set_option linter.unusedVariables false
open Go.RowKit

theorem mem_no {l : List Int} {x : Int} (h : ∀ j y, j < l.length → l[j]? = some y → ¬ y = x) : decide (x ∈ l) = false := by
  simp only [decide_eq_false_iff_not]
  intro hm
  obtain ⟨j, hj, he⟩ := List.getElem_of_mem hm
  exact h j _ hj (List.getElem?_eq_getElem hj) he
theorem mem_yes {l : List Int} {x : Int} {i : Nat} (h : l[i]? = some x) : decide (x ∈ l) = true := by
  simpa using List.mem_of_getElem? h

set_option maxRecDepth 100000 in
set_option maxHeartbeats 1600000 in
theorem rd_In (A : Option Addr) (n c : Nat) (l : List Int) (x : Int) (w : World) (hl : NL .i64 w A n c l) (hn : (n : Int) ≤ 1000000) :
    Calls Try.prog 19 #[.slice A n c, .int .i64 x] w fun e w' => e = .returned (.bool (decide (x ∈ l))) ∧ w = w' := by
  have HL := hide hl
  have HNO := hide (fun h => mem_no (l := l) (x := x) h)
  have HYE := hide (fun i h => mem_yes (l := l) (x := x) (i := i) h)
  generalize decide (x ∈ l) = ob at *
  clear hl
  go_enter Try.func19, Try.ntmps19
  go_wp2_with fail
  go_loop [5] (fun k => ∃ i : Nat, i ≤ n ∧ k = .int .i64 (i : Int) ∧ Hid (∀ j y, j < i → l[j]? = some y → ¬ y = x)) (fun k => n - (intOf k).toNat)
  case atStart => exact ⟨0, by omega, rfl, fun j y hj => by omega⟩
  case round =>
    obtain ⟨i, hi, rfl, HO⟩ := hrel
    by_cases hlt : i < n
    · have hlt' : (i : Int) < (n : Int) := by omega
      obtain ⟨y, b, off, hx, rfl, hbl, c0, -⟩ := HL.out.round hlt
      have HX := hide hx
      clear hx
      by_cases hyx : y = x
      · subst hyx
        have HE := hide (HYE.out i HX.out)
        go_wp2
        go_ret
        exact ⟨by rw [HE.out]; rfl, rfl⟩
      · go_wp2
        go_round
        case rel => exact ⟨i + 1, by omega, by go_num, fun j z hj hz => by
          by_cases e : j = i
          · subst e
            rw [HX.out] at hz
            injection hz with hz
            rw [← hz]; exact hyx
          · exact HO.out j z (by omega) hz⟩
        case measure => simp [intOf]; omega
    · have hge : ¬ (i : Int) < (n : Int) := by omega
      obtain rfl : i = n := by omega
      have HE := hide (HNO.out (fun j y hj hy => HO.out j y (by rw [HL.out.len] at hj; exact hj) hy))
      go_wp2
      go_ret
      exact ⟨by rw [HE.out]; rfl, rfl⟩

def begunB (l : List Int) (m : Int) : Bool := l.all fun n => oddB n && decide (n ≤ m)
theorem begun_no {l : List Int} {m x : Int} {i : Nat} (h : l[i]? = some x) (h2 : oddB x = false ∨ m < x) : begunB l m = false := by
  rw [begunB, List.all_eq_false]
  refine ⟨x, List.mem_of_getElem? h, ?_⟩
  rcases h2 with e | e
  · simp [e]
  · simp; intro _; exact e
theorem begun_yes {l : List Int} {m : Int} (h : ∀ j y, j < l.length → l[j]? = some y → oddB y = true ∧ y ≤ m) : begunB l m = true := by
  rw [begunB, List.all_eq_true]
  intro x hx
  obtain ⟨j, hj, rfl⟩ := List.getElem_of_mem hx
  have := h j _ hj (List.getElem?_eq_getElem hj)
  simp [this.1, this.2]

set_option maxRecDepth 100000 in
set_option maxHeartbeats 1600000 in
theorem rd_began (A : Option Addr) (n c : Nat) (l : List Int) (m : Int) (w : World) (hl : NL .i64 w A n c l) (hn : (n : Int) ≤ 1000000) :
    Calls Try.prog 23 #[.slice A n c, .int .i64 m] w fun e w' => e = .returned (.bool (begunB l m)) ∧ w = w' := by
  have HL := hide hl
  have HNO := hide (fun i x h h2 => begun_no (l := l) (m := m) (x := x) (i := i) h h2)
  have HYE := hide (fun h => begun_yes (l := l) (m := m) h)
  generalize begunB l m = ob at *
  clear hl
  go_enter Try.func23, Try.ntmps23
  go_wp2_with fail
  go_loop [5] (fun k => ∃ i : Nat, i ≤ n ∧ k = .int .i64 (i : Int) ∧ Hid (∀ j y, j < i → l[j]? = some y → oddB y = true ∧ y ≤ m)) (fun k => n - (intOf k).toNat)
  case atStart => exact ⟨0, by omega, rfl, fun j y hj => by omega⟩
  case round =>
    obtain ⟨i, hi, rfl, HO⟩ := hrel
    by_cases hlt : i < n
    · have hlt' : (i : Int) < (n : Int) := by omega
      obtain ⟨y, b, off, hx, rfl, hbl, c0, -⟩ := HL.out.round hlt
      have HX := hide hx
      have HC := hide (fun w => rd_odd y w)
      clear hx
      cases ho : oddB y with
      | false =>
        have HE := hide (HNO.out i y HX.out (.inl ho))
        rw [ho] at HC
        clear ho
        go_wp2_with (go_at_call 18; refine (HC.out _).mono ?_; rintro e w2 ⟨rfl, rfl⟩)
        go_ret
        exact ⟨by rw [HE.out]; rfl, rfl⟩
      | true =>
        rw [ho] at HC
        have HOD := hide ho
        clear ho
        by_cases hyx : m < y
        · have HE := hide (HNO.out i y HX.out (.inr hyx))
          go_wp2_with (go_at_call 18; refine (HC.out _).mono ?_; rintro e w2 ⟨rfl, rfl⟩)
          go_ret
          exact ⟨by rw [HE.out]; rfl, rfl⟩
        · go_wp2_with (go_at_call 18; refine (HC.out _).mono ?_; rintro e w2 ⟨rfl, rfl⟩)
          go_round
          case rel => exact ⟨i + 1, by omega, by go_num, fun j z hj hz => by
            by_cases e : j = i
            · subst e
              rw [HX.out] at hz
              injection hz with hz
              rw [← hz]; exact ⟨HOD.out, by omega⟩
            · exact HO.out j z (by omega) hz⟩
          case measure => simp [intOf]; omega
    · have hge : ¬ (i : Int) < (n : Int) := by omega
      obtain rfl : i = n := by omega
      have HE := hide (HYE.out (fun j y hj hy => by have h := HO.out j y (by rw [HL.out.len] at hj; exact hj) hy; exact h))
      go_wp2
      go_ret
      exact ⟨by rw [HE.out]; rfl, rfl⟩

theorem eql_len {l k : List Int} (h : ¬ l.length = k.length) : decide (l = k) = false := by
  simp only [decide_eq_false_iff_not]
  rintro rfl; exact h rfl
theorem eql_no {l k : List Int} {i : Nat} {x y : Int} (hx : l[i]? = some x) (hy : k[i]? = some y) (h : ¬ x = y) : decide (l = k) = false := by
  simp only [decide_eq_false_iff_not]
  rintro rfl
  rw [hx] at hy
  injection hy with hy
  exact h hy
theorem eql_yes {l k : List Int} (hn : l.length = k.length) (h : ∀ j, j < l.length → l[j]? = k[j]?) : decide (l = k) = true := by
  simp only [decide_eq_true_eq]
  refine List.ext_getElem? fun j => ?_
  by_cases hj : j < l.length
  · exact h j hj
  · rw [List.getElem?_eq_none (by omega), List.getElem?_eq_none (by omega)]

set_option maxRecDepth 100000 in
set_option maxHeartbeats 1600000 in
theorem id_Equal (A : Option Addr) (n c : Nat) (l : List Int) (B : Option Addr) (m d : Nat) (k : List Int) (w : World) (hl : NL .i64 w A n c l) (hk : NL .i64 w B m d k) (hn : (n : Int) ≤ 1000000) :
    Calls Try.prog 24 #[.slice A n c, .slice B m d] w fun e w' => e = .returned (.bool (decide (l = k))) ∧ Below w.heap.size w w' := by
  have HL := hide hl
  have HK := hide hk
  by_cases hnm : n = m
  · subst hnm
    have HNO := hide (fun i x y hx hy h => eql_no (l := l) (k := k) (i := i) (x := x) (y := y) hx hy h)
    have HYE := hide (fun h => eql_yes (l := l) (k := k) (by rw [hl.len, hk.len]) h)
    generalize decide (l = k) = ob at *
    clear hl hk
    go_enter Try.func24, Try.ntmps24
    go_wp2_with fail
    go_loopw [13] (fun s wr => ∃ i : Nat, i ≤ n ∧ s = .int .i64 (i : Int) ∧ Hid (∀ j, j < i → l[j]? = k[j]?) ∧ Below w.heap.size w wr) (fun s _ => n - (intOf s).toNat)
    case atStart => exact ⟨0, by omega, rfl, fun j hj => by omega, Below.refl _ _⟩
    case round =>
      obtain ⟨i, hi, rfl, HO, hb⟩ := hrel
      have HB := hide hb
      by_cases hlt : i < n
      · have hlt' : (i : Int) < (n : Int) := by omega
        obtain ⟨x, b, off, hx, rfl, hbl, c0, -⟩ := HL.out.round hlt
        obtain ⟨y, b', off', hy, rfl, hbl', d0, -⟩ := HK.out.round hlt
        have e0 := (hb.cell (p := ⟨b, off + i, none⟩) hbl).trans c0
        have f0 := (hb.cell (p := ⟨b', off' + i, none⟩) hbl').trans d0
        have HX := hide hx
        have HY := hide hy
        clear hx hy hb c0 d0
        by_cases hxy : x = y
        · subst hxy
          go_wp2_with fail
          go_quiet (fail)
          go_wp2
          go_roundw
          case rel => exact ⟨i + 1, by omega, by go_num, fun j hj => by
            by_cases e : j = i
            · subst e; rw [HX.out, HY.out]
            · exact HO.out j (by omega), by simpa using below_drewN HB.out _⟩
          case measure => simp [intOf]; omega
        · have HE := hide (HNO.out i x y HX.out HY.out hxy)
          have hxy' : (x == y) = false := by simpa using hxy
          go_wp2_with fail
          go_quiet (fail)
          go_wp2
          go_ret
          exact ⟨by rw [HE.out]; rfl, by simpa using below_drewN HB.out _⟩
      · have hge : ¬ (i : Int) < (n : Int) := by omega
        obtain rfl : i = n := by omega
        have HE := hide (HYE.out (fun j hj => HO.out j (by rw [HL.out.len] at hj; exact hj)))
        go_wp2
        go_ret
        exact ⟨by rw [HE.out]; rfl, HB.out⟩
  · rw [eql_len (l := l) (k := k) (by rw [hl.len, hk.len]; exact hnm)]
    have hnm' : ¬ (n : Int) = (m : Int) := by omega
    clear hl hk
    go_enter Try.func24, Try.ntmps24
    go_wp2
    go_ret
    exact ⟨rfl, Below.refl _ _⟩

set_option maxRecDepth 100000 in
set_option maxHeartbeats 1600000 in
theorem rd_SameInts (A : Option Addr) (n c : Nat) (l : List Int) (B : Option Addr) (m d : Nat) (k : List Int) (w : World) (hl : NL .i64 w A n c l) (hk : NL .i64 w B m d k) (hn : (n : Int) ≤ 1000000) :
    Calls Try.prog 25 #[.slice A n c, .slice B m d] w fun e w' => e = .returned (.bool (decide (l = k))) ∧ Below w.heap.size w w' := by
  have HL := hide hl
  have HK := hide hk
  by_cases hnm : n = m
  · subst hnm
    have HNO := hide (fun i x y hx hy h => eql_no (l := l) (k := k) (i := i) (x := x) (y := y) hx hy h)
    have HYE := hide (fun h => eql_yes (l := l) (k := k) (by rw [hl.len, hk.len]) h)
    generalize decide (l = k) = ob at *
    clear hl hk
    go_enter Try.func25, Try.ntmps25
    go_wp2_with fail
    go_loopw [5] (fun s wr => ∃ i : Nat, i ≤ n ∧ s = .int .i64 (i : Int) ∧ Hid (∀ j, j < i → l[j]? = k[j]?) ∧ Below w.heap.size w wr) (fun s _ => n - (intOf s).toNat)
    case atStart => exact ⟨0, by omega, rfl, fun j hj => by omega, Below.refl _ _⟩
    case round =>
      obtain ⟨i, hi, rfl, HO, hb⟩ := hrel
      have HB := hide hb
      by_cases hlt : i < n
      · have hlt' : (i : Int) < (n : Int) := by omega
        obtain ⟨x, b, off, hx, rfl, hbl, c0, -⟩ := HL.out.round hlt
        obtain ⟨y, b', off', hy, rfl, hbl', d0, -⟩ := HK.out.round hlt
        have e0 := (hb.cell (p := ⟨b, off + i, none⟩) hbl).trans c0
        have f0 := (hb.cell (p := ⟨b', off' + i, none⟩) hbl').trans d0
        have HX := hide hx
        have HY := hide hy
        clear hx hy hb c0 d0
        by_cases hxy : x = y
        · subst hxy
          go_wp2_with fail
          go_quiet (fail)
          go_wp2
          go_roundw
          case rel => exact ⟨i + 1, by omega, by go_num, fun j hj => by
            by_cases e : j = i
            · subst e; rw [HX.out, HY.out]
            · exact HO.out j (by omega), by simpa using below_drewN HB.out _⟩
          case measure => simp [intOf]; omega
        · have HE := hide (HNO.out i x y HX.out HY.out hxy)
          have hxy' : (x == y) = false := by simpa using hxy
          go_wp2_with fail
          go_quiet (fail)
          go_wp2
          go_ret
          exact ⟨by rw [HE.out]; rfl, by simpa using below_drewN HB.out _⟩
      · have hge : ¬ (i : Int) < (n : Int) := by omega
        obtain rfl : i = n := by omega
        have HE := hide (HYE.out (fun j hj => HO.out j (by rw [HL.out.len] at hj; exact hj)))
        go_wp2
        go_ret
        exact ⟨by rw [HE.out]; rfl, HB.out⟩
  · rw [eql_len (l := l) (k := k) (by rw [hl.len, hk.len]; exact hnm)]
    have hnm' : ¬ (n : Int) = (m : Int) := by omega
    clear hl hk
    go_enter Try.func25, Try.ntmps25
    go_wp2
    go_ret
    exact ⟨rfl, Below.refl _ _⟩
end Go.Proofs.Ytjjgnhdaaicmeaa
