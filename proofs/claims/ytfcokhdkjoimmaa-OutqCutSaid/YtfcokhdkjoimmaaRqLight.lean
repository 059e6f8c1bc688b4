/-
  Layer 19: Room, of both packages; Light (written by gen19small.py).
-/
import Derived.Test.YtfcokhdkjoimmaaRqCheck
namespace Go.Proofs.Ytfcokhdkjoimmaa
set_option linter.unusedSimpArgs false
set_option linter.unusedVariables false
open Go.RowKit
set_option maxRecDepth 100000 in
set_option maxHeartbeats 1600000 in
theorem oq_Room (q : Qu) (A : Option Addr) (n c : Nat) (w : World) (hl : QL w q A n c) :
    Calls Try.prog 18 #[.agg #[.slice A n c, .int .i64 q.m, .int .i64 q.g]] w fun e w' => e = .returned (.int .i64 (roomQ q)) ∧ Below w.heap.size w w' := by
  have HB1 := hide (bel1 w (.cells #[.slice A n c, .int .i64 q.m, .int .i64 q.g] 28))
  have HX1 := hide (BlkIs.new w 28 #[.slice A n c, .int .i64 q.m, .int .i64 q.g])
  obtain ⟨k0, k1, k2⟩ := qcells HX1.out
  have HCK := hide (oq_Check q A n c _ (hl.keep HB1.out))
  have HLN := hide (fun w' (h : Below w.heap.size w w') => oq_Len q A n c w' (hl.keep h))
  have hSM : (lenL q.ps : Int) ≤ 100000000 := by have := hl.sum; omega
  have h0 : (0 : Int) ≤ (lenL q.ps : Int) := by omega
  have HR := hide (show roomQ q = if chkQ q = 0 then 65536 - (lenL q.ps : Int) else 0 from rfl)
  generalize roomQ q = r at HR ⊢
  generalize chkQ q = e0 at *
  generalize lenL q.ps = L at *
  generalize q.m = m at *
  generalize q.g = g at *
  clear hl
  go_enter Try.func18, Try.ntmps18
  go_wp2_with fail
  refine HCK.out.mono ?_
  rintro e w2 ⟨rfl, hb⟩
  have HB2 := hide (HB1.out.trans (hb.mono HB1.out.size))
  clear k0 k1 k2
  obtain ⟨k0, k1, k2⟩ := qcells (HX1.out.keep hb)
  clear hb HCK
  by_cases he : e0 = 0
  · subst he
    rw [if_pos rfl] at HR
    have HL2 := hide (HLN.out w2 HB2.out)
    clear HLN
    go_wp2_with fail
    refine HL2.out.mono ?_
    rintro e w3 ⟨rfl, hb⟩
    have HB3 := hide (HB2.out.trans (hb.mono HB2.out.size))
    clear hb HL2
    go_wp2
    go_ret
    exact ⟨by rw [HR.out]; rfl, HB3.out⟩
  · rw [if_neg he] at HR
    have he' : (e0 != 0) = true := by simpa using he
    have he2 : (e0 == 0) = false := by simpa using he
    clear HLN
    go_wp2
    go_ret
    exact ⟨by rw [HR.out]; rfl, HB2.out⟩

set_option maxRecDepth 100000 in
set_option maxHeartbeats 1600000 in
theorem rq_Room (q : Qu) (A : Option Addr) (n c : Nat) (w : World) (hl : QL w q A n c) :
    Calls Try.prog 19 #[.agg #[.slice A n c, .int .i64 q.m, .int .i64 q.g]] w fun e w' => e = .returned (.int .i64 (roomQ q)) ∧ Below w.heap.size w w' := by
  have HB1 := hide (bel1 w (.cells #[.slice A n c, .int .i64 q.m, .int .i64 q.g] 24))
  have HX1 := hide (BlkIs.new w 24 #[.slice A n c, .int .i64 q.m, .int .i64 q.g])
  obtain ⟨k0, k1, k2⟩ := qcells HX1.out
  have HCK := hide (rq_Check q A n c _ (hl.keep HB1.out))
  have HLN := hide (fun w' (h : Below w.heap.size w w') => rq_Len q A n c w' (hl.keep h))
  have hSM : (lenL q.ps : Int) ≤ 100000000 := by have := hl.sum; omega
  have h0 : (0 : Int) ≤ (lenL q.ps : Int) := by omega
  have HR := hide (show roomQ q = if chkQ q = 0 then 65536 - (lenL q.ps : Int) else 0 from rfl)
  generalize roomQ q = r at HR ⊢
  generalize chkQ q = e0 at *
  generalize lenL q.ps = L at *
  generalize q.m = m at *
  generalize q.g = g at *
  clear hl
  go_enter Try.func19, Try.ntmps19
  go_wp2_with fail
  refine HCK.out.mono ?_
  rintro e w2 ⟨rfl, hb⟩
  have HB2 := hide (HB1.out.trans (hb.mono HB1.out.size))
  clear k0 k1 k2
  obtain ⟨k0, k1, k2⟩ := qcells (HX1.out.keep hb)
  clear hb HCK
  by_cases he : e0 = 0
  · subst he
    rw [if_pos rfl] at HR
    have HL2 := hide (HLN.out w2 HB2.out)
    clear HLN
    go_wp2_with fail
    refine HL2.out.mono ?_
    rintro e w3 ⟨rfl, hb⟩
    have HB3 := hide (HB2.out.trans (hb.mono HB2.out.size))
    clear hb HL2
    go_wp2
    go_ret
    exact ⟨by rw [HR.out]; rfl, HB3.out⟩
  · rw [if_neg he] at HR
    have he' : (e0 != 0) = true := by simpa using he
    have he2 : (e0 == 0) = false := by simpa using he
    clear HLN
    go_wp2
    go_ret
    exact ⟨by rw [HR.out]; rfl, HB2.out⟩

/-- Is a queue small enough? -/
def lightQ (l : List ByteArray) : Bool := (l.all fun s => decide (s.size ≤ 70000)) && decide (l.length ≤ 20)
theorem light_no {l : List ByteArray} {i : Nat} {s : ByteArray} (h : l[i]? = some s) (hs : ¬ s.size ≤ 70000) : lightQ l = false := by
  unfold lightQ
  rw [Bool.and_eq_false_iff]
  refine .inl ?_
  rw [List.all_eq_false]
  exact ⟨s, List.mem_of_getElem? h, by simpa using hs⟩
theorem light_all {l : List ByteArray} (h : ∀ j s, j < l.length → l[j]? = some s → s.size ≤ 70000) : lightQ l = decide (l.length ≤ 20) := by
  unfold lightQ
  rw [show (l.all fun s => decide (s.size ≤ 70000)) = true from List.all_eq_true.2 fun s hs => by
    obtain ⟨j, hj, rfl⟩ := List.getElem_of_mem hs
    simpa using h j _ hj (List.getElem?_eq_getElem hj)]
  rfl
theorem light_sum : ∀ {l : List ByteArray} {k : Nat}, (∀ s ∈ l, s.size ≤ 70000) → l.length ≤ k → lenL l ≤ 70000 * k
  | [], k, _, _ => by simp [lenL]
  | p :: r, k, h, hk => by
    have h1 := h p (by simp)
    simp only [List.length_cons] at hk
    have h2 := light_sum (l := r) (k := k - 1) (fun s hs => h s (by simp [hs])) (by omega)
    simp only [lenL]
    omega
theorem light_is {l : List ByteArray} (h : lightQ l = true) : l.length ≤ 20 ∧ lenL l ≤ 1400000 := by
  simp only [lightQ, Bool.and_eq_true, List.all_eq_true, decide_eq_true_eq] at h
  exact ⟨h.2, by have := light_sum (l := l) (k := 20) h.1 h.2; omega⟩
set_option maxRecDepth 100000 in
set_option maxHeartbeats 1600000 in
theorem rq_Light (A : Option Addr) (n c : Nat) (l : List ByteArray) (m g : Int) (w : World) (hl : TX w A n c l) :
    Calls Try.prog 7 #[.agg #[.slice A n c, .int .i64 m, .int .i64 g]] w fun e w' => e = .returned (.bool (lightQ l)) ∧ Below w.heap.size w w' := by
  have HB1 := hide (bel1 w (.cells #[.slice A n c, .int .i64 m, .int .i64 g] 24))
  have HX1 := hide (BlkIs.new w 24 #[.slice A n c, .int .i64 m, .int .i64 g])
  obtain ⟨k0, k1, k2⟩ := qcells HX1.out
  have HL := hide (hl.keep HB1.out)
  have HNO := hide (fun i s => @light_no l i s)
  have HAL := hide (@light_all l)
  rw [hl.len] at HAL
  generalize lightQ l = v at *
  have hcn : n ≤ 9223372036854775807 := Nat.le_trans hl.le (by have := hl.max; unfold maxLen at this; omega)
  clear hl
  go_enter Try.func7, Try.ntmps7
  go_wp2_with fail
  go_loop [3] (fun k => ∃ i : Nat, i ≤ n ∧ k = .int .i64 (i : Int) ∧ Hid (∀ j s, j < i → l[j]? = some s → s.size ≤ 70000)) (fun k => n - (intOf k).toNat)
  case atStart => exact ⟨0, by omega, rfl, fun j y hj => by omega⟩
  case round =>
    obtain ⟨i, hi, rfl, HO⟩ := hrel
    by_cases hlt : i < n
    · have hlt' : (i : Int) < (n : Int) := by omega
      obtain ⟨s, b, off, hs, rfl, hbl, c0⟩ := HL.out.round hlt
      have HX := hide hs
      clear hs
      by_cases hz : s.size ≤ 70000
      · have hz' : ¬ (70000 : Int) < (s.size : Int) := by omega
        have HZ := hide hz
        clear hz HNO HAL
        go_wp2
        go_round
        case rel => exact ⟨i + 1, by omega, by go_num, fun j y hj hy => by
          by_cases e : j = i
          · subst e
            rw [HX.out] at hy
            injection hy with hy
            rw [← hy]; exact HZ.out
          · exact HO.out j y (by omega) hy⟩
        case measure => simp [intOf]; omega
      · have HR := hide (HNO.out i s HX.out hz)
        have hz' : (70000 : Int) < (s.size : Int) := by omega
        clear hz HNO HAL
        go_wp2
        go_ret
        exact ⟨by rw [HR.out]; rfl, HB1.out⟩
    · have hge : ¬ (i : Int) < (n : Int) := by omega
      obtain rfl : i = n := by omega
      have HR := hide (HAL.out fun j s hj hs => HO.out j s hj hs)
      clear HNO HAL
      by_cases h20 : i ≤ 20
      · have h20' : (i : Int) ≤ 20 := by omega
        rw [decide_eq_true h20] at HR
        go_wp2
        all_goals first | (exfalso; omega) | (go_ret; exact ⟨by rw [HR.out]; rfl, HB1.out⟩)
      · have h20' : ¬ (i : Int) ≤ 20 := by omega
        rw [decide_eq_false h20] at HR
        go_wp2
        all_goals first | (exfalso; omega) | (go_ret; exact ⟨by rw [HR.out]; rfl, HB1.out⟩)
end Go.Proofs.Ytfcokhdkjoimmaa
