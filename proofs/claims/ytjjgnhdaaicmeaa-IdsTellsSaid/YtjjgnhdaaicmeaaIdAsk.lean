/-
  Layer 15: the functions that first asks: the same number, a stranger, one that was met (a map of counts).
-/
import Derived.Test.YtjjgnhdaaicmeaaIdFirst
import Derived.Maps.Own
import Derived.Maps.OwnOps
import Derived.Maps.Views
namespace Go.Proofs.Ytjjgnhdaaicmeaa
set_option linter.unusedSimpArgs false
set_option linter.unusedVariables false
open Go.RowKit Go.Maps

theorem fn_enters {fn : FuncId} {f : Func} (hf : Try.prog.funcs[fn]? = some f) (h0 : (f.name == "runtime.NumGoroutine") = false) (h1 : f.body.isNone = false) (args : Array Value) (w : World) : (callFunc fn args).run Try.prog w = .ok (.enter fn args) w := by
  cases hb : f.body with
  | none => rw [hb] at h1; cases h1
  | some c => exact enters_of hf h0 hb args w

theorem id_cls1 (x id : Int) (cb : Nat) (w : World) (hb : BlkIs w cb 3 #[.int .i64 id]) :
    Calls Try.prog 17 #[.int .i64 x, .pointer (some ⟨cb, 0, none⟩)] w fun e w' => e = .returned (.bool (decide (x = id))) ∧ w = w' := by
  have k0 := hb.cell 0
  simp only [List.getElem?_toArray, List.getElem?_cons_zero] at k0
  clear hb
  by_cases h : x = id
  · subst h
    rw [show decide (x = x) = true by simp]
    go_enter Try.func17, Try.ntmps17
    go_wp2
    go_ret
    exact ⟨rfl, rfl⟩
  · rw [show decide (x = id) = false by simpa using h]
    have h' : (x == id) = false := by simpa using h
    clear h
    go_enter Try.func17, Try.ntmps17
    go_wp2
    go_ret
    exact ⟨rfl, rfl⟩
theorem asks_class (T : Tb) (id : Int) (cb N : Nat) (w0 : World) :
    AsksIs 17 cb (fun k => decide (nth T k = id)) (nth T) N (fun _ => False) (fun _ w => BlkIs w cb 3 #[.int .i64 id] ∧ Below w0.heap.size w0 w) w0 where
  ent := fn_enters Try.func17 (by kernel_rfl) (by kernel_rfl)
  step := fun k w _ h => (id_cls1 (nth T k) id cb w h.1).mono fun e w' hh => by
    obtain ⟨rfl, rfl⟩ := hh
    exact ⟨rfl, h, KB.refl _ _⟩
  far := fun k w w' h hb => ⟨h.1.keep hb, h.2.trans (hb.mono h.2.size)⟩
  keep := fun k w h => h.2

set_option maxHeartbeats 1600000 in
theorem id_str1 (x L : Int) (s1 s2 : Value) (cb : Nat) (w : World) (hb : BlkIs w cb 28 #[.int .i64 L, s1, s2]) :
    Calls Try.prog 29 #[.int .i64 x, .pointer (some ⟨cb, 0, none⟩)] w fun e w' => e = .returned (.bool (!oddB x || decide (L < x))) ∧ w = w' := by
  have k0 := hb.cell 0
  simp only [List.getElem?_toArray, List.getElem?_cons_zero] at k0
  have HC := hide (fun w => id_isNumber x w)
  clear hb
  cases ho : oddB x with
  | false =>
    rw [ho] at HC
    clear ho
    go_enter Try.func29, Try.ntmps29
    go_wp2_with (go_at_call 15; refine (HC.out _).mono ?_; rintro e w2 ⟨rfl, rfl⟩)
    go_ret
    exact ⟨rfl, rfl⟩
  | true =>
    rw [ho] at HC
    clear ho
    by_cases h : L < x
    · rw [show (!true || decide (L < x)) = true by simpa using h]
      go_enter Try.func29, Try.ntmps29
      go_wp2_with (go_at_call 15; refine (HC.out _).mono ?_; rintro e w2 ⟨rfl, rfl⟩)
      go_ret
      exact ⟨rfl, rfl⟩
    · rw [show (!true || decide (L < x)) = false by simpa using h]
      have h' : decide (L < x) = false := by simpa using h
      clear h
      go_enter Try.func29, Try.ntmps29
      go_wp2_with (go_at_call 15; refine (HC.out _).mono ?_; rintro e w2 ⟨rfl, rfl⟩)
      go_ret
      exact ⟨rfl, rfl⟩
theorem asks_str (T : Tb) (s1 s2 : Value) (cb N : Nat) (w0 : World) :
    AsksIs 29 cb (fun k => !oddB (nth T k) || decide (T.l < nth T k)) (nth T) N (fun _ => False) (fun _ w => BlkIs w cb 28 #[.int .i64 T.l, s1, s2] ∧ Below w0.heap.size w0 w) w0 where
  ent := fn_enters Try.func29 (by kernel_rfl) (by kernel_rfl)
  step := fun k w _ h => (id_str1 (nth T k) T.l s1 s2 cb w h.1).mono fun e w' hh => by
    obtain ⟨rfl, rfl⟩ := hh
    exact ⟨rfl, h, KB.refl _ _⟩
  far := fun k w w' h hb => ⟨h.1.keep hb, h.2.trans (hb.mono h.2.size)⟩
  keep := fun k w h => h.2

/-! ## Counts in a map -/
theorem int_law : Keyed Try.prog 3 := int_keyed Try.underlying3
theorem int_zero (w : World) : (zeroValue 3).run Try.prog w = .ok (.int .i64 0) w := by kernel_rfl
/-- Block b is a map that holds of each number how often it stands in the list. -/
def MetIs (w : World) (b : Nat) (l : List Int) : Prop :=
  ∃ D : DataW Unit, w.ownsMap Try.prog 3 (plainElem Try.prog 3) b l.length D ∧ IsMap D ∧ ∀ n : Int, D.atKey (.int .i64 n) (.lit (.int .i64 0)) = .lit (.int .i64 (l.count n : Nat))
theorem MetIs.none_ (w : World) : MetIs (w.alloc (.map #[] 0)) w.heap.size [] := ⟨.map [], World.ownsMap_made _ _ _ _, isMap_empty, fun n => rfl⟩
theorem MetIs.keep {w w' : World} {b : Nat} {l : List Int} (h : MetIs w b l) (hb : Below w.heap.size w w') : MetIs w' b l := by
  obtain ⟨D, ho, hm, hc⟩ := h
  exact ⟨D, ho.kept (row := none) ⟨hb.os, hb.tape, hb.output, hb.size, fun i hi _ => hb.block i hi⟩ (by simp), hm, hc⟩
theorem met_put {D : DataW Unit} (hm : IsMap D) {l : List Int} (hc : ∀ n : Int, D.atKey (.int .i64 n) (.lit (.int .i64 0)) = .lit (.int .i64 (l.count n : Nat))) {x : Int} (hk : WideAt.IsKeyLit (.int .i64 x)) {q : Nat} (hq : l.count x = q) (n : Int) :
    (D.put (.int .i64 x) (.lit (.int .i64 ((q : Int) + 1)))).atKey (.int .i64 n) (.lit (.int .i64 0)) = .lit (.int .i64 ((l ++ [x]).count n : Nat)) := by
  by_cases h : n = x
  · subst h
    rw [atKey_put_same hm hk, List.count_append, hq]
    simp
  · rw [atKey_put_other (by intro e; injection e with _ e; exact h e), hc n, List.count_append]
    have : [x].count n = 0 := by simp [List.count_cons]; exact fun e => h e.symm
    rw [this]; rfl
theorem lit_eq {a b : Int} {X : DataW Unit} (h : X = .lit (.int .i64 a)) (h' : X = .lit (.int .i64 b)) : a = b := by
  rw [h] at h'
  injection h' with h'
  injection h'

theorem pos_one (q : Nat) : decide (1 < (q : Int) + 1) = decide (0 < q) := by
  by_cases h : 0 < q
  · rw [decide_eq_true h, decide_eq_true (by omega)]
  · rw [decide_eq_false h, decide_eq_false (by omega)]
theorem kb_grown {w w' : World} {mb : Nat} (h : w.grownBy w' (some mb)) : KB (· = mb) w w' := KB.of_grown h (fun k e _ => by injection e with e; exact e.symm)

set_option maxRecDepth 100000 in
set_option maxHeartbeats 3200000 in
theorem id_tw1 (x : Int) (l : List Int) (cb mb : Nat) (w : World) (hb : BlkIs w cb 55 #[.map (some mb)]) (hm : MetIs w mb l) (hx : (Lit.int .i64 x).wf = true) (hl : (l.length : Int) ≤ 2000000) :
    Calls Try.prog 30 #[.int .i64 x, .pointer (some ⟨cb, 0, none⟩)] w fun e w' => e = .returned (.bool (decide (x ∈ l))) ∧ MetIs w' mb (l ++ [x]) ∧ KB (· = mb) w w' := by
  have hne : some cb ≠ some mb := by
    intro e
    injection e with e
    subst e
    obtain ⟨D, ⟨es, ck, hb2, _⟩, _⟩ := hm
    unfold BlkIs at hb
    rw [hb] at hb2
    injection hb2 with hb2
    cases hb2
  obtain ⟨D, hown, hD, hc⟩ := hm
  have HB := hide hb
  have HN := hide hne
  have HD := hide hD
  have HCN := hide hc
  have HOWN := hide hown
  obtain ⟨q, hq⟩ : ∃ q : Nat, l.count x = q := ⟨_, rfl⟩
  have hql : (q : Int) ≤ 2000000 := by have := List.count_le_length (a := x) (l := l); omega
  have HWF := hide (show (Lit.int .i64 ((q : Int) + 1)).wf = true from WalkArith.wf_i64 (by omega))
  have HLL := hide (show l.length < maxLen by unfold maxLen; omega)
  have HQ := hide hq
  have hkey : keyOf Try.prog 3 (.int .i64 x) = some (.int .i64 x) := keyOf_int_mk Try.underlying3 hx
  have HKEY := hide hkey
  have HPOS := hide (show (decide (x ∈ l)) = decide (0 < q) by rw [← hq, Bool.eq_iff_iff]; simp [List.count_pos_iff])
  have k0 := hb.cell 0
  simp only [List.getElem?_toArray, List.getElem?_cons_zero] at k0
  rw [HPOS.out]
  clear hb hne hown hD hc hq hl hkey
  obtain ⟨v, hv⟩ : ∃ v, v = decide (0 < q) := ⟨_, rfl⟩
  rw [← hv]
  have HV := hide (show Ending.returned (.bool (decide (1 < (q : Int) + 1))) = .returned (.bool v) by rw [hv, pos_one])
  clear hv HPOS
  go_enter Try.func30, Try.ntmps30
  go_wp2_with (first
    | (at_lookup; refine wpList_lookup_own_int _ rfl _ _ 55 rfl 3 3 .i64 int_law Try.underlying55 Try.underlying3 (int_zero _) mb l.length D rfl HOWN.out _ _ rfl HKEY.out ?_; intro c hat hwc; obtain rfl : (q : Int) = c := by { have h1 := HCN.out x; rw [HQ.out] at h1; exact lit_eq h1 hat }; clear hat hwc)
    | (at_lookup; refine wpList_lookup_own_int _ rfl _ _ 55 rfl 3 3 .i64 int_law Try.underlying55 Try.underlying3 (int_zero _) mb (l.length + 1) _ rfl HOWN1.out _ _ rfl HKEY.out ?_; intro c hat hwc; obtain rfl : (q : Int) + 1 = c := lit_eq (atKey_put_same HD.out (int_law.key HKEY.out) _ _) hat; clear hat hwc)
    | (at_mapUpdate; refine wpList_mapUpdate_own _ rfl _ _ _ 55 rfl 3 3 int_law Try.underlying55 _ mb l.length D rfl HOWN.out HLL.out _ _ _ rfl rfl HKEY.out _ [] (plainElem_int Try.underlying3 HWF.out) ?_; intro w1 hown1 hgrow1; have HOWN1 := hide hown1; have HG1 := hide hgrow1; have HB1 := hide (HB.out.grown hgrow1 HN.out); clear hown1 hgrow1; have k1 := HB1.out.cell 0; simp only [List.getElem?_toArray, List.getElem?_cons_zero] at k1)
    | go_in)
  go_ret
  exact ⟨HV.out, ⟨_, by rw [List.length_append]; exact HOWN1.out, HD.out.put _ _, met_put HD.out HCN.out (int_law.key HKEY.out) HQ.out⟩, kb_grown HG1.out⟩
theorem asks_tw (T : Tb) (cb mb N : Nat) (w0 : World) (hN : T.op.length + T.cu.length = N) (hNL : (N : Int) ≤ 2000000) (hw : ∀ k, k < N → (Lit.int .i64 (nth T k)).wf = true) (hmb : w0.heap.size ≤ mb) (hne : cb ≠ mb) :
    AsksIs 30 cb (fun k => decide (nth T k ∈ (T.op ++ T.cu).take k)) (nth T) N (· = mb) (fun k w => BlkIs w cb 55 #[.map (some mb)] ∧ MetIs w mb ((T.op ++ T.cu).take k) ∧ Below w0.heap.size w0 w) w0 where
  ent := fn_enters Try.func30 (by kernel_rfl) (by kernel_rfl)
  step := fun k w hk h => (id_tw1 (nth T k) ((T.op ++ T.cu).take k) cb mb w h.1 h.2.1 (hw k hk) (by rw [List.length_take, List.length_append, hN]; omega)).mono fun e w' hh => by
    obtain ⟨rfl, hm, hkb⟩ := hh
    refine ⟨rfl, ⟨hkb.blk h.1 hne, ?_, ?_⟩, hkb⟩
    · rw [List.take_add_one, nth_lt (by omega)]
      exact hm
    · exact h.2.2.trans (hkb.below h.2.2.size (fun k e => by subst e; exact hmb))
  far := fun k w w' h hb => ⟨h.1.keep hb, h.2.1.keep hb, h.2.2.trans (hb.mono h.2.2.size)⟩
  keep := fun k w h => h.2.2
end Go.Proofs.Ytjjgnhdaaicmeaa
