/-
  Layer 17: names counted in a map; isWhole.
-/
import Derived.Test.YtlbhnbloanamfaaDoorRqRight
import Derived.Maps.Own
import Derived.Maps.OwnOps
import Derived.Maps.Views
import Derived.StringKeys
import Derived.Carry
namespace Go.Proofs.YtlbhnbloanamfaaDoor
set_option linter.unusedSimpArgs false
set_option linter.unusedVariables false
open Go.RowKit Go.Maps

theorem str_law : Keyed Tryd.prog 9 := string_keyed Tryd.underlying9
theorem int_zero (w : World) : (zeroValue 3).run Tryd.prog w = .ok (.int .i64 0) w := by kernel_rfl
/-- Block b is a map that holds of each name how many fields of a list have it. -/
def MetS (w : World) (b : Nat) (l : List Fd) : Prop :=
  ∃ D : DataW Unit, w.ownsMap Tryd.prog 9 (plainElem Tryd.prog 3) b l.length D ∧ IsMap D ∧ ∀ nm : ByteArray, D.atKey (.string nm.data.toList) (.lit (.int .i64 0)) = .lit (.int .i64 ((vals nm l).length : Nat))
theorem MetS.none_ (w : World) : MetS (w.alloc (.map #[] 0)) w.heap.size [] := ⟨.map [], World.ownsMap_made _ _ _ _, isMap_empty, fun n => rfl⟩
theorem MetS.keep {w w' : World} {b : Nat} {l : List Fd} (h : MetS w b l) (hb : Below w.heap.size w w') : MetS w' b l := by
  obtain ⟨D, ho, hm, hc⟩ := h
  exact ⟨D, ho.kept (row := none) ⟨hb.os, hb.tape, hb.output, hb.size, fun i hi _ => hb.block i hi⟩ (by simp), hm, hc⟩
theorem lit_eqn {a b : Int} {X : DataW Unit} (h : X = .lit (.int .i64 a)) (h' : X = .lit (.int .i64 b)) : a = b := by
  rw [h] at h'
  injection h' with h'
  injection h'
theorem key_inj {a b : ByteArray} (h : (Lit.string a.data.toList) = .string b.data.toList) : a = b := by
  injection h with h
  obtain ⟨l, rfl⟩ := ba_mk a
  obtain ⟨l', rfl⟩ := ba_mk b
  simp only at h
  rw [h]
theorem vals_snoc (nm : ByteArray) (l : List Fd) (f : Fd) : (vals nm (l ++ [f])).length = (vals nm l).length + if f.n = nm then 1 else 0 := by
  unfold vals
  rw [List.filter_append, List.map_append, List.length_append]
  congr 1
  by_cases h : f.n = nm
  · rw [List.filter_cons_of_pos (by unfold isN; rw [decide_eq_true h]), if_pos h]; rfl
  · rw [List.filter_cons_of_neg (by unfold isN; rw [decide_eq_false h]; simp), if_neg h]; rfl
theorem mets_put {D : DataW Unit} (hm : IsMap D) {l : List Fd} (hc : ∀ nm : ByteArray, D.atKey (.string nm.data.toList) (.lit (.int .i64 0)) = .lit (.int .i64 ((vals nm l).length : Nat))) {f : Fd} (hk : WideAt.IsKeyLit (.string f.n.data.toList)) {q : Nat} (hq : (vals f.n l).length = q) (nm : ByteArray) :
    (D.put (.string f.n.data.toList) (.lit (.int .i64 ((q : Int) + 1)))).atKey (.string nm.data.toList) (.lit (.int .i64 0)) = .lit (.int .i64 ((vals nm (l ++ [f])).length : Nat)) := by
  rw [vals_snoc]
  by_cases h : f.n = nm
  · subst h
    rw [atKey_put_same hm hk, if_pos rfl, hq]
    simp
  · rw [atKey_put_other (by intro e; exact h (key_inj e).symm), hc nm, if_neg h]
    rfl
theorem kb_grown {w w' : World} {mb : Nat} (h : w.grownBy w' (some mb)) : KB (· = mb) w w' := KB.of_grown h (fun k e _ => by injection e with e; exact e.symm)

/-- What counted answers. -/
def GivesMet (l : List Fd) (w : World) (e : Ending) (w' : World) : Prop := ∃ mb, e = .returned (.map (some mb)) ∧ MetS w' mb l ∧ Below w.heap.size w w'

set_option maxRecDepth 100000 in
set_option maxHeartbeats 3200000 in
theorem rq_counted (A : Option Addr) (n c : Nat) (l : List Fd) (w : World) (hfl : FL w A n c l) (hm : Mod l) :
    Calls Tryd.prog 24 #[.slice A n c] w (GivesMet l w) := by
  have HFL := hide hfl
  have HM := hide hm
  have hn : (n : Int) ≤ 1000 := by have := hm.1; have := hfl.len; omega
  have HM0 := hide (MetS.none_ w)
  clear hfl hm
  have hmm := @run_makeMap Tryd.prog
  go_enter Tryd.func24, Tryd.ntmps24
  go_wp2_with fail
  clear hmm
  obtain ⟨mb, hmb⟩ : ∃ mb, mb = w.heap.size := ⟨_, rfl⟩
  rw [← hmb] at HM0 ⊢
  have HMB := hide hmb
  clear hmb
  go_loopw [5, 9] (fun _ k wr => ∃ i : Nat, i ≤ n ∧ k = .int .i64 (i : Int) ∧ Hid (MetS wr mb (l.take i)) ∧ Hid (Below w.heap.size w wr)) (fun _ k _ => n - (intOf k).toNat)
  case atStart => exact ⟨0, by omega, rfl, HM0.out, bel1 _ _⟩
  case round =>
    obtain ⟨i, hi, rfl, HD, HB⟩ := hrel
    by_cases hlt : i < n
    · have hlt' : (i : Int) < (n : Int) := by omega
      obtain ⟨f, b, off, hfd, rfl, hbl, c0, c1, c2⟩ := (HFL.out.keep HB.out).round hlt
      have HFD := hide hfd
      have hsz := HM.out.at hfd
      obtain ⟨D, hown, hD, hc⟩ := HD.out.keep (bel1 wr (.cells #[.string f.n, .string f.v, .bool f.x] 42))
      have hll : (l.take i).length = i := by rw [List.length_take, HFL.out.len]; omega
      rw [hll] at hown
      have HOWN := hide hown
      have HD2 := hide hD
      have HCN := hide hc
      obtain ⟨q, hq⟩ : ∃ q : Nat, (vals f.n (l.take i)).length = q := ⟨_, rfl⟩
      have hql : (q : Int) ≤ 1000 := by
        have h1 : (vals f.n (l.take i)).length ≤ (l.take i).length := by unfold vals; rw [List.length_map]; exact List.length_filter_le _ _
        omega
      have HWF := hide (show (Lit.int .i64 ((q : Int) + 1)).wf = true from WalkArith.wf_i64 (by omega))
      have HLL := hide (show i < maxLen by unfold maxLen; omega)
      have HQ := hide hq
      have hkey : keyOf Tryd.prog 9 (.string f.n) = some (.string f.n.data.toList) := Go.WideMaps.keyOf_string_mk Tryd.underlying9 (by unfold maxLen; omega)
      have HKEY := hide hkey
      have HB1 := hide (HB.out.trans ((bel1 wr (.cells #[.string f.n, .string f.v, .bool f.x] 42)).mono HB.out.size))
      have HTK := hide (show l.take (i + 1) = l.take i ++ [f] by rw [List.take_add_one, hfd]; rfl)
      clear hfd hown hD hc hq hkey hll hsz
      go_wp2_with (first
        | (at_lookup; refine wpList_lookup_own_int _ rfl _ _ 47 rfl 9 3 .i64 str_law Tryd.underlying47 Tryd.underlying3 (int_zero _) mb i D rfl HOWN.out _ _ rfl HKEY.out ?_; intro c hat hwc; obtain rfl : (q : Int) = c := by { have h1 := HCN.out f.n; rw [HQ.out] at h1; exact lit_eqn h1 hat }; clear hat hwc)
        | (at_mapUpdate; refine wpList_mapUpdate_own _ rfl _ _ _ 47 rfl 9 3 str_law Tryd.underlying47 _ mb i D rfl HOWN.out HLL.out _ _ _ rfl rfl HKEY.out _ [] (plainElem_int Tryd.underlying3 HWF.out) ?_; intro w1 hown1 hgrow1; have HOWN1 := hide hown1; have HG1 := hide hgrow1; clear hown1 hgrow1)
        | go_in)
      go_roundw
      case rel =>
        refine ⟨i + 1, by omega, by go_num, ⟨D.put (.string f.n.data.toList) (.lit (.int .i64 ((q : Int) + 1))), ?_, HD2.out.put _ _, ?_⟩, HB1.out.trans ((kb_grown HG1.out).below HB1.out.size (fun k e => by subst e; rw [HMB.out]; exact Nat.le_refl _))⟩
        · rw [List.length_take, HFL.out.len, Nat.min_eq_left (by omega)]; exact HOWN1.out
        · intro nm; rw [HTK.out]; exact mets_put HD2.out HCN.out (str_law.key HKEY.out) HQ.out nm
      case measure => simp [intOf]; omega
    · have hge : ¬ (i : Int) < (n : Int) := by omega
      obtain rfl : i = n := by omega
      go_wp2
      go_ret
      refine ⟨mb, rfl, ?_, HB.out⟩
      have := HD.out
      rwa [← HFL.out.len, List.take_length] at this

/-- How often a name was met, as the look-up tells it. -/
theorem MetS.run {w : World} {b : Nat} {l : List Fd} (h : MetS w b l) (nm : ByteArray) (hs : nm.size ≤ maxLen) :
    (Instr.lookup 47 (.map (some b)) (.string nm) false).run Tryd.prog w = .ok (.int .i64 ((vals nm l).length : Nat)) w := by
  obtain ⟨D, hown, hD, hc⟩ := h
  obtain ⟨c, hrun, hat, _⟩ := hown.lookup_int str_law Tryd.underlying47 Tryd.underlying3 (int_zero w) (Go.WideMaps.keyOf_string_mk Tryd.underlying9 hs)
  rw [hrun, lit_eqn hat (hc nm)]

theorem one_no {x : Nat} (h : x ≠ 1) : ((x : Int) == 1) = false := beq_eq_false_iff_ne.2 (by omega)
def wholeB (a s p h n : Nat) : Bool := decide (a = 1) && (decide (s = 1) && (decide (p = 1) && (decide (h ≤ 1) && decide (n = 3 + h))))
theorem whole_head (hd : List Fd) : wholeB (vals nM hd).length (vals nS hd).length (vals nP hd).length (vals nA hd).length hd.length = headB hd := rfl
set_option maxRecDepth 100000 in
set_option maxHeartbeats 3200000 in
theorem rq_isWhole (A : Option Addr) (n c mb : Nat) (l : List Fd) (w : World) (hfl : FL w A n c l) (hm : Mod l) (hmet : MetS w mb l) :
    Calls Tryd.prog 27 #[.slice A n c, .map (some mb)] w fun e w' => e = .returned (.bool (headB l)) ∧ w = w' := by
  have hn : (n : Int) ≤ 1000 := by have := hm.1; have := hfl.len; omega
  have r1 := hmet.run nM (by unfold maxLen; decide)
  have r2 := hmet.run nS (by unfold maxLen; decide)
  have r3 := hmet.run nP (by unfold maxLen; decide)
  have r4 := hmet.run nA (by unfold maxLen; decide)
  have hle : ∀ nm, (vals nm l).length ≤ l.length := fun nm => by unfold vals; rw [List.length_map]; exact List.length_filter_le _ _
  have b4 := hle nA
  rw [hfl.len] at b4
  have HV := hide (whole_head l)
  rw [hfl.len] at HV
  obtain ⟨a, ha⟩ : ∃ a, a = (vals nM l).length := ⟨_, rfl⟩
  obtain ⟨s, hs⟩ : ∃ s, s = (vals nS l).length := ⟨_, rfl⟩
  obtain ⟨p, hp⟩ : ∃ p, p = (vals nP l).length := ⟨_, rfl⟩
  obtain ⟨h, hh⟩ : ∃ h, h = (vals nA l).length := ⟨_, rfl⟩
  obtain ⟨v, hv⟩ : ∃ v, v = headB l := ⟨_, rfl⟩
  rw [← ha] at r1 HV
  rw [← hs] at r2 HV
  rw [← hp] at r3 HV
  rw [← hh] at r4 HV b4
  rw [← hv] at HV ⊢
  have hh1 : (h : Int) ≤ 1000 := by omega
  clear ha hs hp hh hv hle hfl hm hmet b4
  simp only [nM, nS, nP, nA] at r1 r2 r3 r4
  by_cases e1 : a = 1
  · subst e1
    by_cases e2 : s = 1
    · subst e2
      by_cases e3 : p = 1
      · subst e3
        by_cases e4 : (h : Int) ≤ 1
        · by_cases e5 : n = 3 + h
          · have d5 : ((n : Int) == 3 + (h : Int)) = true := beq_iff_eq.2 (by omega)
            have HT := hide (show wholeB 1 1 1 h n = true by unfold wholeB; rw [decide_eq_true (show h ≤ 1 by omega), decide_eq_true e5]; rfl)
            clear e5
            go_enter Tryd.func27, Tryd.ntmps27
            go_wp2
            go_ret
            exact ⟨by rw [← HV.out, HT.out]; rfl, rfl⟩
          · have d5 : ((n : Int) == 3 + (h : Int)) = false := beq_eq_false_iff_ne.2 (by omega)
            have HT := hide (show wholeB 1 1 1 h n = false by unfold wholeB; rw [decide_eq_false e5]; simp)
            clear e5
            go_enter Tryd.func27, Tryd.ntmps27
            go_wp2
            go_ret
            exact ⟨by rw [← HV.out, HT.out]; rfl, rfl⟩
        · have HT := hide (show wholeB 1 1 1 h n = false by unfold wholeB; rw [decide_eq_false (show ¬ h ≤ 1 by omega)]; simp)
          go_enter Tryd.func27, Tryd.ntmps27
          go_wp2
          go_ret
          exact ⟨by rw [← HV.out, HT.out]; rfl, rfl⟩
      · have d3 := one_no e3
        have HT := hide (show wholeB 1 1 p h n = false by unfold wholeB; rw [decide_eq_false e3]; simp)
        clear e3
        go_enter Tryd.func27, Tryd.ntmps27
        go_wp2
        go_ret
        exact ⟨by rw [← HV.out, HT.out]; rfl, rfl⟩
    · have d2 := one_no e2
      have HT := hide (show wholeB 1 s p h n = false by unfold wholeB; rw [decide_eq_false e2]; simp)
      clear e2
      go_enter Tryd.func27, Tryd.ntmps27
      go_wp2
      go_ret
      exact ⟨by rw [← HV.out, HT.out]; rfl, rfl⟩
  · have d1 := one_no e1
    have HT := hide (show wholeB a s p h n = false by unfold wholeB; rw [decide_eq_false e1]; simp)
    clear e1
    go_enter Tryd.func27, Tryd.ntmps27
    go_wp2
    go_ret
    exact ⟨by rw [← HV.out, HT.out]; rfl, rfl⟩
end Go.Proofs.YtlbhnbloanamfaaDoor
