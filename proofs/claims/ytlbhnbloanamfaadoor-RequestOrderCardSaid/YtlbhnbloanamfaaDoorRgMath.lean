/-
  Layer 17: the document's Read as plain data is Read.
-/
import Derived.Test.YtlbhnbloanamfaaDoorRgOne
import Derived.Test.YtlbhnbloanamfaaDoorRgRest
namespace Go.Proofs.YtlbhnbloanamfaaDoor
set_option linter.unusedSimpArgs false
set_option linter.unusedVariables false
open Go.RowKit

theorem methI_ok {z : Int} (h : methI z = true) : badV z = false ∧ blankI z = false := by
  have h0 : methI 0 = false := by decide
  have h10 : methI 10 = false := by decide
  have h13 : methI 13 = false := by decide
  have h32 : methI 32 = false := by decide
  have h9 : methI 9 = false := by decide
  have key : z ≠ 0 ∧ z ≠ 10 ∧ z ≠ 13 ∧ z ≠ 32 ∧ z ≠ 9 := by
    refine ⟨?_, ?_, ?_, ?_, ?_⟩ <;> (rintro rfl; simp_all)
  obtain ⟨a, b, c, d, e⟩ := key
  exact ⟨by unfold badV; rw [decide_eq_false a, decide_eq_false b, decide_eq_false c]; rfl, by unfold blankI; rw [decide_eq_false d, decide_eq_false e]; rfl⟩
theorem met_val {s : ByteArray} (h : metB s = true) : valB s = true := by
  obtain ⟨h0, -, ha⟩ := madeB_parts h
  rw [List.all_eq_true] at ha
  unfold valB endsB
  rw [Bool.and_eq_true]
  have hne : bts s ≠ [] := fun e => by have := bts_len s; rw [e] at this; simp at this; omega
  refine ⟨List.all_eq_true.2 fun z hz => by rw [(methI_ok (ha z hz)).1]; rfl, ?_⟩
  rw [Bool.or_eq_true, Bool.and_eq_true]
  refine .inr ⟨?_, ?_⟩
  · have : (bts s).headD 0 ∈ bts s := by
      cases hb : bts s with
      | nil => exact absurd hb hne
      | cons a r => simp
    rw [(methI_ok (ha _ this)).2]; rfl
  · have : (bts s).getLastD 0 ∈ bts s := by
      rw [List.getLastD_eq_getLast?, List.getLast?_eq_some_getLast hne]
      exact List.getLast_mem hne
    rw [(methI_ok (ha _ this)).2]; rfl
theorem rest_trail (l : List Fd) : trailB (restL l) = (rightL l && !teB l) := by
  rw [trail_all]
  unfold restL rightL teB
  induction l with
  | nil => rfl
  | cons f l ih =>
    rw [List.all_cons, List.any_cons, Bool.not_or]
    by_cases h : notTe f = true
    · rw [List.filter_cons_of_pos h, List.all_cons, ih]
      have : trF f = (rightF f && !teF f) := by
        unfold trF rightF teF
        unfold notTe at h
        cases ht : decide (f.n = nTe) with
        | false => cases tokB f.n <;> cases valB f.v <;> cases connB f.n <;> rfl
        | true =>
          rw [ht] at h
          cases hv : decide (f.v = vTrail) with
          | false => cases tokB f.n <;> cases valB f.v <;> cases connB f.n <;> rfl
          | true => rw [hv] at h; cases h
      rw [this]
      cases rightF f <;> cases teF f <;> cases l.all rightF <;> cases l.any teF <;> rfl
    · rw [List.filter_cons_of_neg h, ih]
      have h' : f.n = nTe ∧ f.v = vTrail := by
        unfold notTe at h
        simpa using h
      have h1 : rightF f = true := by
        unfold rightF
        rw [h'.1, h'.2]
        decide +kernel
      have h2 : teF f = false := by
        unfold teF
        rw [decide_eq_true h'.1, decide_eq_true h'.2]; rfl
      rw [h1, h2]
      cases l.all rightF <;> cases l.any teF <;> rfl
theorem val_nil : valB bNil = true := by decide
theorem val_star : valB bStar = true := by decide
theorem rank_nil : rankI bNil = 3 := by decide
theorem right_first {tl : List Fd} (h : rightL tl = true) (nm : ByteArray) : valB (fst' nm tl) = true := by
  unfold fst'
  cases hv : vals nm tl with
  | nil => exact val_nil
  | cons v vs =>
    have hm : v ∈ vals nm tl := by rw [hv]; exact List.mem_cons_self
    unfold vals at hm
    obtain ⟨f, hf, rfl⟩ := List.mem_map.1 hm
    have := List.all_eq_true.1 h f (List.mem_filter.1 hf).1
    unfold rightF at this
    simp only [Bool.and_eq_true] at this
    exact this.2.2
theorem sch_val {s : ByteArray} (h : schB s = true) : valB s = true := by
  unfold schB at h
  rw [Bool.or_eq_true] at h
  rcases h with h | h
  · rw [of_decide_eq_true h]; decide
  · rw [of_decide_eq_true h]; decide

/-- The document's tests, in its order. -/
def okD1 (hd tl : List Fd) (d : Bool) : Bool := oneB nM hd && (oneB nS hd && (oneB nP hd && (d && (metB (oneT nM hd) && (schB (oneT nS hd) && (decide ((vals nA hd).length ≤ 1) && (decide (hd.length = 3 + (vals nA hd).length) && trailB (restL tl))))))))
def pathD (p m : ByteArray) : Bool := prefB bSlash p || (decide (p = bStar) && decide (m = bOpt))
def okD2 (p m : ByteArray) (e : Bool) (n : Int) : Bool := pathD p m && (!e || decide (n ≤ 0))
theorem okD1_one {hd tl : List Fd} {d : Bool} (h : okD1 hd tl d = true) : oneT nM hd = fst' nM hd ∧ oneT nS hd = fst' nS hd ∧ oneT nP hd = fst' nP hd := by
  unfold okD1 oneB at h
  simp only [Bool.and_eq_true, decide_eq_true_eq] at h
  exact ⟨if_pos h.1.1, if_pos h.2.1.1, if_pos h.2.2.1.1⟩
theorem all_small {hs : List ByteArray} (h : hs.length ≤ 1) : hs.all valB = (decide (hs.length = 0) || valB (hs.headD bNil)) := by
  match hs, h with
  | [], _ => rfl
  | [v], _ => simp
theorem ok_doc (hd tl : List Fd) (e : Bool) (n : Int) : (okD1 hd tl true && (okD2 (oneT nP hd) (oneT nM hd) e n && (vals nA hd).all valB)) = okB hd tl e n := by
  rw [Bool.eq_iff_iff]
  constructor
  · intro h
    rw [Bool.and_eq_true] at h
    obtain ⟨h1, h⟩ := h
    obtain ⟨eM, eS, eP⟩ := okD1_one h1
    rw [eM, eP] at h
    unfold okD1 at h1
    rw [eM, eS] at h1
    unfold oneB at h1
    simp only [Bool.and_eq_true, decide_eq_true_eq] at h1
    obtain ⟨⟨lM, vM⟩, ⟨lS, vS⟩, ⟨lP, vP⟩, -, hmet, hsch, hle, hlen, htr⟩ := h1
    rw [rest_trail, Bool.and_eq_true] at htr
    unfold okD2 pathD at h
    simp only [Bool.and_eq_true] at h
    obtain ⟨⟨hp, he⟩, hall⟩ := h
    unfold okB
    rw [Bool.and_eq_true, Bool.and_eq_true, Bool.and_eq_true]
    refine ⟨?_, ?_, ?_, by rw [Bool.and_eq_true]; exact htr⟩
    · cases e with
      | false => rfl
      | true =>
        have h0 : n ≤ 0 := by simpa using he
        rw [decide_eq_false (show ¬ 0 < n by omega)]; rfl
    · unfold headB
      rw [decide_eq_true lM, decide_eq_true lS, decide_eq_true lP, decide_eq_true hle, decide_eq_true hlen]; rfl
    · unfold tgtB mkQ
      simp only [Bool.and_eq_true]
      refine ⟨hmet, hsch, ?_, ?_⟩
      · unfold pathB
        simp only
        rw [vP, Bool.and_true]
        exact hp
      · unfold hostV
        split
        · exact right_first htr.1 _
        · rename_i hne
          rw [all_small hle, decide_eq_false hne] at hall
          exact hall
  · intro h
    unfold okB at h
    rw [Bool.and_eq_true, Bool.and_eq_true, Bool.and_eq_true] at h
    obtain ⟨he, hh, ht, htr⟩ := h
    unfold headB at hh
    simp only [Bool.and_eq_true, decide_eq_true_eq] at hh
    obtain ⟨lM, lS, lP, hle, hlen⟩ := hh
    have eM : oneT nM hd = fst' nM hd := if_pos lM
    have eS : oneT nS hd = fst' nS hd := if_pos lS
    have eP : oneT nP hd = fst' nP hd := if_pos lP
    unfold tgtB mkQ at ht
    simp only [Bool.and_eq_true] at ht
    obtain ⟨hmet, hsch, hpath, hhost⟩ := ht
    have vP : valB (fst' nP hd) = true := by
      unfold pathB at hpath
      simp only [Bool.or_eq_true, Bool.and_eq_true, decide_eq_true_eq] at hpath
      rcases hpath with h | h
      · exact h.2
      · rw [h.1]; exact val_star
    rw [Bool.and_eq_true, Bool.and_eq_true]
    refine ⟨?_, ?_, ?_⟩
    · unfold okD1 oneB
      rw [eM, eS, decide_eq_true lM, decide_eq_true lS, decide_eq_true lP, met_val hmet, sch_val hsch, vP, hmet, hsch, decide_eq_true hle, decide_eq_true hlen, rest_trail, htr]
      rfl
    · unfold okD2 pathD
      rw [eM, eP, Bool.and_eq_true]
      refine ⟨?_, ?_⟩
      · unfold pathB at hpath
        simp only at hpath
        rw [vP, Bool.and_true] at hpath
        exact hpath
      · cases e with
        | false => rfl
        | true =>
          have h0 : ¬ 0 < n := by simpa using he
          rw [decide_eq_true (show n ≤ 0 by omega)]; rfl
    · rw [all_small hle]
      unfold hostV at hhost
      split at hhost
      · rename_i h0
        rw [decide_eq_true h0]; rfl
      · rw [Bool.or_eq_true]
        exact .inr hhost
/-- What length answers, parted. -/
def LenD (r : Option Int) (n : Int) (is : Bool) : Prop := (is = true → r = some n) ∧ (is = false → r = none)
theorem len_d (l : List Fd) : ∃ n is, lenEnd (lenR l) = .returned (.tuple #[.int .i64 n, .bool is]) ∧ LenD (lenR l) n is ∧ -1 ≤ n ∧ n ≤ 999999999 := by
  cases h : lenR l with
  | none => exact ⟨0, false, rfl, ⟨fun e => (by cases e), fun _ => rfl⟩, by omega, by omega⟩
  | some n =>
    have := lenR_bd h
    exact ⟨n, true, rfl, ⟨fun _ => rfl, fun e => (by cases e)⟩, this.1, this.2⟩
theorem okD1_no (hd tl : List Fd) : okD1 hd tl false = false := by
  unfold okD1
  simp
/-- What Read answers, by the document's tests. -/
theorem ans_doc {l : List Fd} {e : Bool} {n : Int} {d : Bool} (hl : LenD (lenR (tlL l)) n d) :
    ansV (readR l e) = if (okD1 (hdL l) (tlL l) d && (okD2 (oneT nP (hdL l)) (oneT nM (hdL l)) e n && (vals nA (hdL l)).all valB)) = true then .tuple #[.agg (mkQ (hdL l) (tlL l) n).cs, .bool true] else .tuple #[.agg noRq.cs, .bool false] := by
  unfold readR
  cases d with
  | false =>
    rw [hl.2 rfl, okD1_no]
    rfl
  | true =>
    rw [hl.1 rfl, ok_doc]
    simp only
    split
    · rfl
    · rfl
theorem host_head (hd tl : List Fd) : (vals nA hd ++ vals nHost tl).headD bNil = hostV hd tl := by
  unfold hostV fst'
  cases h : vals nA hd with
  | nil => rfl
  | cons v vs => rfl
theorem all_take_succ {hs : List ByteArray} {i : Nat} {v : ByteArray} (h : hs[i]? = some v) : (hs.take (i + 1)).all valB = ((hs.take i).all valB && valB v) := by
  rw [List.take_add_one, h, Option.toList_some, List.all_append]
  simp
theorem rank_first {l : List ByteArray} {k : Int} (h : k = if l.length = 0 then 3 else rankI (l.headD bNil)) : k = rankI (l.headD bNil) := by
  cases l with
  | nil => rw [h]; rfl
  | cons v vs => rw [h]; rfl
end Go.Proofs.YtlbhnbloanamfaaDoor
