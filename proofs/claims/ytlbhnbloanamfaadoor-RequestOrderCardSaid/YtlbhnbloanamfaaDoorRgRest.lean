/-
  Layer 17: the document's rest, Trailers.
-/
import Derived.Test.YtlbhnbloanamfaaDoorRqLen
import Derived.Test.YtlbhnbloanamfaaDoorRqVal2
import Derived.Test.YtlbhnbloanamfaaDoorFdNew
import Derived.Test.YtlbhnbloanamfaaDoorStrSame
namespace Go.Proofs.YtlbhnbloanamfaaDoor
set_option linter.unusedSimpArgs false
set_option linter.unusedVariables false
open Go.RowKit

/-- Not a field of te that is right. -/
def notTe (f : Fd) : Bool := !(decide (f.n = nTe) && decide (f.v = vTrail))
def restL (l : List Fd) : List Fd := l.filter notTe
theorem rest_succ {l : List Fd} {i : Nat} {f : Fd} (hf : l[i]? = some f) : restL (l.take (i + 1)) = restL (l.take i) ++ (if notTe f = true then [f] else []) := by
  unfold restL
  rw [List.take_add_one, hf, Option.toList_some, List.filter_append]
  congr 1
  by_cases h : notTe f = true
  · simp [h]
  · simp [h]
theorem rest_le (l : List Fd) : (restL l).length ≤ l.length := List.length_filter_le _ _

set_option maxRecDepth 100000 in
set_option maxHeartbeats 3200000 in
theorem rg_rest (A : Option Addr) (n c : Nat) (l : List Fd) (w : World) (hfl : FL w A n c l) (hm : (n : Int) ≤ 100000) :
    Calls Tryd.prog 36 #[.slice A n c] w (GivesFl w (restL l)) := by
  obtain ⟨g, hg⟩ : ∃ g, g = w.heap.size := ⟨_, rfl⟩
  have HG := hide hg
  have HFL := hide hfl
  clear hg hfl
  go_enter Tryd.func36, Tryd.ntmps36
  go_wp2_with fail
  go_loopw [3, 4] (fun s3 s4 wr => ∃ i : Nat, i ≤ n ∧ s4 = .int .i64 (i : Int) ∧ Hid (wr.ownsRow g 42 3 s3 (restL (l.take i)).length (fcs (restL (l.take i)))) ∧ Hid (Below g w wr)) (fun _ s4 _ => n - (intOf s4).toNat)
  case atStart => exact ⟨0, by omega, rfl, hide (World.ownsRow_nil _ _ _ _), hide (Below.refl _ _)⟩
  case round =>
    obtain ⟨i, hi, rfl, HO, HB⟩ := hrel
    have HZ := hide (show g ≤ wr.heap.size by rw [HG.out]; exact (show Below w.heap.size w wr by rw [← HG.out]; exact HB.out).size)
    have HLr := hide (HFL.out.keep (show Below w.heap.size w wr by rw [← HG.out]; exact HB.out))
    by_cases hlt : i < n
    · have hlt' : (i : Int) < (n : Int) := by omega
      obtain ⟨f, b, off, hfd, rfl, hbl, c0, c1, c2⟩ := HLr.out.round hlt
      have hvs := rest_succ hfd
      have hle : (restL (l.take i)).length ≤ 100000 := by
        have := rest_le (l.take i)
        have := HLr.out.len
        rw [List.length_take] at *
        omega
      clear hfd
      have hcase : (f.n = nTe ∧ f.v = vTrail) ∨ f.n ≠ nTe ∨ (f.n = nTe ∧ f.v ≠ vTrail) := by
        by_cases h1 : f.n = nTe
        · by_cases h2 : f.v = vTrail
          · exact .inl ⟨h1, h2⟩
          · exact .inr (.inr ⟨h1, h2⟩)
        · exact .inr (.inl h1)
      rcases hcase with ⟨h1, h2⟩ | h1 | ⟨h1, h2⟩
      · have e1 : (f.n.toList == [116, 101]) = true := lit_same h1
        have e1n : (f.n.toList != [116, 101]) = false := by rw [bne, e1]; rfl
        have e2 : (f.v.toList == [116, 114, 97, 105, 108, 101, 114, 115]) = true := lit_same h2
        have e2n : (f.v.toList != [116, 114, 97, 105, 108, 101, 114, 115]) = false := by rw [bne, e2]; rfl
        rw [if_neg (by unfold notTe; rw [decide_eq_true h1, decide_eq_true h2]; decide), List.append_nil] at hvs
        have HVS := hide hvs
        clear h1 h2 hvs hle
        go_wp2_with fail
        go_roundw
        case rel => exact ⟨i + 1, by omega, by go_num, hide (by have h := HO.out; rw [← HVS.out] at h; exact h), HB⟩
        case measure => simp [intOf]; omega
      · have e1 : (f.n.toList == [116, 101]) = false := lit_not h1
        have e1n : (f.n.toList != [116, 101]) = true := by rw [bne, e1]; rfl
        rw [if_pos (by unfold notTe; rw [decide_eq_false h1]; rfl)] at hvs
        clear h1
        have HY := hide (fl_new1 wr f.n f.v f.x)
        have HB2 := hide (HB.out.alloc HZ.out (.cells #[.string f.n, .string f.v, .bool f.x] 42))
        have HO2 := hide (HO.out.alloc (.cells #[.string f.n, .string f.v, .bool f.x] 42))
        have HS := hide (show g ≤ (wr.alloc (.cells #[.string f.n, .string f.v, .bool f.x] 42)).heap.size by have := HZ.out; simp; omega)
        have HVS := hide hvs
        have HLEN := hide hle
        clear hvs hle HO HB
        go_wp2_with (at_builtin; refine wpList_append_fl _ rfl (.tmp 25) (.tmp 30) rfl g _ _ (restL (l.take i)) rfl HO2.out (some ⟨wr.heap.size, 0, none⟩) 1 1 [f] rfl HY.out (by have := HLEN.out; omega) HS.out ?_; intro v1 w1 hown1 hg1; have HO1 := hide hown1; have HG1 := hide hg1; clear hown1 hg1)
        go_roundw
        case rel => exact ⟨i + 1, by omega, by go_num, hide (by have h := HO1.out; rw [← HVS.out] at h; have e : (restL (l.take i)).length + 1 = (restL (l.take (i + 1))).length := by { rw [HVS.out]; simp }; rw [e] at h; exact h), hide (own_below_f HO2.out HB2.out (Nat.le_refl _) (by have := HG.out; omega) HG1.out)⟩
        case measure => simp [intOf]; omega
      · have e1 : (f.n.toList == [116, 101]) = true := lit_same h1
        have e1n : (f.n.toList != [116, 101]) = false := by rw [bne, e1]; rfl
        have e2 : (f.v.toList == [116, 114, 97, 105, 108, 101, 114, 115]) = false := lit_not h2
        have e2n : (f.v.toList != [116, 114, 97, 105, 108, 101, 114, 115]) = true := by rw [bne, e2]; rfl
        rw [if_pos (by unfold notTe; rw [decide_eq_true h1, decide_eq_false h2]; rfl)] at hvs
        clear h1 h2
        have HY := hide (fl_new1 wr f.n f.v f.x)
        have HB2 := hide (HB.out.alloc HZ.out (.cells #[.string f.n, .string f.v, .bool f.x] 42))
        have HO2 := hide (HO.out.alloc (.cells #[.string f.n, .string f.v, .bool f.x] 42))
        have HS := hide (show g ≤ (wr.alloc (.cells #[.string f.n, .string f.v, .bool f.x] 42)).heap.size by have := HZ.out; simp; omega)
        have HVS := hide hvs
        have HLEN := hide hle
        clear hvs hle HO HB
        go_wp2_with (at_builtin; refine wpList_append_fl _ rfl (.tmp 25) (.tmp 30) rfl g _ _ (restL (l.take i)) rfl HO2.out (some ⟨wr.heap.size, 0, none⟩) 1 1 [f] rfl HY.out (by have := HLEN.out; omega) HS.out ?_; intro v1 w1 hown1 hg1; have HO1 := hide hown1; have HG1 := hide hg1; clear hown1 hg1)
        go_roundw
        case rel => exact ⟨i + 1, by omega, by go_num, hide (by have h := HO1.out; rw [← HVS.out] at h; have e : (restL (l.take i)).length + 1 = (restL (l.take (i + 1))).length := by { rw [HVS.out]; simp }; rw [e] at h; exact h), hide (own_below_f HO2.out HB2.out (Nat.le_refl _) (by have := HG.out; omega) HG1.out)⟩
        case measure => simp [intOf]; omega
    · have hge : ¬ (i : Int) < (n : Int) := by omega
      obtain rfl : i = n := by omega
      have HE := hide (show l.take i = l by rw [← HLr.out.len, List.take_length])
      go_wp2
      go_ret
      refine ⟨_, rfl, ?_, ?_⟩
      · rw [← HG.out]; have h := HO.out; rw [HE.out] at h; exact h
      · rw [← HG.out]; exact HB.out

/-- May a field stand among trailers? -/
def trF (f : Fd) : Bool := tokB f.n && (valB f.v && !(connB f.n || decide (f.n = nTe)))
theorem trail_all (l : List Fd) : trailB l = l.all trF := by
  unfold trailB rightL
  induction l with
  | nil => rfl
  | cons f l ih =>
    rw [List.all_cons, List.all_cons, ← ih]
    have hv : vals nTe (f :: l) = vals nTe [f] ++ vals nTe l := vals_app nTe [f] l
    rw [hv, List.length_append]
    by_cases h : f.n = nTe
    · have e : (vals nTe [f]).length = 1 := by rw [vals_one_yes h]; rfl
      rw [e, decide_eq_false (show ¬ 1 + (vals nTe l).length = 0 by omega), Bool.and_false]
      simp [trF, h]
    · have e : (vals nTe [f]).length = 0 := by rw [vals_one_no h]; rfl
      rw [e, Nat.zero_add]
      have : trF f = rightF f := by
        unfold trF rightF
        rw [decide_eq_false h, Bool.or_false]
        cases tokB f.n <;> cases valB f.v <;> cases connB f.n <;> rfl
      rw [this, Bool.and_assoc]
theorem all_to {p : Fd → Bool} {l : List Fd} (h : NoneYet (fun f => !p f) l l.length) : l.all p = true := by
  rw [List.all_eq_true]
  intro f hf
  have := NoneYet.all h f hf
  simpa using this
theorem all_bad {p : Fd → Bool} {l : List Fd} {i : Nat} {f : Fd} (h : l[i]? = some f) (hp : p f = false) : l.all p = false := by
  cases hq : l.all p with
  | false => rfl
  | true => rw [List.all_eq_true.1 hq f (List.mem_of_getElem? h)] at hp; cases hp

set_option maxRecDepth 100000 in
set_option maxHeartbeats 3200000 in
theorem rg_Trailers (A : Option Addr) (n c : Nat) (l : List Fd) (w : World) (hfl : FL w A n c l) (hm : Mod l) :
    Calls Tryd.prog 13 #[.slice A n c] w fun e w' => e = .returned (.bool (trailB l)) ∧ w = w' := by
  rw [trail_all]
  have hn : (n : Int) ≤ 1000 := by have := hm.1; have := hfl.len; omega
  obtain ⟨R, hR⟩ : ∃ R, R = l.all trF := ⟨_, rfl⟩
  rw [← hR]
  have HR := hide hR
  have HFL := hide hfl
  have HM := hide hm
  clear hfl hm hR
  go_enter Tryd.func13, Tryd.ntmps13
  go_wp2_with fail
  go_loopw [3] (fun s3 wr => ∃ i : Nat, i ≤ n ∧ s3 = .int .i64 (i : Int) ∧ Hid (NoneYet (fun f => !trF f) l i) ∧ wr = w) (fun s3 _ => n - (intOf s3).toNat)
  case atStart => exact ⟨0, by omega, rfl, hide (.zero _ _), by first | rfl | trivial⟩
  case round =>
    obtain ⟨i, hi, rfl, HN, rfl⟩ := hrel
    by_cases hlt : i < n
    · have hlt' : (i : Int) < (n : Int) := by omega
      obtain ⟨f, b, off, hfd, rfl, hbl, c0, c1, c2⟩ := HFL.out.round hlt
      have HFD := hide hfd
      have hsz := HM.out.at hfd
      have HT := hide (fun w => rg_Token f.n (by omega) w)
      have HV := hide (fun w => rg_value f.v (by omega) w)
      have HF := hide (show trF f = (tokB f.n && (valB f.v && !(connB f.n || decide (f.n = nTe)))) from rfl)
      clear hfd hsz
      generalize tokB f.n = t at HT HF
      generalize valB f.v = u at HV HF
      cases t with
      | false =>
        go_wp2_with (go_at_call 17; refine (HT.out _).mono ?_; rintro e w2 ⟨rfl, rfl⟩)
        go_ret
        exact ⟨by rw [HR.out, all_bad HFD.out (by rw [HF.out]; rfl)]; rfl, by first | rfl | trivial⟩
      | true =>
        cases u with
        | false =>
          go_wp2_with (first
            | (go_at_call 17; refine (HT.out _).mono ?_; rintro e w2 ⟨rfl, rfl⟩)
            | (go_at_call 37; refine (HV.out _).mono ?_; rintro e w2 ⟨rfl, rfl⟩))
          go_ret
          exact ⟨by rw [HR.out, all_bad HFD.out (by rw [HF.out]; rfl)]; rfl, by first | rfl | trivial⟩
        | true =>
          by_cases h0 : f.n = nConn
          · have e0 : (f.n.toList == [99, 111, 110, 110, 101, 99, 116, 105, 111, 110]) = true := lit_same h0
            have HC := hide (show trF f = false by rw [HF.out, show connB f.n = true by unfold connB; rw [decide_eq_true h0]; rfl]; rfl)
            clear HF h0
            go_wp2_with (first
              | (go_at_call 17; refine (HT.out _).mono ?_; rintro e w2 ⟨rfl, rfl⟩)
              | (go_at_call 37; refine (HV.out _).mono ?_; rintro e w2 ⟨rfl, rfl⟩))
            go_ret
            exact ⟨by rw [HR.out, all_bad HFD.out HC.out]; rfl, by first | rfl | trivial⟩
          have e0 : (f.n.toList == [99, 111, 110, 110, 101, 99, 116, 105, 111, 110]) = false := lit_not h0
          by_cases h1 : f.n = nKeep
          · have e1 : (f.n.toList == [107, 101, 101, 112, 45, 97, 108, 105, 118, 101]) = true := lit_same h1
            have HC := hide (show trF f = false by rw [HF.out, show connB f.n = true by unfold connB; rw [decide_eq_false h0, decide_eq_true h1]; rfl]; rfl)
            clear HF h0 h1
            go_wp2_with (first
              | (go_at_call 17; refine (HT.out _).mono ?_; rintro e w2 ⟨rfl, rfl⟩)
              | (go_at_call 37; refine (HV.out _).mono ?_; rintro e w2 ⟨rfl, rfl⟩))
            go_ret
            exact ⟨by rw [HR.out, all_bad HFD.out HC.out]; rfl, by first | rfl | trivial⟩
          have e1 : (f.n.toList == [107, 101, 101, 112, 45, 97, 108, 105, 118, 101]) = false := lit_not h1
          by_cases h2 : f.n = nProxy
          · have e2 : (f.n.toList == [112, 114, 111, 120, 121, 45, 99, 111, 110, 110, 101, 99, 116, 105, 111, 110]) = true := lit_same h2
            have HC := hide (show trF f = false by rw [HF.out, show connB f.n = true by unfold connB; rw [decide_eq_false h0, decide_eq_false h1, decide_eq_true h2]; rfl]; rfl)
            clear HF h0 h1 h2
            go_wp2_with (first
              | (go_at_call 17; refine (HT.out _).mono ?_; rintro e w2 ⟨rfl, rfl⟩)
              | (go_at_call 37; refine (HV.out _).mono ?_; rintro e w2 ⟨rfl, rfl⟩))
            go_ret
            exact ⟨by rw [HR.out, all_bad HFD.out HC.out]; rfl, by first | rfl | trivial⟩
          have e2 : (f.n.toList == [112, 114, 111, 120, 121, 45, 99, 111, 110, 110, 101, 99, 116, 105, 111, 110]) = false := lit_not h2
          by_cases h3 : f.n = nTrans
          · have e3 : (f.n.toList == [116, 114, 97, 110, 115, 102, 101, 114, 45, 101, 110, 99, 111, 100, 105, 110, 103]) = true := lit_same h3
            have HC := hide (show trF f = false by rw [HF.out, show connB f.n = true by unfold connB; rw [decide_eq_false h0, decide_eq_false h1, decide_eq_false h2, decide_eq_true h3]; rfl]; rfl)
            clear HF h0 h1 h2 h3
            go_wp2_with (first
              | (go_at_call 17; refine (HT.out _).mono ?_; rintro e w2 ⟨rfl, rfl⟩)
              | (go_at_call 37; refine (HV.out _).mono ?_; rintro e w2 ⟨rfl, rfl⟩))
            go_ret
            exact ⟨by rw [HR.out, all_bad HFD.out HC.out]; rfl, by first | rfl | trivial⟩
          have e3 : (f.n.toList == [116, 114, 97, 110, 115, 102, 101, 114, 45, 101, 110, 99, 111, 100, 105, 110, 103]) = false := lit_not h3
          by_cases h4 : f.n = nUp
          · have e4 : (f.n.toList == [117, 112, 103, 114, 97, 100, 101]) = true := lit_same h4
            have HC := hide (show trF f = false by rw [HF.out, show connB f.n = true by unfold connB; rw [decide_eq_false h0, decide_eq_false h1, decide_eq_false h2, decide_eq_false h3, decide_eq_true h4]; rfl]; rfl)
            clear HF h0 h1 h2 h3 h4
            go_wp2_with (first
              | (go_at_call 17; refine (HT.out _).mono ?_; rintro e w2 ⟨rfl, rfl⟩)
              | (go_at_call 37; refine (HV.out _).mono ?_; rintro e w2 ⟨rfl, rfl⟩))
            go_ret
            exact ⟨by rw [HR.out, all_bad HFD.out HC.out]; rfl, by first | rfl | trivial⟩
          have e4 : (f.n.toList == [117, 112, 103, 114, 97, 100, 101]) = false := lit_not h4
          by_cases h5 : f.n = nTe
          · have e5 : (f.n.toList == [116, 101]) = true := lit_same h5
            have HC := hide (show trF f = false by rw [HF.out, decide_eq_true h5, Bool.or_true]; rfl)
            clear HF h0 h1 h2 h3 h4 h5
            go_wp2_with (first
              | (go_at_call 17; refine (HT.out _).mono ?_; rintro e w2 ⟨rfl, rfl⟩)
              | (go_at_call 37; refine (HV.out _).mono ?_; rintro e w2 ⟨rfl, rfl⟩))
            go_ret
            exact ⟨by rw [HR.out, all_bad HFD.out HC.out]; rfl, by first | rfl | trivial⟩
          have e5 : (f.n.toList == [116, 101]) = false := lit_not h5
          have HC := hide (show trF f = true by rw [HF.out, show connB f.n = false by unfold connB; rw [decide_eq_false h0, decide_eq_false h1, decide_eq_false h2, decide_eq_false h3, decide_eq_false h4]; rfl, decide_eq_false h5]; rfl)
          clear HF h0 h1 h2 h3 h4 h5
          go_wp2_with (first
            | (go_at_call 17; refine (HT.out _).mono ?_; rintro e w2 ⟨rfl, rfl⟩)
            | (go_at_call 37; refine (HV.out _).mono ?_; rintro e w2 ⟨rfl, rfl⟩))
          go_roundw
          case rel => exact ⟨i + 1, by omega, by go_num, hide (HN.out.succ HFD.out (by simp [HC.out])), by first | rfl | trivial⟩
          case measure => simp [intOf]; omega
    · have hge : ¬ (i : Int) < (n : Int) := by omega
      obtain rfl : i = n := by omega
      go_wp2
      go_ret
      exact ⟨by rw [HR.out, all_to (by rw [HFL.out.len]; exact HN.out)]; rfl, by first | rfl | trivial⟩
end Go.Proofs.YtlbhnbloanamfaaDoor
