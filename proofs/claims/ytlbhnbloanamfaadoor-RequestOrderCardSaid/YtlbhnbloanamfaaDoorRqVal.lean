/-
  Layer 17: right values: the program's isValue, the document's value.
-/
import Derived.Test.YtlbhnbloanamfaaDoorRqAny
import Derived.Test.YtlbhnbloanamfaaDoorRqTok
namespace Go.Proofs.YtlbhnbloanamfaaDoor
set_option linter.unusedSimpArgs false
set_option linter.unusedVariables false
open Go.RowKit

theorem good_fin : ∀ c : Fin 256, nl3.data.toList.contains (UInt8.ofNat c.val) = !goodV (c.val : Int) := by decide +kernel
theorem good_is (c : UInt8) : nl3.data.toList.contains c = !goodV (c.toNat : Int) := by
  have := good_fin ⟨c.toNat, c.toNat_lt⟩
  simpa using this
theorem any_list (l : List UInt8) : decide (0 ≤ Lib.indexAny l nl3.data.toList) = !(l.map (fun c => (c.toNat : Int))).all goodV := by
  induction l with
  | nil => rfl
  | cons b l ih =>
    have hge := Lib.indexAny_ge nl3.data.toList l
    rw [Lib.indexAny, List.map_cons, List.all_cons]
    have hb := good_is b
    cases hg : goodV (b.toNat : Int) with
    | false =>
      rw [hg] at hb
      rw [if_pos (by rw [hb]; rfl)]
      rfl
    | true =>
      rw [hg] at hb
      rw [if_neg (by rw [hb]; simp)]
      by_cases e : Lib.indexAny l nl3.data.toList = -1
      · rw [e] at ih
        rw [if_pos (by rw [e]; rfl), Bool.true_and, ← ih]
      · rw [if_neg (by simpa using e), Bool.true_and, ← ih]
        rw [decide_eq_true (by omega), decide_eq_true (by omega)]

theorem rq_any (s : ByteArray) (hs : (s.size : Int) ≤ 1000000) (w : World) :
    Calls Tryd.prog 68 #[.string s, .string nl3] w (AnyIs s w) := by
  by_cases h8 : (s.size : Int) ≤ 8
  · exact rq_any_short s h8 w
  · exact (lb_IndexAny_long s nl3 w (by decide) (by omega) (by omega) (by decide) (ascii_of_all (by decide))).mono fun e w' h => ⟨_, h.1, any_list _, h.2⟩

theorem rq_ContainsAny (s : ByteArray) (hs : (s.size : Int) ≤ 1000000) (w : World) :
    Calls Tryd.prog 63 #[.string s, .string nl3] w fun e w' => e = .returned (.bool (!(bts s).all goodV)) ∧ Below w.heap.size w w' := by
  have HC := hide (rq_any s hs w)
  obtain ⟨C, hC⟩ : ∃ C, C = (!(bts s).all goodV) := ⟨_, rfl⟩
  rw [← hC]
  have HK := hide hC
  clear hC hs
  go_enter Tryd.func63, Tryd.ntmps63
  go_wp2_with fail
  refine HC.out.mono ?_
  rintro e w2 ⟨r, rfl, hr, hb⟩
  have HR := hide (hr.trans HK.out.symm)
  have HB := hide hb
  clear hr hb HC
  go_wp2
  go_ret
  exact ⟨by rw [← HR.out]; rfl, HB.out⟩

/-! ## strings.Trim that changes nothing -/
theorem dw_len {α : Type} (p : α → Bool) (l : List α) : (l.dropWhile p).length ≤ l.length := by
  induction l with
  | nil => simp
  | cons a l ih =>
    rw [List.dropWhile_cons]
    split
    · simp only [List.length_cons]; omega
    · exact Nat.le_refl _
theorem dw_self {α : Type} (p : α → Bool) (l : List α) : l.dropWhile p = l ↔ ∀ a, l.head? = some a → p a = false := by
  cases l with
  | nil => simp
  | cons a l =>
    rw [List.dropWhile_cons]
    cases hp : p a with
    | true =>
      simp only [if_true, List.head?_cons, Option.some.injEq]
      refine ⟨fun h => ?_, fun h => ?_⟩
      · have := dw_len p l
        rw [h] at this
        simp at this
        omega
      · have := h a rfl
        rw [hp] at this
        cases this
    | false => simp [hp]
theorem trim_self (l cs : List UInt8) : Lib.trimS l cs = l ↔ (∀ a, l.head? = some a → cs.contains a = false) ∧ (∀ a, l.getLast? = some a → cs.contains a = false) := by
  have hL : Lib.trimLeftS l cs = l ↔ ∀ a, l.head? = some a → cs.contains a = false := dw_self _ _
  have hR : Lib.trimRightS l cs = l ↔ ∀ a, l.getLast? = some a → cs.contains a = false := by
    unfold Lib.trimRightS
    rw [← List.head?_reverse, ← dw_self (cs.contains ·) l.reverse]
    constructor
    · intro h
      have := congrArg List.reverse h
      rwa [List.reverse_reverse] at this
    · intro h
      rw [h, List.reverse_reverse]
  rw [← hL, ← hR]
  have h1 : (Lib.trimRightS l cs).length ≤ l.length := by
    unfold Lib.trimRightS
    have := dw_len (cs.contains ·) l.reverse
    simpa using this
  constructor
  · intro h
    have h2 : (Lib.trimS l cs).length ≤ (Lib.trimRightS l cs).length := dw_len _ _
    have h3 : (Lib.trimS l cs).length = l.length := congrArg List.length h
    have h4 : Lib.trimRightS l cs = l := by
      have hd : (l.reverse.dropWhile (cs.contains ·)) <:+ l.reverse := List.dropWhile_suffix _
      have hl : (l.reverse.dropWhile (cs.contains ·)).length = l.reverse.length := by
        have : (Lib.trimRightS l cs).length = (l.reverse.dropWhile (cs.contains ·)).length := by unfold Lib.trimRightS; simp
        simp only [List.length_reverse]
        omega
      have he := hd.eq_of_length hl
      unfold Lib.trimRightS
      rw [he, List.reverse_reverse]
    refine ⟨?_, h4⟩
    have : Lib.trimS l cs = Lib.trimLeftS l cs := by unfold Lib.trimS; rw [h4]
    rw [← this]
    exact h
  · rintro ⟨h, h'⟩
    unfold Lib.trimS
    rw [h', h]

def blanks : ByteArray := ⟨#[32, 9]⟩
theorem blank_fin : ∀ c : Fin 256, blanks.data.toList.contains (UInt8.ofNat c.val) = blankI (c.val : Int) := by decide +kernel
theorem blank_is (c : UInt8) : blanks.data.toList.contains c = blankI (c.toNat : Int) := by
  have := blank_fin ⟨c.toNat, c.toNat_lt⟩
  simpa using this
theorem ends_list (l : List UInt8) : decide (Lib.trimS l blanks.data.toList = l) = endsB (l.map (fun c => (c.toNat : Int))) := by
  rw [Bool.eq_iff_iff, decide_eq_true_eq, trim_self]
  cases l with
  | nil => simp [endsB]
  | cons a l =>
    have h1 : ((a :: l).map (fun c => (c.toNat : Int))).headD 0 = (a.toNat : Int) := rfl
    obtain ⟨b, hb⟩ : ∃ b, (a :: l).getLast? = some b := ⟨(a :: l).getLast (by simp), List.getLast?_eq_some_getLast (by simp)⟩
    have h2 : ((a :: l).map (fun c => (c.toNat : Int))).getLastD 0 = (b.toNat : Int) := by
      rw [List.getLastD_eq_getLast?, List.getLast?_map, hb]
      rfl
    unfold endsB
    rw [h1, h2, hb]
    simp only [List.head?_cons, Option.some.injEq, forall_eq', blank_is, List.map_cons, reduceCtorEq, decide_false, Bool.false_or, Bool.and_eq_true, Bool.not_eq_true']
theorem ends_is (s : ByteArray) : ((⟨(Lib.trimS s.data.toList blanks.data.toList).toArray⟩ : ByteArray).toList == s.toList) = endsB (bts s) := by
  rw [str_eq, show bts s = s.data.toList.map (fun c => (c.toNat : Int)) from rfl, ← ends_list]
  obtain ⟨l, rfl⟩ := ba_mk s
  rw [Bool.eq_iff_iff, decide_eq_true_eq, decide_eq_true_eq]
  constructor
  · intro h
    injection h with h
    have := congrArg Array.toList h
    simpa using this
  · intro h
    rw [h]

set_option maxHeartbeats 1600000 in
theorem rq_isValue (s : ByteArray) (hs : (s.size : Int) ≤ 1000000) (w : World) :
    Calls Tryd.prog 50 #[.string s] w fun e w' => e = .returned (.bool (valB s)) ∧ Below w.heap.size w w' := by
  have HC := hide (fun w => rq_ContainsAny s hs w)
  have HT := hide (fun w => lb_Trim s blanks w (by omega) (by decide) (ascii_of_all (by decide)))
  have hE := ends_is s
  obtain ⟨Y, hY⟩ : ∃ Y, Y = (⟨(Lib.trimS s.data.toList blanks.data.toList).toArray⟩ : ByteArray) := ⟨_, rfl⟩
  rw [← hY] at HT hE
  obtain ⟨E, hE2⟩ : ∃ E, E = endsB (bts s) := ⟨_, rfl⟩
  rw [← hE2] at hE
  obtain ⟨C, hC⟩ : ∃ C, C = valB s := ⟨_, rfl⟩
  rw [← hC]
  obtain ⟨g, hg⟩ : ∃ g, g = (bts s).all goodV := ⟨_, rfl⟩
  have HV := hide (show C = (g && E) by rw [hC, hg, hE2]; rfl)
  rw [← hg] at HC
  clear hY hE2 hC hg hs
  cases g with
  | false =>
    go_enter Tryd.func50, Tryd.ntmps50
    go_wp2_with (go_at_call 63; refine (HC.out _).mono ?_; rintro e w2 ⟨rfl, hb⟩; have HB := hide hb; clear hb)
    go_ret
    exact ⟨by rw [HV.out]; rfl, HB.out⟩
  | true =>
    go_enter Tryd.func50, Tryd.ntmps50
    go_wp2_with (first
      | (go_at_call 63; refine (HC.out _).mono ?_; rintro e w2 ⟨rfl, hb⟩; have HB := hide hb; clear hb)
      | (go_at_call 64; refine (HT.out _).mono ?_; rintro e w3 ⟨rfl, hb3⟩; have HB3 := hide (HB.out.trans (hb3.mono HB.out.size)); clear hb3))
    go_ret
    exact ⟨by rw [HV.out]; simp [hE], HB3.out⟩
end Go.Proofs.YtlbhnbloanamfaaDoor
