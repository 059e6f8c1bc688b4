/-
  Layer 17: slices.IndexFunc and ContainsFunc of fields, whatever the function value.
-/
import Derived.Test.YtdnopjopdklelaaDoorRqList
import Derived.Test.YtdnopjopdklelaaDoorRqWords
import Derived.Test.YtdnopjopdklelaaDoorStrSame
import Derived.WalkMore
import Derived.Shelf.Abstract
namespace Go.Proofs.YtdnopjopdklelaaDoor
set_option linter.unusedSimpArgs false
set_option linter.unusedVariables false
open Go.RowKit

/-- A function value that is asked of fields: what it answers; I holds ahead of each asking. -/
structure FindIs (fn : FuncId) (env : Array Value) (p : Fd → Bool) (I : World → Prop) : Prop where
  ent : ∀ args w, (callFunc fn args).run Tryd.prog w = .ok (.enter fn args) w
  step : ∀ (f : Fd) w, (f.n.size : Int) ≤ 100000 → (f.v.size : Int) ≤ 100000 → I w → Calls Tryd.prog fn (#[.agg #[.string f.n, .string f.v, .bool f.x]] ++ env) w fun e w' => e = .returned (.bool (p f)) ∧ Below w.heap.size w w'
  keep : ∀ w w', I w → Below w.heap.size w w' → I w'
/-- Where the first one stands. -/
def IdxIs (p : Fd → Bool) (l : List Fd) (r : Int) : Prop := (r = -1 ∧ ∀ f ∈ l, p f = false) ∨ ∃ (i : Nat) (f : Fd), r = i ∧ l[i]? = some f ∧ p f = true ∧ ∀ (j : Nat) g, j < i → l[j]? = some g → p g = false
def NoneYet (p : Fd → Bool) (l : List Fd) (k : Nat) : Prop := ∀ (j : Nat) g, j < k → l[j]? = some g → p g = false
theorem NoneYet.zero (p : Fd → Bool) (l : List Fd) : NoneYet p l 0 := fun _ _ h => absurd h (by omega)
theorem NoneYet.succ {p : Fd → Bool} {l : List Fd} {k : Nat} (h : NoneYet p l k) {f : Fd} (hf : l[k]? = some f) (hp : p f = false) : NoneYet p l (k + 1) := fun j g hj hg => by
  by_cases e : j = k
  · subst e; rw [hf] at hg; injection hg with hg; subst hg; exact hp
  · exact h j g (by omega) hg
theorem NoneYet.all {p : Fd → Bool} {l : List Fd} (h : NoneYet p l l.length) : ∀ f ∈ l, p f = false := fun f hf => by
  obtain ⟨i, hi, rfl⟩ := List.getElem_of_mem hf
  exact h i _ hi (List.getElem?_eq_getElem hi)
def GivesIdx (p : Fd → Bool) (l : List Fd) (w : World) (e : Ending) (w' : World) : Prop := ∃ r : Int, e = .returned (.int .i64 r) ∧ IdxIs p l r ∧ Below w.heap.size w w'

set_option maxRecDepth 100000 in
set_option maxHeartbeats 1600000 in
theorem rq_IndexFunc (A : Option Addr) (n c : Nat) (l : List Fd) (fn : FuncId) (env : Array Value) (p : Fd → Bool) (I : World → Prop) (w : World) (hfl : FL w A n c l) (hm : Mod l) (hf : FindIs fn env p I) (hI : I w) :
    Calls Tryd.prog 31 #[.slice A n c, .func (.func fn) #[] env] w (GivesIdx p l w) := by
  have hn : (n : Int) ≤ 1000 := by have := hm.1; have := hfl.len; omega
  have HFL := hide hfl
  have HM := hide hm
  have HF := hide hf
  have HI := hide hI
  have eg := hf.ent
  clear hfl hm hf hI
  go_enter Tryd.func31, Tryd.ntmps31
  go_wp2_with fail
  go_loopw [5, 8] (fun _ k wr => ∃ i : Nat, i ≤ n ∧ k = .int .i64 (i : Int) ∧ NoneYet p l i ∧ Below w.heap.size w wr) (fun _ k _ => n - (intOf k).toNat)
  case atStart => exact ⟨0, by omega, rfl, .zero _ _, Below.refl _ _⟩
  case round =>
    obtain ⟨i, hi, rfl, hno, hb⟩ := hrel
    have HB := hide hb
    have HNO := hide hno
    clear hb hno
    by_cases hlt : i < n
    · have hlt' : (i : Int) < (n : Int) := by omega
      obtain ⟨f, b, off, hfd, rfl, hbl, c0, c1, c2⟩ := (HFL.out.keep HB.out).round hlt
      have HFD := hide hfd
      have hsz := HM.out.at hfd
      have HC := hide (HF.out.step f wr hsz.1 hsz.2 (HF.out.keep _ _ HI.out HB.out))
      obtain ⟨v, hv⟩ : ∃ v, v = p f := ⟨_, rfl⟩
      rw [← hv] at HC
      have HV := hide hv.symm
      clear hfd hv hsz
      cases v with
      | true =>
        go_wp2_with (go_at_fn fn; refine HC.out.mono ?_; rintro e w2 ⟨rfl, hb2⟩; have HB2 := hide hb2; clear hb2)
        go_ret
        exact ⟨(i : Int), rfl, .inr ⟨i, f, rfl, HFD.out, HV.out, HNO.out⟩, HB.out.trans (HB2.out.mono HB.out.size)⟩
      | false =>
        go_wp2_with (go_at_fn fn; refine HC.out.mono ?_; rintro e w2 ⟨rfl, hb2⟩; have HB2 := hide hb2; clear hb2)
        go_roundw
        case rel => exact ⟨i + 1, by omega, by go_num, HNO.out.succ HFD.out HV.out, HB.out.trans (HB2.out.mono HB.out.size)⟩
        case measure => simp [intOf]; omega
    · have hge : ¬ (i : Int) < (n : Int) := by omega
      obtain rfl : i = n := by omega
      go_wp2
      go_ret
      exact ⟨-1, rfl, .inl ⟨rfl, NoneYet.all (by rw [HFL.out.len]; exact HNO.out)⟩, HB.out⟩

theorem idx_any {p : Fd → Bool} {l : List Fd} {r : Int} (h : IdxIs p l r) : decide (0 ≤ r) = l.any p := by
  rcases h with ⟨rfl, h⟩ | ⟨i, f, rfl, h1, h2, _⟩
  · rw [show l.any p = false by rw [List.any_eq_false]; intro f hf; rw [h f hf]; simp]
    rfl
  · rw [show l.any p = true by rw [List.any_eq_true]; exact ⟨f, List.mem_of_getElem? h1, h2⟩]
    simp
set_option maxHeartbeats 1600000 in
theorem rq_ContainsFunc (A : Option Addr) (n c : Nat) (l : List Fd) (fn : FuncId) (env : Array Value) (p : Fd → Bool) (I : World → Prop) (w : World) (hfl : FL w A n c l) (hm : Mod l) (hf : FindIs fn env p I) (hI : I w) :
    Calls Tryd.prog 23 #[.slice A n c, .func (.func fn) #[] env] w fun e w' => e = .returned (.bool (l.any p)) ∧ Below w.heap.size w w' := by
  have HC := hide (rq_IndexFunc A n c l fn env p I w hfl hm hf hI)
  clear hfl hm hf hI
  go_enter Tryd.func23, Tryd.ntmps23
  go_wp2_with fail
  refine HC.out.mono ?_
  rintro e w2 ⟨r, rfl, hr, hb2⟩
  have HB2 := hide hb2
  have HR := hide (idx_any hr)
  clear hb2 hr HC
  go_wp2
  go_ret
  exact ⟨by rw [← HR.out]; rfl, HB2.out⟩

end Go.Proofs.YtdnopjopdklelaaDoor
