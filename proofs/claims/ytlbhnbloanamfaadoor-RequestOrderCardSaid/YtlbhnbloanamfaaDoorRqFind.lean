/-
  Layer 17: slices.IndexFunc and ContainsFunc of fields, whatever the function value; the closures that are handed in.
-/
import Derived.Test.YtlbhnbloanamfaaDoorRqList
import Derived.Test.YtlbhnbloanamfaaDoorRqTok
import Derived.Test.YtlbhnbloanamfaaDoorRqVal
import Derived.Test.YtlbhnbloanamfaaDoorStrSame
import Derived.WalkMore
import Derived.Shelf.Abstract
namespace Go.Proofs.YtlbhnbloanamfaaDoor
set_option linter.unusedSimpArgs false
set_option linter.unusedVariables false
open Go.RowKit

/-- A function value that is asked of fields: what it answers; I holds ahead of each asking. -/
structure FindIs (fn : FuncId) (env : Array Value) (p : Fd → Bool) (I : World → Prop) : Prop where
  ent : ∀ args w, (callFunc fn args).run Tryd.prog w = .ok (.enter fn args) w
  step : ∀ (f : Fd) w, (f.n.size : Int) ≤ 100000 → (f.v.size : Int) ≤ 100000 → I w → Calls Tryd.prog fn (#[.agg #[.string f.n, .string f.v, .bool f.x]] ++ env) w fun e w' => e = .returned (.bool (p f)) ∧ Below w.heap.size w w'
  keep : ∀ w w', I w → Below w.heap.size w w' → I w'
/-- Where the first one stands. -/
def IdxIs (p : Fd → Bool) (l : List Fd) (r : Int) : Prop := (r = -1 ∧ ∀ f ∈ l, p f = false) ∨ ∃ (i : Nat) (f : Fd), r = i ∧ l[i]? = some f ∧ p f = true ∧ ∀ (j : Nat) g, j < i → l[j]? = some g → p g = false
def NoneYet (p : Fd → Bool) (l : List Fd) (k : Nat) : Prop := ∀ (j : Nat) g, j < k → l[j]? = some g → p g = false
theorem NoneYet.zero (p : Fd → Bool) (l : List Fd) : NoneYet p l 0 := fun _ _ h => absurd h (by omega)
theorem NoneYet.succ {p : Fd → Bool} {l : List Fd} {k : Nat} (h : NoneYet p l k) {f : Fd} (hf : l[k]? = some f) (hp : p f = false) : NoneYet p l (k + 1) := fun j g hj hg => by
  by_cases e : j = k
  · subst e; rw [hf] at hg; injection hg with hg; subst hg; exact hp
  · exact h j g (by omega) hg
theorem NoneYet.all {p : Fd → Bool} {l : List Fd} (h : NoneYet p l l.length) : ∀ f ∈ l, p f = false := fun f hf => by
  obtain ⟨i, hi, rfl⟩ := List.getElem_of_mem hf
  exact h i _ hi (List.getElem?_eq_getElem hi)
def GivesIdx (p : Fd → Bool) (l : List Fd) (w : World) (e : Ending) (w' : World) : Prop := ∃ r : Int, e = .returned (.int .i64 r) ∧ IdxIs p l r ∧ Below w.heap.size w w'

set_option maxRecDepth 100000 in
set_option maxHeartbeats 1600000 in
theorem rq_IndexFunc (A : Option Addr) (n c : Nat) (l : List Fd) (fn : FuncId) (env : Array Value) (p : Fd → Bool) (I : World → Prop) (w : World) (hfl : FL w A n c l) (hm : Mod l) (hf : FindIs fn env p I) (hI : I w) :
    Calls Tryd.prog 46 #[.slice A n c, .func (.func fn) #[] env] w (GivesIdx p l w) := by
  have hn : (n : Int) ≤ 1000 := by have := hm.1; have := hfl.len; omega
  have HFL := hide hfl
  have HM := hide hm
  have HF := hide hf
  have HI := hide hI
  have eg := hf.ent
  clear hfl hm hf hI
  go_enter Tryd.func46, Tryd.ntmps46
  go_wp2_with fail
  go_loopw [5, 8] (fun _ k wr => ∃ i : Nat, i ≤ n ∧ k = .int .i64 (i : Int) ∧ NoneYet p l i ∧ Below w.heap.size w wr) (fun _ k _ => n - (intOf k).toNat)
  case atStart => exact ⟨0, by omega, rfl, .zero _ _, Below.refl _ _⟩
  case round =>
    obtain ⟨i, hi, rfl, hno, hb⟩ := hrel
    have HB := hide hb
    have HNO := hide hno
    clear hb hno
    by_cases hlt : i < n
    · have hlt' : (i : Int) < (n : Int) := by omega
      obtain ⟨f, b, off, hfd, rfl, hbl, c0, c1, c2⟩ := (HFL.out.keep HB.out).round hlt
      have HFD := hide hfd
      have hsz := HM.out.at hfd
      have HC := hide (HF.out.step f wr hsz.1 hsz.2 (HF.out.keep _ _ HI.out HB.out))
      obtain ⟨v, hv⟩ : ∃ v, v = p f := ⟨_, rfl⟩
      rw [← hv] at HC
      have HV := hide hv.symm
      clear hfd hv hsz
      cases v with
      | true =>
        go_wp2_with (go_at_fn fn; refine HC.out.mono ?_; rintro e w2 ⟨rfl, hb2⟩; have HB2 := hide hb2; clear hb2)
        go_ret
        exact ⟨(i : Int), rfl, .inr ⟨i, f, rfl, HFD.out, HV.out, HNO.out⟩, HB.out.trans (HB2.out.mono HB.out.size)⟩
      | false =>
        go_wp2_with (go_at_fn fn; refine HC.out.mono ?_; rintro e w2 ⟨rfl, hb2⟩; have HB2 := hide hb2; clear hb2)
        go_roundw
        case rel => exact ⟨i + 1, by omega, by go_num, HNO.out.succ HFD.out HV.out, HB.out.trans (HB2.out.mono HB.out.size)⟩
        case measure => simp [intOf]; omega
    · have hge : ¬ (i : Int) < (n : Int) := by omega
      obtain rfl : i = n := by omega
      go_wp2
      go_ret
      exact ⟨-1, rfl, .inl ⟨rfl, NoneYet.all (by rw [HFL.out.len]; exact HNO.out)⟩, HB.out⟩

theorem idx_any {p : Fd → Bool} {l : List Fd} {r : Int} (h : IdxIs p l r) : decide (0 ≤ r) = l.any p := by
  rcases h with ⟨rfl, h⟩ | ⟨i, f, rfl, h1, h2, _⟩
  · rw [show l.any p = false by rw [List.any_eq_false]; intro f hf; rw [h f hf]; simp]
    rfl
  · rw [show l.any p = true by rw [List.any_eq_true]; exact ⟨f, List.mem_of_getElem? h1, h2⟩]
    simp
set_option maxHeartbeats 1600000 in
theorem rq_ContainsFunc (A : Option Addr) (n c : Nat) (l : List Fd) (fn : FuncId) (env : Array Value) (p : Fd → Bool) (I : World → Prop) (w : World) (hfl : FL w A n c l) (hm : Mod l) (hf : FindIs fn env p I) (hI : I w) :
    Calls Tryd.prog 52 #[.slice A n c, .func (.func fn) #[] env] w fun e w' => e = .returned (.bool (l.any p)) ∧ Below w.heap.size w w' := by
  have HC := hide (rq_IndexFunc A n c l fn env p I w hfl hm hf hI)
  clear hfl hm hf hI
  go_enter Tryd.func52, Tryd.ntmps52
  go_wp2_with fail
  refine HC.out.mono ?_
  rintro e w2 ⟨r, rfl, hr, hb2⟩
  have HB2 := hide hb2
  have HR := hide (idx_any hr)
  clear hb2 hr HC
  go_wp2
  go_ret
  exact ⟨by rw [← HR.out]; rfl, HB2.out⟩

/-! ## The closures -/
theorem rq_parted1 (f : Fd) (w : World) (h : (f.n.size : Int) ≤ 100000) :
    Calls Tryd.prog 47 #[.agg #[.string f.n, .string f.v, .bool f.x]] w fun e w' => e = .returned (.bool (!psF f)) ∧ Below w.heap.size w w' := by
  have HC := hide (fun w => rq_HasPrefix bColon f.n (by omega) (by decide) w)
  obtain ⟨v, hv⟩ : ∃ v, v = psF f := ⟨_, rfl⟩
  rw [show prefB bColon f.n = v from hv.symm] at HC
  rw [← hv]
  clear hv h
  go_enter Tryd.func47, Tryd.ntmps47
  go_wp2_with (go_at_call 48; refine (HC.out _).mono ?_; rintro e w2 ⟨rfl, rfl⟩)
  go_ret
  exact ⟨rfl, (Below.refl _ _).alloc (Nat.le_refl _) _⟩
theorem find_parted : FindIs 47 #[] (fun f => !psF f) (fun _ => True) where
  ent := rq_enters Tryd.func47 (by kernel_rfl) (by kernel_rfl)
  step := fun f w h1 _ _ => rq_parted1 f w h1
  keep := fun _ _ _ _ => trivial

theorem rq_first1 (f : Fd) (nm : ByteArray) (cb : Nat) (w : World) (hb : BlkIs w cb 9 #[.string nm]) :
    Calls Tryd.prog 49 #[.agg #[.string f.n, .string f.v, .bool f.x], .pointer (some ⟨cb, 0, none⟩)] w fun e w' => e = .returned (.bool (isN nm f)) ∧ Below w.heap.size w w' := by
  have HB := hide (hb.alloc (.cells #[.string f.n, .string f.v, .bool f.x] 42))
  have k0 := HB.out.cell 0
  simp only [List.getElem?_toArray, List.getElem?_cons_zero] at k0
  have he := str_eq f.n nm
  obtain ⟨v, hv⟩ : ∃ v, v = isN nm f := ⟨_, rfl⟩
  rw [show decide (f.n = nm) = v from hv.symm] at he
  rw [← hv]
  clear hv hb
  go_enter Tryd.func49, Tryd.ntmps49
  go_wp2
  go_ret
  exact ⟨by simp [he], (Below.refl _ _).alloc (Nat.le_refl _) _⟩
theorem find_first (nm : ByteArray) (cb : Nat) : FindIs 49 #[.pointer (some ⟨cb, 0, none⟩)] (isN nm) (fun w => BlkIs w cb 9 #[.string nm]) where
  ent := rq_enters Tryd.func49 (by kernel_rfl) (by kernel_rfl)
  step := fun f w _ _ h => rq_first1 f nm cb w h
  keep := fun _ _ h hb => h.keep hb

set_option maxHeartbeats 1600000 in
theorem rq_te1 (f : Fd) (w : World) :
    Calls Tryd.prog 55 #[.agg #[.string f.n, .string f.v, .bool f.x]] w fun e w' => e = .returned (.bool (teF f)) ∧ Below w.heap.size w w' := by
  obtain ⟨v, hv⟩ : ∃ v, v = teF f := ⟨_, rfl⟩
  rw [← hv]
  have HV := hide hv
  by_cases h1 : f.n = nTe
  · have e1 : (f.n.toList == [116, 101]) = true := lit_same h1
    have e2 : (f.v.toList == [116, 114, 97, 105, 108, 101, 114, 115]) = decide (f.v = vTrail) := lit_eq _ _
    have HT := hide (show teF f = !decide (f.v = vTrail) by unfold teF; rw [decide_eq_true h1]; rfl)
    obtain ⟨d, hd⟩ : ∃ d, d = decide (f.v = vTrail) := ⟨_, rfl⟩
    rw [← hd] at e2 HT
    have e3 : (f.v.toList != [116, 114, 97, 105, 108, 101, 114, 115]) = !d := by rw [bne, e2]
    clear h1 hd hv
    go_enter Tryd.func55, Tryd.ntmps55
    go_wp2
    go_ret
    exact ⟨by rw [HV.out, HT.out]; simp [e2, e3], (Below.refl _ _).alloc (Nat.le_refl _) _⟩
  · have e1 : (f.n.toList == [116, 101]) = false := lit_not h1
    have HT := hide (show teF f = false by unfold teF; rw [decide_eq_false h1]; rfl)
    clear h1 hv
    go_enter Tryd.func55, Tryd.ntmps55
    go_wp2
    go_ret
    exact ⟨by rw [HV.out, HT.out]; rfl, (Below.refl _ _).alloc (Nat.le_refl _) _⟩
theorem find_te : FindIs 55 #[] teF (fun _ => True) where
  ent := rq_enters Tryd.func55 (by kernel_rfl) (by kernel_rfl)
  step := fun f w _ _ _ => rq_te1 f w
  keep := fun _ _ _ _ => trivial
end Go.Proofs.YtlbhnbloanamfaaDoor
