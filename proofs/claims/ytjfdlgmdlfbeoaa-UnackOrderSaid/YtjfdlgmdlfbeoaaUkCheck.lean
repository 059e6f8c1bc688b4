/-
  Layer 13: Check: the program's.
-/
import Derived.Test.YtjfdlgmdlfbeoaaUkSmall
import Derived.Test.YtjfdlgmdlfbeoaaRegW
import Derived.Deep.CutRange
import Derived.Deep.DeepCutAuto
namespace Go.Proofs.Ytjfdlgmdlfbeoaa
set_option linter.unusedSimpArgs false
set_option linter.unusedVariables false
open Go.RowKit

/-- What IndexFunc answers. -/
def AnyAt (p : It → Bool) (l : List It) (w : World) (e : Ending) (w' : World) : Prop := ∃ r : Int, e = .returned (.int .i64 r) ∧ (decide (0 ≤ r) = l.any p) ∧ Below w.heap.size w w'

set_option maxRecDepth 100000 in
set_option maxHeartbeats 1600000 in
theorem uk_idx1 (A : Option Addr) (n c : Nat) (l : List It) (w : World) (hl : IL w A n c l) (hn : (n : Int) ≤ 1000000) :
    Calls Try.prog 42 #[.slice A n c, .func (.func 32) #[] #[]] w (AnyAt (fun x => longB x.ps) l w) := by
  have HIL := hide hl
  clear hl
  go_enter Try.func42, Try.ntmps42
  go_wp2_with fail
  go_loopw [8] (fun k wr => ∃ i : Nat, i ≤ n ∧ k = .int .i64 (i : Int) ∧ NoneU (fun x => longB x.ps) l i ∧ Below w.heap.size w wr) (fun k _ => n - (intOf k).toNat)
  case atStart => exact ⟨0, by omega, rfl, .zero _ l, Below.refl _ _⟩
  case round =>
    obtain ⟨i, hi, rfl, hno, hb⟩ := hrel
    have HB := hide hb
    have HNO := hide hno
    clear hb hno
    by_cases hlt : i < n
    · have hlt' : (i : Int) < (n : Int) := by omega
      obtain ⟨x, A', c', b, off, hx, rfl, hbl, c0, c1, hp⟩ := (HIL.out.keep HB.out).round hlt
      have HX := hide hx
      have HC := hide (uk_c1 x A' c' wr hp)
      clear hx hp
      obtain ⟨v, hv⟩ : ∃ v, v = (fun x => longB x.ps) x := ⟨_, rfl⟩
      have HV := hide hv
      simp only at hv
      rw [← hv] at HC
      clear hv
      cases v with
      | true =>
        go_wp2_with (go_at_call 32; refine HC.out.mono ?_; rintro e w2 ⟨rfl, hb2⟩; have HB2 := hide hb2; clear hb2)
        go_ret
        exact ⟨(i : Int), rfl, by rw [any_yes HX.out HV.out.symm]; simp, HB.out.trans (HB2.out.mono HB.out.size)⟩
      | false =>
        go_wp2_with (go_at_call 32; refine HC.out.mono ?_; rintro e w2 ⟨rfl, hb2⟩; have HB2 := hide hb2; clear hb2)
        go_roundw
        case rel => exact ⟨i + 1, by omega, by go_num, HNO.out.succ HX.out HV.out.symm, HB.out.trans (HB2.out.mono HB.out.size)⟩
        case measure => simp [intOf]; omega
    · have hge : ¬ (i : Int) < (n : Int) := by omega
      obtain rfl : i = n := by omega
      go_wp2
      go_ret
      exact ⟨-1, rfl, by rw [any_no (by rw [HIL.out.len]; exact HNO.out)]; rfl, HB.out⟩
theorem uk_any1 (A : Option Addr) (n c : Nat) (l : List It) (w : World) (hl : IL w A n c l) (hn : (n : Int) ≤ 1000000) :
    Calls Try.prog 31 #[.slice A n c, .func (.func 32) #[] #[]] w fun e w' => e = .returned (.bool (l.any (fun x => longB x.ps))) ∧ Below w.heap.size w w' := by
  have HC := hide (uk_idx1 A n c l w hl hn)
  clear hl
  go_enter Try.func31, Try.ntmps31
  go_wp2_with fail
  refine HC.out.mono ?_
  rintro e w2 ⟨r, rfl, hr, hb2⟩
  have HB2 := hide hb2
  have HR := hide hr
  clear hb2 hr HC
  go_wp2
  go_ret
  exact ⟨by rw [← HR.out]; rfl, HB2.out⟩

set_option maxRecDepth 100000 in
set_option maxHeartbeats 1600000 in
theorem uk_idx2 (A : Option Addr) (n c : Nat) (l : List It) (w : World) (hl : IL w A n c l) (hn : (n : Int) ≤ 1000000) :
    Calls Try.prog 42 #[.slice A n c, .func (.func 33) #[] #[]] w (AnyAt (fun x => !tickB x.t) l w) := by
  have HIL := hide hl
  clear hl
  go_enter Try.func42, Try.ntmps42
  go_wp2_with fail
  go_loopw [8] (fun k wr => ∃ i : Nat, i ≤ n ∧ k = .int .i64 (i : Int) ∧ NoneU (fun x => !tickB x.t) l i ∧ Below w.heap.size w wr) (fun k _ => n - (intOf k).toNat)
  case atStart => exact ⟨0, by omega, rfl, .zero _ l, Below.refl _ _⟩
  case round =>
    obtain ⟨i, hi, rfl, hno, hb⟩ := hrel
    have HB := hide hb
    have HNO := hide hno
    clear hb hno
    by_cases hlt : i < n
    · have hlt' : (i : Int) < (n : Int) := by omega
      obtain ⟨x, A', c', b, off, hx, rfl, hbl, c0, c1, hp⟩ := (HIL.out.keep HB.out).round hlt
      have HX := hide hx
      have HC := hide (uk_c2 x A' x.ps.length c' wr)
      clear hx hp
      obtain ⟨v, hv⟩ : ∃ v, v = (fun x => !tickB x.t) x := ⟨_, rfl⟩
      have HV := hide hv
      simp only at hv
      rw [← hv] at HC
      clear hv
      cases v with
      | true =>
        go_wp2_with (go_at_call 33; refine HC.out.mono ?_; rintro e w2 ⟨rfl, hb2⟩; have HB2 := hide hb2; clear hb2)
        go_ret
        exact ⟨(i : Int), rfl, by rw [any_yes HX.out HV.out.symm]; simp, HB.out.trans (HB2.out.mono HB.out.size)⟩
      | false =>
        go_wp2_with (go_at_call 33; refine HC.out.mono ?_; rintro e w2 ⟨rfl, hb2⟩; have HB2 := hide hb2; clear hb2)
        go_roundw
        case rel => exact ⟨i + 1, by omega, by go_num, HNO.out.succ HX.out HV.out.symm, HB.out.trans (HB2.out.mono HB.out.size)⟩
        case measure => simp [intOf]; omega
    · have hge : ¬ (i : Int) < (n : Int) := by omega
      obtain rfl : i = n := by omega
      go_wp2
      go_ret
      exact ⟨-1, rfl, by rw [any_no (by rw [HIL.out.len]; exact HNO.out)]; rfl, HB.out⟩
theorem uk_any2 (A : Option Addr) (n c : Nat) (l : List It) (w : World) (hl : IL w A n c l) (hn : (n : Int) ≤ 1000000) :
    Calls Try.prog 31 #[.slice A n c, .func (.func 33) #[] #[]] w fun e w' => e = .returned (.bool (l.any (fun x => !tickB x.t))) ∧ Below w.heap.size w w' := by
  have HC := hide (uk_idx2 A n c l w hl hn)
  clear hl
  go_enter Try.func31, Try.ntmps31
  go_wp2_with fail
  refine HC.out.mono ?_
  rintro e w2 ⟨r, rfl, hr, hb2⟩
  have HB2 := hide hb2
  have HR := hide hr
  clear hb2 hr HC
  go_wp2
  go_ret
  exact ⟨by rw [← HR.out]; rfl, HB2.out⟩

def OrdFrom (l : List It) (j : Nat) : Prop := ∀ m x y, j ≤ m + 1 → l[m]? = some x → l[m + 1]? = some y → x.t ≤ y.t
theorem OrdFrom.prev {l : List It} {i : Nat} {x y : It} (h : OrdFrom l (i + 1 + 1)) (hx : l[i]? = some x) (hy : l[i + 1]? = some y) (hxy : ¬ y.t < x.t) : OrdFrom l (i + 1) := fun m a b hm ha hb => by
  by_cases e : m = i
  · subst e
    rw [hx] at ha; rw [hy] at hb
    injection ha with ha; injection hb with hb
    subst ha hb
    omega
  · exact h m a b (by omega) ha hb

set_option maxRecDepth 100000 in
set_option maxHeartbeats 1600000 in
theorem uk_sorted (A : Option Addr) (n c : Nat) (l : List It) (w : World) (hl : IL w A n c l) (hn : (n : Int) ≤ 1000000) :
    Calls Try.prog 34 #[.slice A n c, .func (.func 35) #[] #[]] w fun e w' => e = .returned (.bool (ordB l)) ∧ Below w.heap.size w w' := by
  have HIL := hide hl
  have HNO := hide (fun k x y (hx : l[k]? = some x) (hy : l[k + 1]? = some y) (h : y.t < x.t) => ord_no hx hy h)
  have HYE := hide (fun h => ord_yes (l := l) h)
  generalize ordB l = ob at *
  clear hl
  go_enter Try.func34, Try.ntmps34
  go_wp2_with fail
  go_loopw [5] (fun k wr => ∃ (j : Nat) (z : Int), j ≤ n ∧ k = .int .i64 z ∧ z = (j : Int) - 1 ∧ OrdFrom l j ∧ Below w.heap.size w wr) (fun k _ => (intOf k + 1).toNat)
  case atStart => exact ⟨n, _, by omega, rfl, by go_num, fun m x y hm hx hy => by have := (List.getElem?_eq_some_iff.1 hy).1; have := HIL.out.len; omega, Below.refl _ _⟩
  case round =>
    obtain ⟨j, z, hj, rfl, hz, ho, hb⟩ := hrel
    have HB := hide hb
    have HO := hide ho
    clear hb ho
    rcases j with _ | _ | i
    · obtain rfl : z = -1 := by simpa using hz
      clear hz
      go_wp2
      go_ret
      exact ⟨by rw [HYE.out (fun k x y hx hy => HO.out k x y (by omega) hx hy)]; rfl, HB.out⟩
    · obtain rfl : z = 0 := by simpa using hz
      clear hz
      go_wp2
      go_ret
      exact ⟨by rw [HYE.out (fun k x y hx hy => HO.out k x y (by omega) hx hy)]; rfl, HB.out⟩
    · obtain rfl : z = (i : Int) + 1 := by omega
      clear hz
      have hlt1 : (i : Int) < (n : Int) := by omega
      have hlt2 : (i : Int) + 1 < (n : Int) := by omega
      have hpos : (0 : Int) < (i : Int) + 1 := by omega
      have h0i : (0 : Int) ≤ (i : Int) + 1 := by omega
      have HWR := hide (show IntKind.i64.wrap (i : Int) = (i : Int) from IntWalk.i64_in _ (by omega))
      obtain ⟨x, A1, n1, b, off, hx, rfl, hbl, c0, c1, -⟩ := (HIL.out.keep HB.out).round (show i < n by omega)
      obtain ⟨y, A2, n2, b', off', hy, e, -, d0, d1, -⟩ := (HIL.out.keep HB.out).round (show i + 1 < n by omega)
      injection e with e
      injection e with e1 e2
      subst e1 e2
      have HC := hide (fun w => uk_c3 A2 A1 y.ps.length x.ps.length n2 n1 y.t x.t w)
      have HX := hide hx
      have HY := hide hy
      clear hx hy
      by_cases hxy : y.t < x.t
      · have HF := hide (HNO.out i x y HX.out HY.out hxy)
        rw [show cmpI y.t x.t = -1 from if_pos hxy] at HC
        clear hxy HX HY
        go_upto_region 4 with (fail)
        refine wp_region_noPanic ?_
        refine wp_region_held_drew (S := fun w' => Below wr.heap.size wr w') (by kernel_rfl) (Below.refl _ _).drew (fun hS => ?_)
        generalize wr.drew = wd at hS ⊢
        refine wpAnyH_take (i := 0) (v := ?_) (by simp only [List.getElem?_toArray, List.getElem?_cons_succ, List.getElem?_cons_zero] <;> exact rfl) (by kernel_rfl) (by kernel_rfl) (by kernel_rfl) (fun _ _ _ h => h) (Or.inl ⟨by rfl, ?_⟩) hS ?_
        rotate_left
        focus (intro w' hw'; go_simp; all_goals with_reducible rfl)
        try simp only [Act.put, List.setIfInBounds_toArray, List.set_cons_zero, List.set_cons_succ]
        refine wpAnyH_take (i := 1) (v := ?_) (by simp only [List.getElem?_toArray, List.getElem?_cons_succ, List.getElem?_cons_zero] <;> exact rfl) (by kernel_rfl) (by kernel_rfl) (by kernel_rfl) (fun _ _ _ h => h) (Or.inl ⟨by rfl, ?_⟩) hS ?_
        rotate_left
        focus (intro w' hw'; go_simp; all_goals with_reducible rfl)
        try simp only [Act.put, List.setIfInBounds_toArray, List.set_cons_zero, List.set_cons_succ]
        refine wpAnyH_take (i := 2) (v := ?_) (by simp only [List.getElem?_toArray, List.getElem?_cons_succ, List.getElem?_cons_zero] <;> exact rfl) (by kernel_rfl) (by kernel_rfl) (by kernel_rfl) (fun _ _ _ h => h) (Or.inl ⟨by rfl, ?_⟩) hS ?_
        rotate_left
        focus (intro w' hw'; go_simp; all_goals with_reducible rfl)
        try simp only [Act.put, List.setIfInBounds_toArray, List.set_cons_zero, List.set_cons_succ]
        refine wpAnyH_take (i := 3) (v := ?_) (by simp only [List.getElem?_toArray, List.getElem?_cons_succ, List.getElem?_cons_zero] <;> exact rfl) (by kernel_rfl) (by kernel_rfl) (by kernel_rfl) (fun _ _ _ h => h) (Or.inl ⟨by rfl, ?_⟩) hS ?_
        rotate_left
        focus (intro w' hw'; have kk : (i : Int) + 1 < (n : Int) := hlt2; have kz : (0 : Int) ≤ (i : Int) + 1 := h0i; go_simp; all_goals with_reducible rfl)
        try simp only [Act.put, List.setIfInBounds_toArray, List.set_cons_zero, List.set_cons_succ]
        refine wpAnyH_take (i := 4) (v := ?_) (by simp only [List.getElem?_toArray, List.getElem?_cons_succ, List.getElem?_cons_zero] <;> exact rfl) (by kernel_rfl) (by kernel_rfl) (by kernel_rfl) (fun _ _ _ h => h) (Or.inl ⟨by rfl, ?_⟩) hS ?_
        rotate_left
        focus (intro w' hw'; have k0 := (hw'.cell (p := ⟨b, _, none⟩) hbl).trans d0; have k1 := (hw'.cell (p := ⟨b, _, none⟩) hbl).trans d1; go_simp; all_goals with_reducible rfl)
        try simp only [Act.put, List.setIfInBounds_toArray, List.set_cons_zero, List.set_cons_succ]
        refine wpAnyH_take (i := 5) (v := ?_) (by simp only [List.getElem?_toArray, List.getElem?_cons_succ, List.getElem?_cons_zero] <;> exact rfl) (by kernel_rfl) (by kernel_rfl) (by kernel_rfl) (fun _ _ _ h => h) (Or.inl ⟨by rfl, ?_⟩) hS ?_
        rotate_left
        focus (intro w' hw'; go_simp; all_goals with_reducible rfl)
        try simp only [Act.put, List.setIfInBounds_toArray, List.set_cons_zero, List.set_cons_succ]
        refine wpAnyH_take (i := 6) (v := ?_) (by simp only [List.getElem?_toArray, List.getElem?_cons_succ, List.getElem?_cons_zero] <;> exact rfl) (by kernel_rfl) (by kernel_rfl) (by kernel_rfl) (fun _ _ _ h => h) (Or.inl ⟨by rfl, ?_⟩) hS ?_
        rotate_left
        focus (intro w' hw'; go_simp; all_goals with_reducible rfl)
        try simp only [Act.put, List.setIfInBounds_toArray, List.set_cons_zero, List.set_cons_succ]
        refine wpAnyH_take (i := 7) (v := ?_) (by simp only [List.getElem?_toArray, List.getElem?_cons_succ, List.getElem?_cons_zero] <;> exact rfl) (by kernel_rfl) (by kernel_rfl) (by kernel_rfl) (fun _ _ _ h => h) (Or.inl ⟨by rfl, ?_⟩) hS ?_
        rotate_left
        focus (intro w' hw'; have kk : IntKind.i64.wrap (i : Int) = (i : Int) := HWR.out; go_simp; all_goals with_reducible rfl)
        try simp only [Act.put, List.setIfInBounds_toArray, List.set_cons_zero, List.set_cons_succ]
        refine wpAnyH_take (i := 8) (v := ?_) (by simp only [List.getElem?_toArray, List.getElem?_cons_succ, List.getElem?_cons_zero] <;> exact rfl) (by kernel_rfl) (by kernel_rfl) (by kernel_rfl) (fun _ _ _ h => h) (Or.inl ⟨by rfl, ?_⟩) hS ?_
        rotate_left
        focus (intro w' hw'; have kk : (i : Int) < (n : Int) := hlt1; go_simp; all_goals with_reducible rfl)
        try simp only [Act.put, List.setIfInBounds_toArray, List.set_cons_zero, List.set_cons_succ]
        refine wpAnyH_take (i := 9) (v := ?_) (by simp only [List.getElem?_toArray, List.getElem?_cons_succ, List.getElem?_cons_zero] <;> exact rfl) (by kernel_rfl) (by kernel_rfl) (by kernel_rfl) (fun _ _ _ h => h) (Or.inl ⟨by rfl, ?_⟩) hS ?_
        rotate_left
        focus (intro w' hw'; have k0 := (hw'.cell (p := ⟨b, _, none⟩) hbl).trans c0; have k1 := (hw'.cell (p := ⟨b, _, none⟩) hbl).trans c1; go_simp; all_goals with_reducible rfl)
        try simp only [Act.put, List.setIfInBounds_toArray, List.set_cons_zero, List.set_cons_succ]
        refine wpAnyH_ready (rs := [10]) (by kernel_rfl) (by simp) ?_
        refine AllReadyH.cons (o := _) (by simp only [List.getElem?_toArray, List.getElem?_cons_succ, List.getElem?_cons_zero] <;> exact rfl) (fun K hK => ?_) ?_
        focus (
          go_simp
          go_at_call 35
          refine (HC.out _).mono ?_
          rintro e wc ⟨rfl, hb⟩
          have hS := hS.trans (hb.mono hS.size)
          clear hb
          go_wp2_with fail
          refine hK.out _ _ hS (fun _ => ?_)
          clear hK K
          try simp only [Act.put, List.setIfInBounds_toArray, List.set_cons_zero, List.set_cons_succ]
          refine wpAnyH_take (i := 11) (v := ?_) (by simp only [List.getElem?_toArray, List.getElem?_cons_succ, List.getElem?_cons_zero] <;> exact rfl) (by kernel_rfl) (by kernel_rfl) (by kernel_rfl) (fun _ _ _ h => h) (Or.inl ⟨by rfl, ?_⟩) hS ?_
          rotate_left
          focus (intro w' hw'; go_simp; all_goals with_reducible rfl)
          try simp only [Act.put, List.setIfInBounds_toArray, List.set_cons_zero, List.set_cons_succ]
          refine wpAnyH_done (by kernel_rfl) ?_ _
          refine NoPanic.normal ?_
          have HB9 := hide (HB.out.trans (hS.mono HB.out.size))
          clear hS
          go_wp2
          go_ret
          exact ⟨by rw [HF.out]; rfl, HB9.out⟩)
        exact AllReadyH.nil
      · have HF := hide (HO.out.prev HX.out HY.out hxy)
        have hcm : ¬ cmpI y.t x.t < 0 := by unfold cmpI; rw [if_neg hxy]; split <;> omega
        generalize cmpI y.t x.t = cm at *
        clear hxy HX HY
        go_upto_region 4 with (fail)
        refine wp_region_noPanic ?_
        refine wp_region_held_drew (S := fun w' => Below wr.heap.size wr w') (by kernel_rfl) (Below.refl _ _).drew (fun hS => ?_)
        generalize wr.drew = wd at hS ⊢
        refine wpAnyH_take (i := 0) (v := ?_) (by simp only [List.getElem?_toArray, List.getElem?_cons_succ, List.getElem?_cons_zero] <;> exact rfl) (by kernel_rfl) (by kernel_rfl) (by kernel_rfl) (fun _ _ _ h => h) (Or.inl ⟨by rfl, ?_⟩) hS ?_
        rotate_left
        focus (intro w' hw'; go_simp; all_goals with_reducible rfl)
        try simp only [Act.put, List.setIfInBounds_toArray, List.set_cons_zero, List.set_cons_succ]
        refine wpAnyH_take (i := 1) (v := ?_) (by simp only [List.getElem?_toArray, List.getElem?_cons_succ, List.getElem?_cons_zero] <;> exact rfl) (by kernel_rfl) (by kernel_rfl) (by kernel_rfl) (fun _ _ _ h => h) (Or.inl ⟨by rfl, ?_⟩) hS ?_
        rotate_left
        focus (intro w' hw'; go_simp; all_goals with_reducible rfl)
        try simp only [Act.put, List.setIfInBounds_toArray, List.set_cons_zero, List.set_cons_succ]
        refine wpAnyH_take (i := 2) (v := ?_) (by simp only [List.getElem?_toArray, List.getElem?_cons_succ, List.getElem?_cons_zero] <;> exact rfl) (by kernel_rfl) (by kernel_rfl) (by kernel_rfl) (fun _ _ _ h => h) (Or.inl ⟨by rfl, ?_⟩) hS ?_
        rotate_left
        focus (intro w' hw'; go_simp; all_goals with_reducible rfl)
        try simp only [Act.put, List.setIfInBounds_toArray, List.set_cons_zero, List.set_cons_succ]
        refine wpAnyH_take (i := 3) (v := ?_) (by simp only [List.getElem?_toArray, List.getElem?_cons_succ, List.getElem?_cons_zero] <;> exact rfl) (by kernel_rfl) (by kernel_rfl) (by kernel_rfl) (fun _ _ _ h => h) (Or.inl ⟨by rfl, ?_⟩) hS ?_
        rotate_left
        focus (intro w' hw'; have kk : (i : Int) + 1 < (n : Int) := hlt2; have kz : (0 : Int) ≤ (i : Int) + 1 := h0i; go_simp; all_goals with_reducible rfl)
        try simp only [Act.put, List.setIfInBounds_toArray, List.set_cons_zero, List.set_cons_succ]
        refine wpAnyH_take (i := 4) (v := ?_) (by simp only [List.getElem?_toArray, List.getElem?_cons_succ, List.getElem?_cons_zero] <;> exact rfl) (by kernel_rfl) (by kernel_rfl) (by kernel_rfl) (fun _ _ _ h => h) (Or.inl ⟨by rfl, ?_⟩) hS ?_
        rotate_left
        focus (intro w' hw'; have k0 := (hw'.cell (p := ⟨b, _, none⟩) hbl).trans d0; have k1 := (hw'.cell (p := ⟨b, _, none⟩) hbl).trans d1; go_simp; all_goals with_reducible rfl)
        try simp only [Act.put, List.setIfInBounds_toArray, List.set_cons_zero, List.set_cons_succ]
        refine wpAnyH_take (i := 5) (v := ?_) (by simp only [List.getElem?_toArray, List.getElem?_cons_succ, List.getElem?_cons_zero] <;> exact rfl) (by kernel_rfl) (by kernel_rfl) (by kernel_rfl) (fun _ _ _ h => h) (Or.inl ⟨by rfl, ?_⟩) hS ?_
        rotate_left
        focus (intro w' hw'; go_simp; all_goals with_reducible rfl)
        try simp only [Act.put, List.setIfInBounds_toArray, List.set_cons_zero, List.set_cons_succ]
        refine wpAnyH_take (i := 6) (v := ?_) (by simp only [List.getElem?_toArray, List.getElem?_cons_succ, List.getElem?_cons_zero] <;> exact rfl) (by kernel_rfl) (by kernel_rfl) (by kernel_rfl) (fun _ _ _ h => h) (Or.inl ⟨by rfl, ?_⟩) hS ?_
        rotate_left
        focus (intro w' hw'; go_simp; all_goals with_reducible rfl)
        try simp only [Act.put, List.setIfInBounds_toArray, List.set_cons_zero, List.set_cons_succ]
        refine wpAnyH_take (i := 7) (v := ?_) (by simp only [List.getElem?_toArray, List.getElem?_cons_succ, List.getElem?_cons_zero] <;> exact rfl) (by kernel_rfl) (by kernel_rfl) (by kernel_rfl) (fun _ _ _ h => h) (Or.inl ⟨by rfl, ?_⟩) hS ?_
        rotate_left
        focus (intro w' hw'; have kk : IntKind.i64.wrap (i : Int) = (i : Int) := HWR.out; go_simp; all_goals with_reducible rfl)
        try simp only [Act.put, List.setIfInBounds_toArray, List.set_cons_zero, List.set_cons_succ]
        refine wpAnyH_take (i := 8) (v := ?_) (by simp only [List.getElem?_toArray, List.getElem?_cons_succ, List.getElem?_cons_zero] <;> exact rfl) (by kernel_rfl) (by kernel_rfl) (by kernel_rfl) (fun _ _ _ h => h) (Or.inl ⟨by rfl, ?_⟩) hS ?_
        rotate_left
        focus (intro w' hw'; have kk : (i : Int) < (n : Int) := hlt1; go_simp; all_goals with_reducible rfl)
        try simp only [Act.put, List.setIfInBounds_toArray, List.set_cons_zero, List.set_cons_succ]
        refine wpAnyH_take (i := 9) (v := ?_) (by simp only [List.getElem?_toArray, List.getElem?_cons_succ, List.getElem?_cons_zero] <;> exact rfl) (by kernel_rfl) (by kernel_rfl) (by kernel_rfl) (fun _ _ _ h => h) (Or.inl ⟨by rfl, ?_⟩) hS ?_
        rotate_left
        focus (intro w' hw'; have k0 := (hw'.cell (p := ⟨b, _, none⟩) hbl).trans c0; have k1 := (hw'.cell (p := ⟨b, _, none⟩) hbl).trans c1; go_simp; all_goals with_reducible rfl)
        try simp only [Act.put, List.setIfInBounds_toArray, List.set_cons_zero, List.set_cons_succ]
        refine wpAnyH_ready (rs := [10]) (by kernel_rfl) (by simp) ?_
        refine AllReadyH.cons (o := _) (by simp only [List.getElem?_toArray, List.getElem?_cons_succ, List.getElem?_cons_zero] <;> exact rfl) (fun K hK => ?_) ?_
        focus (
          go_simp
          go_at_call 35
          refine (HC.out _).mono ?_
          rintro e wc ⟨rfl, hb⟩
          have hS := hS.trans (hb.mono hS.size)
          clear hb
          go_wp2_with fail
          refine hK.out _ _ hS (fun _ => ?_)
          clear hK K
          try simp only [Act.put, List.setIfInBounds_toArray, List.set_cons_zero, List.set_cons_succ]
          refine wpAnyH_take (i := 11) (v := ?_) (by simp only [List.getElem?_toArray, List.getElem?_cons_succ, List.getElem?_cons_zero] <;> exact rfl) (by kernel_rfl) (by kernel_rfl) (by kernel_rfl) (fun _ _ _ h => h) (Or.inl ⟨by rfl, ?_⟩) hS ?_
          rotate_left
          focus (intro w' hw'; go_simp; all_goals with_reducible rfl)
          try simp only [Act.put, List.setIfInBounds_toArray, List.set_cons_zero, List.set_cons_succ]
          refine wpAnyH_done (by kernel_rfl) ?_ _
          refine NoPanic.normal ?_
          have HB9 := hide (HB.out.trans (hS.mono HB.out.size))
          clear hS
          go_wp2
          go_roundw
          case rel => exact ⟨i + 1, _, by omega, rfl, by go_num, HF.out, HB9.out⟩
          case measure => simp [intOf]; omega)
        exact AllReadyH.nil

set_option maxRecDepth 100000 in
set_option maxHeartbeats 1600000 in
theorem uk_Check (A : Option Addr) (n c : Nat) (l : List It) (w : World) (hl : IL w A n c l) (hn : (n : Int) ≤ 1000000) :
    Calls Try.prog 17 #[.slice A n c] w fun e w' => e = .returned (.int .i64 (chkU l)) ∧ Below w.heap.size w w' := by
  have hle := hl.len
  by_cases h4 : 4 < (n : Int)
  · rw [chkU_7 (by omega)]
    clear hl hle
    go_enter Try.func17, Try.ntmps17
    go_wp2
    go_ret
    exact ⟨rfl, Below.refl _ _⟩
  · have h4' : ¬ 4 < (l.length : Int) := by omega
    have HIL := hide hl
    have HA := hide (fun w' (h : IL w' A n c l) => uk_any1 A n c l w' h hn)
    have HB := hide (fun w' (h : IL w' A n c l) => uk_any2 A n c l w' h hn)
    have HC := hide (fun w' (h : IL w' A n c l) => uk_sorted A n c l w' h hn)
    have H5 := hide (show itsLong l = true → chkU l = 5 from chkU_5 h4')
    have H8 := hide (show itsLong l = false → itsOff l = true → chkU l = 8 from chkU_8 h4')
    have H10 := hide (show itsLong l = false → itsOff l = false → ordB l = false → chkU l = 10 from chkU_10 h4')
    have H0 := hide (show itsLong l = false → itsOff l = false → ordB l = true → chkU l = 0 from chkU_0 h4')
    have hA : (l.any fun x => longB x.ps) = itsLong l := rfl
    have hB : (l.any fun x => !tickB x.t) = itsOff l := rfl
    rw [hA] at HA
    rw [hB] at HB
    clear hl hA hB hle h4'
    generalize chkU l = ck at *
    go_enter Try.func17, Try.ntmps17
    go_wp2_with fail
    refine (HA.out _ HIL.out).mono ?_
    rintro e w1 ⟨rfl, hb1⟩
    have HI1 := hide (HIL.out.keep hb1)
    have HB1 := hide hb1
    clear hb1 HA
    cases h1 : itsLong l with
    | true =>
      have HE := hide (H5.out h1)
      clear h1 H5 H8 H10 H0 HB HC
      go_wp2
      go_ret
      exact ⟨by rw [HE.out]; rfl, HB1.out⟩
    | false =>
      go_wp2_with fail
      refine (HB.out _ HI1.out).mono ?_
      rintro e w2 ⟨rfl, hb2⟩
      have HI2 := hide (HI1.out.keep hb2)
      have HB2 := hide (HB1.out.trans (hb2.mono HB1.out.size))
      clear hb2 HB
      cases h2 : itsOff l with
      | true =>
        have HE := hide (H8.out h1 h2)
        clear h1 h2 H5 H8 H10 H0 HC
        go_wp2
        go_ret
        exact ⟨by rw [HE.out]; rfl, HB2.out⟩
      | false =>
        go_wp2_with fail
        refine (HC.out _ HI2.out).mono ?_
        rintro e w3 ⟨rfl, hb3⟩
        have HB3 := hide (HB2.out.trans (hb3.mono HB2.out.size))
        clear hb3 HC
        cases h3 : ordB l with
        | true =>
          have HE := hide (H0.out h1 h2 h3)
          clear h1 h2 h3 H5 H8 H10 H0
          go_wp2
          go_ret
          exact ⟨by rw [HE.out]; rfl, HB3.out⟩
        | false =>
          have HE := hide (H10.out h1 h2 h3)
          clear h1 h2 h3 H5 H8 H10 H0
          go_wp2
          go_ret
          exact ⟨by rw [HE.out]; rfl, HB3.out⟩
end Go.Proofs.Ytjfdlgmdlfbeoaa
