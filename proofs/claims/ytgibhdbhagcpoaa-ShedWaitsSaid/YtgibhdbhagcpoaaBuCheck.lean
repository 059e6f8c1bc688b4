/-
  Layer 21: Check: the program's.
-/
import Derived.Test.YtgibhdbhagcpoaaBuBound
namespace Go.Proofs.Ytgibhdbhagcpoaa
set_option linter.unusedSimpArgs false
set_option linter.unusedVariables false
open Go.RowKit

theorem neq_fin {α : Type} {b c : Bu} {ok : Bool} (h : ok = decide (b = c)) (f : Bool → α) :
    (if b.u = c.u then if b.r = c.r then if b.p = c.p then if b.l = c.l then if b.n = c.n then f false else f true else f true else f true else f true else f true) = f (!ok) := by
  subst h
  obtain ⟨a1, a2, a3, a4, a5⟩ := b
  obtain ⟨c1, c2, c3, c4, c5⟩ := c
  simp only [Bu.mk.injEq]
  by_cases h1 : a1 = c1 <;> simp [h1]
  by_cases h2 : a2 = c2 <;> simp [h2]
  by_cases h3 : a3 = c3 <;> simp [h3]
  by_cases h4 : a4 = c4 <;> simp [h4]
  by_cases h5 : a5 = c5 <;> simp [h5]
theorem eq_fin {α : Type} {b c : Bu} {ok : Bool} (h : ok = decide (b = c)) (f : Bool → α) :
    (if b.u = c.u then if b.r = c.r then if b.p = c.p then if b.l = c.l then if b.n = c.n then f true else f false else f false else f false else f false else f false) = f ok := by
  have := neq_fin h (fun x => f (!x))
  simpa using this

set_option maxRecDepth 100000 in
set_option maxHeartbeats 1600000 in
theorem bu_Check (b : Bu) (w : World) : Calls Try.prog 18 #[.agg b.cs] w fun e w' => e = .returned (.int .i64 (chkB b)) ∧ Below w.heap.size w w' := by
  have HBN := hide (fun w => bu_bounded b w)
  have HE := hide (ok_bnd b)
  have HB0 := hide (bel1 w (.cells b.cs 26))
  obtain ⟨g, hg⟩ : ∃ g, g = w.heap.size := ⟨_, rfl⟩
  have HK := hide (show BlkIs (w.alloc (.cells b.cs 26)) g 26 b.cs by rw [hg]; exact BlkIs.new w _ _)
  generalize bndB b = cb at *
  unfold chkB
  generalize okB b = ok at *
  go_enter Try.func18, Try.ntmps18
  go_wp2_with fail
  rw [← hg]
  clear hg
  generalize w.alloc (.cells b.cs 26) = w0 at *
  refine wp_region_noPanic ?_
  refine wp_region_held_drew (S := fun w' => Below w0.heap.size w0 w') (by kernel_rfl) (Below.refl _ _).drew (fun hS => ?_)
  generalize w0.drew = wd at hS ⊢
  refine wpAnyH_take (i := 0) (by simp only [List.getElem?_toArray, List.getElem?_cons_zero] <;> exact rfl) (by kernel_rfl) (by kernel_rfl) (by kernel_rfl) (fun _ _ _ h => h) (rgs_yields_blk (by rfl) 26 (.tmp 1) (by rfl) g (by rfl) 26 b.cs _ (fun w' hw' => HK.out.keep hw') Try.underlying26 rfl bu_size) hS ?_
  try simp only [Act.put, List.setIfInBounds_toArray, List.set_cons_zero, List.set_cons_succ]
  refine wpAnyH_take (i := 1) (by simp only [List.getElem?_toArray, List.getElem?_cons_succ, List.getElem?_cons_zero] <;> exact rfl) (by kernel_rfl) (by kernel_rfl) (by kernel_rfl) (fun _ _ _ h => h) (rgs_yields_blk (by rfl) 26 (.tmp 1) (by rfl) g (by rfl) 26 b.cs _ (fun w' hw' => HK.out.keep hw') Try.underlying26 rfl bu_size) hS ?_
  try simp only [Act.put, List.setIfInBounds_toArray, List.set_cons_zero, List.set_cons_succ]
  refine wpAnyH_ready (rs := [2]) (by kernel_rfl) (by simp) ?_
  refine AllReadyH.cons (o := _) (by simp only [List.getElem?_toArray, List.getElem?_cons_succ, List.getElem?_cons_zero] <;> exact rfl) (fun K hK => ?_) ?_
  focus (
    go_simp
    go_at_call 26
    refine (HBN.out _).mono ?_
    rintro e wc ⟨rfl, hb⟩
    have hS := hS.trans (hb.mono hS.size)
    clear hb
    go_wp2_with fail
    refine hK.out _ _ hS (fun _ => ?_)
    clear hK K
    try simp only [Act.put, List.setIfInBounds_toArray, List.set_cons_zero, List.set_cons_succ]
    refine wpAnyH_take (i := 3) (v := .bool (!ok)) (by simp only [List.getElem?_toArray, List.getElem?_cons_succ, List.getElem?_cons_zero] <;> exact rfl) (by kernel_rfl) (by kernel_rfl) (by kernel_rfl) (fun _ _ _ h => h) (Or.inl ⟨by rfl, ?_⟩) hS ?_
    focus (intro w' hw'; have q0 : b.cs[0]? = some (.int .i64 b.u) := rfl; have q1 : b.cs[1]? = some (.int .i64 b.r) := rfl; have q2 : b.cs[2]? = some (.int .i64 b.p) := rfl; have q3 : b.cs[3]? = some (.int .i64 b.l) := rfl; have q4 : b.cs[4]? = some (.int .i64 b.n) := rfl; have p0 : cb.cs[0]? = some (.int .i64 cb.u) := rfl; have p1 : cb.cs[1]? = some (.int .i64 cb.r) := rfl; have p2 : cb.cs[2]? = some (.int .i64 cb.p) := rfl; have p3 : cb.cs[3]? = some (.int .i64 cb.l) := rfl; have p4 : cb.cs[4]? = some (.int .i64 cb.n) := rfl; go_simp; exact neq_fin HE.out (fun x => Result.ok (Next.value (Value.bool x)) w'))
    try simp only [Act.put, List.setIfInBounds_toArray, List.set_cons_zero, List.set_cons_succ]
    refine wpAnyH_done (by kernel_rfl) ?_ _
    refine NoPanic.normal ?_
    have HS := hide (HB0.out.trans (hS.mono HB0.out.size))
    clear hS HE
    cases ok
    all_goals
      go_wp2
      go_ret
      exact ⟨rfl, HS.out⟩)
  exact AllReadyH.nil
end Go.Proofs.Ytgibhdbhagcpoaa
