/-
  Layer 9: Length (the program's).
-/
import Derived.Test.YtefdhbljcnpggaaFrCheck
import Derived.Deep.RegionHeld3
import Derived.Deep.MidRow
namespace Go.Proofs.Ytefdhbljcnpggaa
open Go.RowKit

/-- A load of a block that is known whole yields the same all through. -/
theorem yields_blk {P : Program} {ops : Array Oper} {S : World → Prop} {op : Oper} {a : Act} (hw : Region.wanted op (yielded ops a.tmps) = true) (ty : TypeId) (x : Operand) (ho : op.op = .load ty x)
    (g : Nat) (hx : a.eval x = .pointer (some ⟨g, 0, none⟩)) (t : TypeId) (cs : Array Value) (d : TypeDesc) (hS : ∀ w, S w → BlkIs w g t cs)
    (hu : P.underlying ty = some d) (hd : d.isRow = true) (hi : (P.info? ty).map (·.size) = some cs.size) : YieldsIf P ops S op (.agg cs) a := by
  have := yieldsIf_load_mid hw ty x ho g 0 hx cs.toList d (fun w h => by have := World.rangeAt_of_block (hS w h) 0 cs.size; simpa using this) hu hd (by simpa using hi)
  simpa using this

/-- What Length answers. -/
def Fr.len (F : Fr) (n : Nat) : Int := if F.chk n = 0 then F.siz n else 0
theorem chk_zero {F : Fr} {n : Nat} (h : F.chk n = 0) : F.inB = true ∧ F.fitB n = true ∧ (F.ty = 6 → F.data.size = 8) ∧ F.siz n ≤ 16384 := by
  unfold Fr.chk at h
  split at h
  · cases h
  · rename_i h1
    split at h
    · cases h
    · rename_i h2
      split at h
      · cases h
      · rename_i h3
        refine ⟨by simpa using h1, ?_, ?_, by omega⟩
        · cases hf : F.fitB n with
          | true => rfl
          | false => exact absurd (Or.inl hf) h2
        · intro h6
          by_cases h8 : F.data.size = 8
          · exact h8
          · exact absurd (Or.inr ⟨h6, h8⟩) h2

set_option maxRecDepth 100000 in
set_option maxHeartbeats 3200000 in
theorem fr_Length (F : Fr) (A : Option Addr) (n c : Nat) (t0 : 0 ≤ F.ty) (hn : (n : Int) ≤ 150000000000000) (hs : (F.data.size : Int) ≤ 150000000000000) (w : World) :
    Calls Try.prog 18 #[.agg (F.cs A n c)] w fun e w' => e = .returned (.int .i64 (F.len n)) ∧ Below w.heap.size w w' := by
  have HC := hide (fun w => fr_Check F A n c t0 hn hs w)
  have HH := hide (fun w => fr_head F A n c w)
  have HS := hide (fun w => fr_shapeOf 0 F.ty F.fl F.st t0 w)
  have HSz := hide (fun p0 p1 w => fr_size (shP F.ty F.fl) (shD F.ty F.fl) (shL F.ty) (shC F.ty) (shI F.ty) (shR F.ty F.fl) (shX F.ty) F A n c hn hs p0 p1 w)
  have HQ : F.siz n = sizV (shP F.ty F.fl) (shD F.ty F.fl) (shL F.ty) (shC F.ty) (shI F.ty) F n := rfl
  rw [← HQ] at HSz
  clear HQ
  have HL := hide (show F.len n = if F.chk n = 0 then F.siz n else 0 from rfl)
  have HZ := hide (show (Try.prog.info? 28).map (·.size) = some (F.cs A n c).size from fr_sz)
  generalize F.cs A n c = cs at *
  go_enter Try.func18, Try.ntmps18
  go_upto_region 1 with (fail)
  have B0 := hide (Below.refl w.heap.size w)
  have KN1 := hide (BlkIs.new w 28 cs)
  obtain ⟨g, hg⟩ : ∃ g, g = w.heap.size := ⟨_, rfl⟩
  have Lg := hide (show w.heap.size ≤ g by rw [hg]; exact B0.out.size)
  have B1 := hide (B0.out.alloc B0.out.size (.cells cs 28))
  rw [← hg] at KN1 ⊢
  generalize w.alloc (.cells cs 28) = w1 at B1 KN1 ⊢
  clear hg B0
  go_wp2_with (refine wpList_load_blk rfl 28 (.tmp 1) rfl g rfl 28 cs _ KN1.out Try.underlying28 rfl HZ.out ?_)
  refine (HC.out _).mono ?_
  rintro e w2 ⟨rfl, hb2⟩
  have Kg2 := hide (KN1.out.keep hb2)
  have B2 := hide (B1.out.trans (hb2.mono B1.out.size))
  clear hb2 KN1 B1
  by_cases hc : F.chk n = 0
  · have hi := hide ((inB_iff F).1 (chk_zero hc).1)
    have HL := hide (HL.out.trans (if_pos hc))
    have HSz := hide (HSz.out hi.out.2.2.2.2.2.2.2.2.1 hi.out.2.2.2.2.2.2.2.2.2)
    rw [hc]
    clear hi hc HC
    go_wp2_with fail
    refine wp_region_noPanic ?_
    refine wp_region_held_drew (S := fun w' => Below w2.heap.size w2 w') (by kernel_rfl) (Below.refl _ _).drew (fun hS => ?_)
    refine wpAnyH_take (i := 0) (by simp only [List.getElem?_toArray, List.getElem?_cons_zero] <;> exact rfl) (by kernel_rfl) (by kernel_rfl) (by kernel_rfl) (fun _ _ _ h => h) (yields_blk (by rfl) 28 (.tmp 1) (by rfl) g (by rfl) 28 cs _ (fun w' hw' => Kg2.out.keep hw') Try.underlying28 rfl HZ.out) hS ?_
    try simp only [Act.put, List.setIfInBounds_toArray, List.set_cons_zero, List.set_cons_succ]
    refine wpAnyH_take (i := 1) (by simp only [List.getElem?_toArray, List.getElem?_cons_succ, List.getElem?_cons_zero] <;> exact rfl) (by kernel_rfl) (by kernel_rfl) (by kernel_rfl) (fun _ _ _ h => h) (yields_blk (by rfl) 28 (.tmp 1) (by rfl) g (by rfl) 28 cs _ (fun w' hw' => Kg2.out.keep hw') Try.underlying28 rfl HZ.out) hS ?_
    try simp only [Act.put, List.setIfInBounds_toArray, List.set_cons_zero, List.set_cons_succ]
    refine wpAnyH_ready (rs := [2]) (by kernel_rfl) (by simp) ?_
    refine AllReadyH.cons (o := _) (by simp only [List.getElem?_toArray, List.getElem?_cons_succ, List.getElem?_cons_zero] <;> exact rfl) (fun K hK => ?_) ?_
    focus (
      go_simp
      go_at_call 35
      refine (HH.out _).mono ?_
      rintro e wc1 ⟨rfl, hb⟩
      have hS := hS.trans (hb.mono hS.size)
      clear hb
      go_wp2_with fail
      refine hK.out _ _ hS (fun _ => ?_)
      clear hK K
      try simp only [Act.put, List.setIfInBounds_toArray, List.set_cons_zero, List.set_cons_succ])
    rotate_left
    focus (exact AllReadyH.nil)
    refine wpAnyH_ready (rs := [3]) (by kernel_rfl) (by simp) ?_
    refine AllReadyH.cons (o := _) (by simp only [List.getElem?_toArray, List.getElem?_cons_succ, List.getElem?_cons_zero] <;> exact rfl) (fun K hK => ?_) ?_
    focus (
      go_simp
      go_at_call 23
      refine (HS.out _).mono ?_
      rintro e wc2 ⟨rfl, hb⟩
      have hS := hS.trans (hb.mono hS.size)
      clear hb
      go_wp2_with fail
      refine hK.out _ _ hS (fun _ => ?_)
      clear hK K
      try simp only [Act.put, List.setIfInBounds_toArray, List.set_cons_zero, List.set_cons_succ])
    rotate_left
    focus (exact AllReadyH.nil)
    refine wpAnyH_ready (rs := [4]) (by kernel_rfl) (by simp) ?_
    refine AllReadyH.cons (o := _) (by simp only [List.getElem?_toArray, List.getElem?_cons_succ, List.getElem?_cons_zero] <;> exact rfl) (fun K hK => ?_) ?_
    focus (
      go_simp
      go_at_call 36
      refine (HSz.out _).mono ?_
      rintro e wc3 ⟨rfl, hb⟩
      have hS := hS.trans (hb.mono hS.size)
      clear hb
      go_wp2_with fail
      refine hK.out _ _ hS (fun _ => ?_)
      clear hK K
      try simp only [Act.put, List.setIfInBounds_toArray, List.set_cons_zero, List.set_cons_succ])
    rotate_left
    focus (exact AllReadyH.nil)
    refine wpAnyH_take (i := 5) (v := ?_) (by simp only [List.getElem?_toArray, List.getElem?_cons_succ, List.getElem?_cons_zero] <;> exact rfl) (by kernel_rfl) (by kernel_rfl) (by kernel_rfl) (fun _ _ _ h => h) (Or.inl ⟨by rfl, ?_⟩) hS ?_
    rotate_left
    focus (intro w' hw'; go_simp; all_goals with_reducible rfl)
    try simp only [Act.put, List.setIfInBounds_toArray, List.set_cons_zero, List.set_cons_succ]
    refine wpAnyH_done (by kernel_rfl) ?_ _
    refine NoPanic.normal ?_
    have hb3 := hS
    have Kg3 := hide (Kg2.out.keep hb3)
    have B3 := hide (B2.out.trans (hb3.mono B2.out.size))
    clear hb3 Kg2 B2
    clear hS
    go_wp2
    go_ret
    exact ⟨by rw [HL.out]; rfl, B3.out⟩
  · have HL := hide (HL.out.trans (if_neg hc))
    have hcc : (F.chk n != 0) = true := by simp [hc]
    go_wp2
    go_ret
    exact ⟨by rw [HL.out]; rfl, B2.out⟩
end Go.Proofs.Ytefdhbljcnpggaa
