/-
  Layer 13: UnackOrder: lists of settings in memory: what came in, and what was sent.
-/
import Derived.Test.YtjfdlgmdlfbeoaaUkAck
import Derived.Test.YtjfdlgmdlfbeoaaUkPush
import Derived.ProofKit
import Derived.OpenShut
namespace Go.Proofs.Ytjfdlgmdlfbeoaa.unackOrder
set_option linter.unusedSimpArgs false
set_option linter.unusedVariables false
open Go.RowKit

/-- A list of settings as it lies in memory. -/
structure Lx where
  A : Option Addr
  c : Nat
  ps : List Pr
def Lx.val (y : Lx) : Value := .slice y.A y.ps.length y.c
def AllY (w : World) (Y : List Lx) : Prop := ∀ y ∈ Y, PL w y.A y.ps.length y.c y.ps
/-- The slice (A, n, c) reads as the list L of lists. -/
def LL (w : World) (A : Option Addr) (n c : Nat) (L : List (List Pr)) : Prop :=
  ∃ Y : List Lx, Y.map (·.ps) = L ∧ Y.length = n ∧ (∀ k y, Y[k]? = some y → ∃ b off, A = some ⟨b, off, none⟩ ∧ b < w.heap.size ∧ w.cell? ⟨b, off + k, none⟩ = some y.val) ∧ AllY w Y
theorem LL.len {w : World} {A : Option Addr} {n c : Nat} {L : List (List Pr)} (h : LL w A n c L) : L.length = n := by
  obtain ⟨Y, rfl, h, _⟩ := h
  rw [List.length_map, h]
theorem LL.round {w : World} {A : Option Addr} {n c : Nat} {L : List (List Pr)} (h : LL w A n c L) {k : Nat} (hk : k < n) : ∃ ps A' c' b off, L[k]? = some ps ∧ A = some ⟨b, off, none⟩ ∧ b < w.heap.size ∧ w.cell? ⟨b, off + k, none⟩ = some (.slice A' ps.length c') ∧ PL w A' ps.length c' ps := by
  obtain ⟨Y, rfl, h1, h2, h3⟩ := h
  have hkl : k < Y.length := by rw [h1]; exact hk
  obtain ⟨b, off, e, hlt, c0⟩ := h2 k _ (List.getElem?_eq_getElem hkl)
  exact ⟨(Y[k]).ps, (Y[k]).A, (Y[k]).c, b, off, by simp [hkl], e, hlt, c0, h3 _ (List.getElem_mem hkl)⟩

/-- A slice's value. -/
def Sl (u : Value) : Prop := ∃ A n c, u = .slice A n c
structure SentB (w : World) (g off cap : Nat) (cur : Array Value) (Y : List Lx) : Prop where
  blk : BlkIs w g 23 cur
  fit : off + cap ≤ cur.size
  le : Y.length ≤ cap
  max : cap ≤ maxLen
  sl : ∀ (i : Nat) (u : Value), cur[i]? = some u → Sl u
  at_ : ∀ (k : Nat) (y : Lx), Y[k]? = some y → cur[off + k]? = some y.val
/-- What was sent: a row of the call's own, of which the first ones may be gone; the settings lie where they came in. -/
def SentIs (w w0 : World) (v : Value) (S : List (List Pr)) : Prop :=
  ∃ Y : List Lx, Y.map (·.ps) = S ∧ AllY w0 Y ∧ ((v = .slice none 0 0 ∧ Y = []) ∨ ∃ g off cap cur, v = .slice (some ⟨g, off, none⟩) Y.length cap ∧ w0.heap.size ≤ g ∧ SentB w g off cap cur Y)
theorem SentIs.keep {w w' w0 : World} {v : Value} {S : List (List Pr)} (h : SentIs w w0 v S) (hb : Below w.heap.size w w') : SentIs w' w0 v S := by
  obtain ⟨Y, h1, h2, h3⟩ := h
  refine ⟨Y, h1, h2, h3.imp id fun ⟨g, off, cap, cur, e, hg, hB⟩ => ⟨g, off, cap, cur, e, hg, hB.blk.keep hb, hB.fit, hB.le, hB.max, hB.sl, hB.at_⟩⟩
theorem SentIs.nil_ (w w0 : World) : SentIs w w0 (.slice none 0 0) [] := ⟨[], rfl, (fun y hy => by cases hy), .inl ⟨rfl, rfl⟩⟩
theorem SentIs.form {w w0 : World} {v : Value} {S : List (List Pr)} (h : SentIs w w0 v S) : ∃ A c, v = .slice A S.length c := by
  obtain ⟨Y, rfl, _, h3⟩ := h
  rcases h3 with ⟨rfl, rfl⟩ | ⟨g, off, cap, cur, rfl, _⟩
  · exact ⟨none, 0, rfl⟩
  · exact ⟨_, cap, by rw [List.length_map]⟩
theorem SentIs.first {w w0 : World} {v : Value} {p : List Pr} {S : List (List Pr)} (h : SentIs w w0 v (p :: S)) : ∃ g off cap A' c', v = .slice (some ⟨g, off, none⟩) (S.length + 1) cap ∧ g < w.heap.size ∧ w.cell? ⟨g, off, none⟩ = some (.slice A' p.length c') ∧ PL w0 A' p.length c' p := by
  obtain ⟨Y, hY, h2, h3⟩ := h
  obtain ⟨y, Y, rfl⟩ : ∃ y Z, Y = y :: Z := by cases Y with | nil => simp at hY | cons y Z => exact ⟨y, Z, rfl⟩
  simp only [List.map_cons, List.cons.injEq] at hY
  obtain ⟨rfl, rfl⟩ := hY
  rcases h3 with ⟨_, h⟩ | ⟨g, off, cap, cur, rfl, _, hB⟩
  · cases h
  · refine ⟨g, off, cap, y.A, y.c, by simp, hB.blk.lt, ?_, h2 y List.mem_cons_self⟩
    rw [hB.blk.cell]
    exact hB.at_ 0 y rfl
theorem ll_size : (Try.prog.info? (Try.prog.elem 53)).map (·.size) = some 1 := by kernel_rfl
theorem ll_under : Try.prog.underlying 53 = some (.slice (Try.prog.elem 53)) := by kernel_rfl
theorem ll_info : (Try.prog.info? 23).map (fun i => (i.zero, i.size, i.bytes)) = some (some (.slice none 0 0), 1, 24) := by kernel_rfl
/-- sent[1:]. -/
theorem SentIs.rest {w w0 : World} {v : Value} {p : List Pr} {S : List (List Pr)} (h : SentIs w w0 v (p :: S)) :
    ∃ v', (∀ w', (Instr.slice 53 v (some (.int .i64 1)) none none).run Try.prog w' = .ok v' w') ∧ SentIs w w0 v' S := by
  obtain ⟨Y, hY, h2, h3⟩ := h
  obtain ⟨y, Y, rfl⟩ : ∃ y Z, Y = y :: Z := by cases Y with | nil => simp at hY | cons y Z => exact ⟨y, Z, rfl⟩
  simp only [List.map_cons, List.cons.injEq] at hY
  obtain ⟨rfl, rfl⟩ := hY
  rcases h3 with ⟨_, h⟩ | ⟨g, off, cap, cur, rfl, hg, hB⟩
  · cases h
  have hle := hB.le
  have hmx := hB.max
  have hft := hB.fit
  simp only [List.length_cons] at hle
  have hr : ∀ w', (Instr.slice 53 (.slice (some ⟨g, off, none⟩) (y :: Y).length cap) (some (.int .i64 ((1 : Nat) : Int))) none none).run Try.prog w' = .ok (sliced (some ⟨g, off, none⟩) 1 (y :: Y).length cap 1) w' := by
    intro w'
    rw [run_slice_l w' 53 _ (y :: Y).length cap ll_under .i64 ((1 : Nat) : Int) (by omega) (by simp only [List.length_cons]; omega), run_size_is ll_size]
    rfl
  have ha : AllY w0 Y := fun z hz => h2 z (List.mem_cons_of_mem _ hz)
  by_cases hc : cap = 1
  · subst hc
    have hY : Y = [] := List.eq_nil_of_length_eq_zero (by omega)
    subst hY
    refine ⟨.slice (some ⟨g, off, none⟩) 0 0, fun w' => ?_, [], rfl, (fun z hz => by cases hz), .inr ⟨g, off, 0, cur, rfl, hg, hB.blk, by omega, by simp, by omega, hB.sl, fun k z hz => by simp at hz⟩⟩
    have := hr w'
    simpa [sliced] using this
  · refine ⟨.slice (some ⟨g, off + 1, none⟩) Y.length (cap - 1), fun w' => ?_, Y, rfl, ha, .inr ⟨g, off + 1, cap - 1, cur, rfl, hg, hB.blk, by omega, by omega, by omega, hB.sl, fun k z hz => ?_⟩⟩
    · have := hr w'
      simpa [sliced, hc, Addr.add] using this
    · rw [show off + 1 + k = off + (k + 1) by omega]
      exact hB.at_ (k + 1) z (by simpa using hz)

/-- A block of slices alone is no queue's. -/
theorem il_far {w : World} {A : Option Addr} {n c : Nat} {l : List It} (h : IL w A n c l) {g : Nat} {t : TypeId} {cur : Array Value} (hk : BlkIs w g t cur) (hs : ∀ (j : Nat) (z : Value), cur[j]? = some z → Sl z) (i : Nat) (u : Value) : IL (w.setCell ⟨g, i, none⟩ u) A n c l := by
  obtain ⟨X, h1, h2, h3⟩ := h
  have hkb : KB (· = g) w (w.setCell ⟨g, i, none⟩ u) := (KB.refl (· = g) w).setCell (p := ⟨g, i, none⟩) (fun _ => rfl) u
  refine ⟨X, ⟨h1.len, h1.le, h1.max, h1.nil_, fun k x hx => ?_⟩, fun x hx => ?_, h3⟩
  · obtain ⟨b, off, rfl, hlt, c0, c1⟩ := h1.at_ k x hx
    have hb : ¬ b = g := by
      rintro rfl
      rw [hk.cell] at c1
      obtain ⟨_, _, _, e⟩ := hs _ _ c1
      cases e
    exact ⟨b, off, rfl, by simpa using hlt, (hkb.cell (p := ⟨b, _, none⟩) hlt hb).trans c0, (hkb.cell (p := ⟨b, _, none⟩) hlt hb).trans c1⟩
  · exact (h2 x hx).far (p := ⟨g, i, none⟩) hk (fun j z hz => by obtain ⟨_, _, _, e⟩ := hs _ _ hz; cases e) u

theorem sent_new {w w0 : World} {Y : List Lx} {y : Lx} {cap : Nat} (hb : w0.heap.size ≤ w.heap.size) (hY : AllY w0 Y) (hy : PL w0 y.A y.ps.length y.c y.ps) (hc : Y.length + 1 ≤ cap) (hm : cap ≤ maxLen) :
    SentIs (w.drew.alloc (.cells ((Y.map Lx.val).toArray ++ [y.val].toArray ++ Builtin.zeroCells (Value.cells (.slice none 0 0)) (cap - (Y.length + 1))) 23)) w0 (.slice (some ⟨w.heap.size, 0, none⟩) (Y.length + 1) cap) (Y.map (·.ps) ++ [y.ps]) := by
  have hz : (Builtin.zeroCells (Value.cells (.slice none 0 0)) (cap - (Y.length + 1))).toList = List.replicate (cap - (Y.length + 1)) (.slice none 0 0) := by
    refine List.ext_getElem (by simp [Builtin.zeroCells, Value.cells]) fun i h1 h2 => ?_
    have h3 : i % 1 = 0 := by omega
    simp [Builtin.zeroCells, Value.cells, h3]
  refine ⟨Y ++ [y], by simp, fun z hz => (List.mem_append.1 hz).elim (hY z) (fun h => by rw [List.mem_singleton] at h; subst h; exact hy), .inr ⟨w.heap.size, 0, cap, _, by simp, hb, BlkIs.new w.drew _ _, ?_, by simpa using hc, hm, fun i u hu => ?_, fun k z hk => ?_⟩⟩
  · rw [← Array.length_toList]
    simp only [Array.toList_append, hz, List.length_append, List.length_replicate, List.length_map, List.length_cons, List.length_nil]
    omega
  · rw [← Array.getElem?_toList] at hu
    have hm := List.mem_of_getElem? hu
    simp only [Array.toList_append, hz, List.mem_append, List.mem_map, List.mem_singleton] at hm
    rcases hm with (⟨z, _, rfl⟩ | rfl) | hm
    · exact ⟨_, _, _, rfl⟩
    · exact ⟨_, _, _, rfl⟩
    · exact ⟨_, _, _, (List.mem_replicate.1 hm).2⟩
  · rw [← Array.getElem?_toList]
    simp only [Array.toList_append, hz]
    rw [List.getElem?_append_left (by have := (List.getElem?_eq_some_iff.1 hk).1; simp at this ⊢; omega)]
    have : (Y.map Lx.val ++ [y.val]) = (Y ++ [y]).map Lx.val := by simp
    rw [this, List.getElem?_map, Nat.zero_add, hk]
    rfl
/-- append(sent, l[i]), as a run. -/
theorem run_append_sent (w w0 : World) (v : Value) (S : List (List Pr)) (ty : TypeId) (hs : SentIs w w0 v S) (h : Nat) (y : Lx) (hk : BlkIs w h 23 #[y.val]) (hp : PL w0 y.A y.ps.length y.c y.ps) (hn : S.length + 1 ≤ 1000) (hb : w0.heap.size ≤ w.heap.size) :
    ∃ v' w', (Builtin.append_ #[53, 53] ty #[v, .slice (some ⟨h, 0, none⟩) 1 1]).run Try.prog w = .ok v' w' ∧ SentIs w' w0 v' (S ++ [y.ps]) ∧ Below w0.heap.size w w' ∧ ∀ A n c l, IL w A n c l → IL w' A n c l := by
  obtain ⟨i0, hi0, hz0, hz1, hz2⟩ := info_parts ll_info
  obtain ⟨Y, rfl, hY, h3⟩ := hs
  rw [List.length_map] at hn
  have hnews : ∀ j u, [y.val][j]? = some u → w.cell? ((⟨h, 0, none⟩ : Addr).add j) = some u := fun j u hu => World.news_of_block (cs := #[y.val]) hk j u hu
  have hone : ∀ u ∈ [y.val], u.oneCell' = true := fun u hu => by rw [List.mem_singleton] at hu; subst hu; rfl
  rcases h3 with ⟨rfl, rfl⟩ | ⟨g, off, cap, cur, rfl, hg, hB⟩
  · have hr := run_append_nil (P := Try.prog) w 53 ty 23 i0 _ Try.underlying53 hi0 hz0 ⟨h, 0, none⟩ 1 1 [y.val] (by rw [hz1]; rfl) hnews (by omega) (by omega) (by rw [hz2]; decide)
    have hge := grownCap_ge w 1 0 23
    have hcm := grownCap_le_maxLen w 1 0 23 (by unfold maxLen; omega)
    have hsn := sent_new (w := w) (Y := []) hb hY hp (cap := grownCap w 1 0 23) (by simpa using hge) hcm
    simp only [List.map_nil, List.nil_append, List.length_nil, Nat.zero_add, Array.empty_append] at hsn
    refine ⟨_, _, hr, by simpa using hsn, ((Below.refl _ w).drew).alloc hb _, fun A n c l hl => hl.drew.alloc _⟩
  · by_cases hroom : Y.length + 1 ≤ cap
    · have hft := hB.fit
      have hr := run_append_room_cells (P := Try.prog) w 53 ty 23 i0 Try.underlying53 hi0 g off Y.length cap ⟨h, 0, none⟩ 1 1 [y.val] (by rw [hz1]; rfl) hnews hone hroom
        (fun j hj => by rw [hz1, hB.blk.cell]; simp at hj ⊢; omega) (fun j hj => hB.blk.frozen _)
      rw [hz1, Nat.mul_one] at hr
      refine ⟨_, _, hr, ⟨Y ++ [y], by simp, fun z hz => (List.mem_append.1 hz).elim (hY z) (fun h => by rw [List.mem_singleton] at h; subst h; exact hp), .inr ⟨g, off, cap, cur.setIfInBounds (off + Y.length) y.val, by simp, hg, hB.blk.put (off + Y.length) y.val, by simpa using hft, by simpa using hroom, hB.max, fun i u hu => ?_, fun k z hk => ?_⟩⟩, ?_, fun A n c l hl => il_far hl hB.blk hB.sl _ _⟩
      · rw [Array.getElem?_setIfInBounds] at hu
        split at hu
        · split at hu
          · injection hu with hu; subst hu; exact ⟨_, _, _, rfl⟩
          · cases hu
        · exact hB.sl i u hu
      · rw [Array.getElem?_setIfInBounds]
        by_cases e : k = Y.length
        · subst e
          rw [List.getElem?_append_right (Nat.le_refl _), Nat.sub_self] at hk
          simp at hk
          subst hk
          rw [if_pos rfl, if_pos (by omega)]
        · have hkl : k < Y.length := by have := (List.getElem?_eq_some_iff.1 hk).1; simp at this; omega
          rw [if_neg (by omega)]
          rw [List.getElem?_append_left hkl] at hk
          exact hB.at_ k z hk
      · exact (Below.refl _ w).setCell (p := ⟨g, off + Y.length, none⟩) hg _
    · have holds : ∀ j u, (Y.map Lx.val)[j]? = some u → w.cell? ((⟨g, off, none⟩ : Addr).add j) = some u := fun j u hu => by
        rw [Addr.add_lit, hB.blk.cell]
        rw [List.getElem?_map] at hu
        cases hj : Y[j]? with
        | none => rw [hj] at hu; cases hu
        | some z => rw [hj] at hu; simp at hu; subst hu; exact hB.at_ j z hj
      have hr := run_append_grow (P := Try.prog) w 53 ty 23 i0 _ Try.underlying53 hi0 hz0 ⟨g, off, none⟩ Y.length cap (Y.map Lx.val) (by rw [hz1]; simp) holds ⟨h, 0, none⟩ 1 1 [y.val] (by rw [hz1]; rfl) hnews (by omega) (by omega) (growslice_fits (by omega) (by rw [hz2]; omega))
      have hge := grownCap_ge w (Y.length + 1) cap 23
      have hcm := grownCap_le_maxLen w (Y.length + 1) cap 23 (by unfold maxLen; omega)
      exact ⟨_, _, hr, sent_new hb hY hp hge hcm, ((Below.refl _ w).drew).alloc hb _, fun A n c l hl => hl.drew.alloc _⟩
theorem wpList_append_sent (w w0 : World) {ops : Array Oper} {rest : List Oper} {o : Oper} {a : Act} {Q : Exit → Act → World → Prop} (hgd : o.guard = none) (s x : Operand)
    (ho : o.op = .call { callee := .builtin .append, args := #[s, x], argTypes := #[53, 53] })
    (v : Value) (S : List (List Pr)) (hv : a.eval s = v) (hs : SentIs w w0 v S) (h : Nat) (y : Lx) (hx : a.eval x = .slice (some ⟨h, 0, none⟩) 1 1) (hk : BlkIs w h 23 #[y.val]) (hp : PL w0 y.A y.ps.length y.c y.ps) (hn : S.length + 1 ≤ 1000) (hb : w0.heap.size ≤ w.heap.size)
    (hh : ∀ v' w', SentIs w' w0 v' (S ++ [y.ps]) → Below w0.heap.size w w' → (∀ A n c l, IL w A n c l → IL w' A n c l) → wpList Try.prog ops Q rest (a.put o.dst v') w') : wpList Try.prog ops Q (o :: rest) a w := by
  obtain ⟨v', w', hrun, h1, h2, h3⟩ := run_append_sent w w0 v S o.type hs h y hk hp hn hb
  refine wpList_plain hgd fun K hK' => ?_
  unfold Oper.wp
  simp [execOp, ho, resolve, invoke, builtin, hv, hx, hrun, Result.andThen]
  exact hK' _ _ (hh v' w' h1 h2 h3)

set_option maxRecDepth 100000 in
open Go.ChangeShapes Go.WideShapes Go.Deep in
/-- A slice of lists of settings that came in. -/
theorem open_ll {H : Type} {enc : TypeId × Value → H} {w : World} {base : Nat} {sp : Nat → Bool} {held : Bool} {fuel : Nat} {v : Value} {x : DataW H × List MemPlace}
    (h : DataW.trod enc Try.prog w base sp held fuel 53 [v] = some x) : ∃ A n c l, v = .slice A n c ∧ LL w A n c l := by
  have hC : Try.prog.cellsOf 23 = 1 := by kernel_rfl
  rcases open_slice1 Try.underlying53 hC h with ⟨hv, _⟩ | ⟨a, len, cap, m, fu, V, D, Pl', hv, hb, hl, hm, hmm, hx, hi⟩
  · simp only [List.cons.injEq, and_true] at hv
    exact ⟨none, 0, 0, [], hv, [], rfl, rfl, (fun k y hy => by simp at hy), fun y hy => by cases hy⟩
  · simp only [List.cons.injEq, and_true] at hv
    have hlm : len ≤ m := by rw [hmm]; split <;> omega
    have key : ∀ i, i < len → ∃ f : Lx, w.cell? (a.add i) = some f.val ∧ PL w f.A f.ps.length f.c f.ps := by
      intro i hlt
      obtain ⟨hc, ht⟩ := hi i (by omega)
      obtain ⟨A0, n0, c0, l0, e0, hp0, _⟩ := open_pl ht
      have hle := hp0.len
      subst hle
      rw [e0] at hc
      exact ⟨⟨A0, c0, l0⟩, hc, hp0⟩
    obtain ⟨F, hF⟩ : ∃ F : Nat → Lx, ∀ i, i < len → w.cell? (a.add i) = some (F i).val ∧ PL w (F i).A (F i).ps.length (F i).c (F i).ps := by
      classical
      refine ⟨fun i => if hi : i < len then Classical.choose (key i hi) else ⟨none, 0, []⟩, fun i hi => ?_⟩
      simp only [dif_pos hi]
      exact Classical.choose_spec (key i hi)
    refine ⟨some a, len, cap, ((List.range len).map F).map (·.ps), hv, (List.range len).map F, rfl, by simp, fun k f hf => ?_, fun y hy => ?_⟩
    · have hk : k < len := by
        have := (List.getElem?_eq_some_iff.1 hf).1
        simpa using this
      have hfk : f = F k := by
        rw [List.getElem?_map, List.getElem?_range hk] at hf
        simpa using hf.symm
      subst hfk
      have z0 := (hF k hk).1
      obtain ⟨b, off, spot⟩ := a
      have hspot : spot = none := by simpa [Addr.add] using World.cell?_spot (hF 0 (by omega)).1
      subst hspot
      rw [Addr.add_lit] at z0
      exact ⟨b, off, rfl, by simpa using World.block_lt_of_cell? w _ z0, z0⟩
    · obtain ⟨k, hk, rfl⟩ := List.mem_map.1 hy
      exact (hF k (by simpa using hk)).2
end Go.Proofs.Ytjfdlgmdlfbeoaa.unackOrder
