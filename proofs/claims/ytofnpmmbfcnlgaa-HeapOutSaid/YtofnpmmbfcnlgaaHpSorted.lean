/-
  Layer 24: Sorted.
-/
import Derived.Test.YtofnpmmbfcnlgaaHpTake
import Derived.Deep.AppendLies
import Derived.Lib.AppendZeros
import Derived.Laws.MakeOwn
namespace Go.Proofs.Ytofnpmmbfcnlgaa
set_option linter.unusedSimpArgs false
set_option linter.unusedVariables false
open Go.RowKit

/-- append of one item, in a straight region: where the new row lies. -/
theorem wpList_append_it {T E : TypeId} (hI : IsIt T E) (w : World) {ops : Array Oper} {rest : List Oper} {o : Oper} {a : Act} {Q : Exit → Act → World → Prop} (hgd : o.guard = none) (s x : Operand)
    (ho : o.op = .call { callee := .builtin .append, args := #[s, x], argTypes := #[T, T] })
    (base : Nat) (v : Value) (n : Nat) (xs : List It) (hs : a.eval s = v) (hown : w.ownsRow base E 2 v n (ics xs))
    (h : Nat) (y : It) (hx : a.eval x = .slice (some ⟨h, 0, none⟩) 1 1) (hk : BlkIs w h E #[.int .i64 y.k, .int .i64 y.d])
    (h63 : n + 1 ≤ 1000000) (hbase : base ≤ w.heap.size)
    (hh : ∀ g cap w', w'.ownsRow base E 2 (.slice (some ⟨g, 0, none⟩) (n + 1) cap) (n + 1) (ics (xs ++ [y])) → w.grownBy w' v.ownBlock → (v.ownBlock = some g ∨ g = w.heap.size) → wpList Try.prog ops Q rest (a.put o.dst (.slice (some ⟨g, 0, none⟩) (n + 1) cap)) w') :
    wpList Try.prog ops Q (o :: rest) a w := by
  obtain ⟨i0, hi0, hz0, hz1, hz2⟩ := info_parts hI.info
  refine wpList_append_lies w hgd s x T ho base E i0 _ 2 16 hI.sl hi0 hz0 hz1 hz2 rfl (by omega) v n (ics xs) hs hown ⟨h, 0, none⟩ 1 1 [.int .i64 y.k, .int .i64 y.d] hx rfl (World.news_of_block (cs := #[.int .i64 y.k, .int .i64 y.d]) hk) (by simp [Value.oneCell']) (by omega) (by unfold maxLen; omega) (by omega) hbase _ rfl ?_
  intro g cap w' h2 h3 h4 _
  exact hh g cap w' (by rw [ics_append]; exact h2) h3 h4
/-- Two rows of the call's own, in blocks of their own. -/
structure SoJ (w w' : World) (vl : Value) (A : Option Addr) (n c : Nat) (out h l : List It) : Prop where
  len : out.length + n ≤ 1000
  ol : w'.ownsRow w.heap.size 38 2 vl out.length (ics out)
  oh : w'.ownsRow w.heap.size 38 2 (.slice A n c) n (ics h)
  ap : ∀ x, vl.ownBlock = some x → (Value.slice A n c).ownBlock ≠ some x
  same : out ++ sortF n h = sortL l
  bel : Below w.heap.size w w'
theorem sort_len (l : List It) : (sortL l).length = l.length := (sort_perm l).length_eq
theorem own_kbs {w w' : World} {B n g s : Nat} {e : TypeId} {v : Value} {xs : List Value} (h : w.ownsRow B e s v n xs) (hk : KB (· = g) w w') (hne : v.ownBlock ≠ some g) : w'.ownsRow B e s v n xs := own_kbx h hk (.inr hne)
theorem own_grow {w w' : World} {B n s : Nat} {e : TypeId} {u v : Value} {xs : List Value} (h : w.ownsRow B e s u n xs) (hg : w.grownBy w' v.ownBlock) (hne : ∀ x, v.ownBlock = some x → u.ownBlock ≠ some x) : w'.ownsRow B e s u n xs := by
  refine h.kept hg ?_
  cases hv : v.ownBlock with
  | none => cases hu : u.ownBlock <;> simp
  | some y => exact .inr (hne y hv)
def lenOf : Value → Nat | .slice _ n _ => n | _ => 0
set_option maxRecDepth 100000 in
set_option maxHeartbeats 1600000 in
theorem hp_Sorted (A : Option Addr) (n c : Nat) (l : List It) (w : World) (hl : IL w A n c l) (hn : (n : Int) ≤ 900) :
    Calls Try.prog 11 #[.slice A n c] w (GivesIt 38 (sortL l) w) := by
  have hln := hl.len
  subst hln
  obtain ⟨N, hN⟩ : ∃ N, l.length = N := ⟨_, rfl⟩
  rw [hN] at hn hl ⊢
  have HNN := hide hN
  have HL := hide hl
  obtain ⟨i0, hi0, hz0, hz1, hz2⟩ := info_parts isI.info
  have hmk : ∀ w : World, (Instr.makeSlice 26 (.int .i64 0) (.int .i64 (N : Int))).run Try.prog w = .ok (.slice (some ⟨w.heap.size, 0, none⟩) 0 N) (w.alloc (.cells (madeCells #[.int .i64 0, .int .i64 0] (N * 2)) 38)) := fun w => by
    have h := run_make (P := Try.prog) w 26 38 i0 (.agg #[.int .i64 0, .int .i64 0]) Try.underlying26 hi0 hz0 .i64 .i64 0 (N : Int) (by omega) (by omega) (by rw [hz2]; omega) (by omega)
    rw [hz1, show (N : Int).toNat = N by omega] at h
    exact h
  have HR0 := hide (show (w.alloc (.cells (madeCells #[.int .i64 0, .int .i64 0] (N * 2)) 38)).ownsRow w.heap.size 38 2 (.slice (some ⟨w.heap.size, 0, none⟩) 0 N) 0 (ics []) from World.ownsRow_made w _ N (Nat.le_refl _) (by unfold maxLen; omega) (by rw [size_madeCells]))
  have HB0 := hide (bel1 w (.cells (madeCells #[.int .i64 0, .int .i64 0] (N * 2)) 38))
  clear hN hl hi0 hz0 hz1 hz2
  go_enter Try.func11, Try.ntmps11
  go_wp2_with fail
  obtain ⟨g0, hg0⟩ : ∃ g0, w.heap.size = g0 := ⟨_, rfl⟩
  rw [hg0] at HR0 HB0 ⊢
  have HG0 := hide hg0
  clear hg0 hmk
  have HBL := hide (show g0 < (w.alloc (.cells (madeCells #[.int .i64 0, .int .i64 0] (N * 2)) 38)).heap.size by rw [World.size_alloc, HG0.out]; omega)
  generalize (w.alloc (.cells (madeCells #[.int .i64 0, .int .i64 0] (N * 2)) 38)) = w1 at HR0 HB0 HBL ⊢
  have HB0' := hide (show Below w.heap.size w w1 by rw [HG0.out]; exact HB0.out)
  refine ((hp_Of A N c l w1 (HL.out.keep HB0'.out) (by omega)).mono fun e w2 h => gives_n (N := N) (by rw [of_len, HNN.out]) h).mono ?_
  rintro e w2 ⟨A2, c2, rfl, ho2, hb2⟩
  have HJ0 := hide (show SoJ w w2 (.slice (some ⟨g0, 0, none⟩) 0 N) A2 N c2 [] (ofL l) l from ⟨by simp; omega, by rw [HG0.out]; exact own_low HR0.out hb2, own_base ho2 HB0'.out.size, fun x hx hy => by
      simp only [Value.ownBlock, Option.some.injEq] at hx
      have := (ho2.lt x hy).1
      have := HBL.out
      omega, by rw [List.nil_append, sortL, HNN.out], HB0'.out.trans (hb2.mono HB0'.out.size)⟩)
  clear ho2 hb2 HR0 HB0 HL
  go_wp2_with fail
  go_loopw [0, 3] (fun s0 s3 wr => ∃ (m : Nat) (A3 : Option Addr) (c3 : Nat) (out h : List It), s0 = .slice A3 m c3 ∧ Hid (SoJ w wr s3 A3 m c3 out h l)) (fun s0 _ _ => lenOf s0)
  case atStart => exact ⟨N, A2, c2, [], ofL l, rfl, HJ0.out⟩
  case round =>
    clear HJ0
    obtain ⟨m, A3, c3, out, h, rfl, HJ⟩ := hrel
    cases m with
    | zero =>
      have hs := HJ.out.same
      simp only [sortF, List.append_nil] at hs
      have HS := hide hs
      clear hs
      go_wp2_with fail
      have ho := HJ.out.ol
      rw [HS.out] at ho
      obtain ⟨A5, c5, rfl, -⟩ := own_its ho
      go_ret
      exact ⟨A5, c5, rfl, ho, HJ.out.bel⟩
    | succ p =>
      obtain ⟨q, hq⟩ : ∃ q, p + 1 = q := ⟨_, rfl⟩
      rw [hq] at HJ
      have hpos : 0 < q := by omega
      have HQ := hide hq
      rw [hq]
      clear hq
      obtain ⟨g, rfl⟩ := own_some HJ.out.oh hpos
      have hq9 : (q : Int) ≤ 1000 := by have := HJ.out.len; omega
      obtain ⟨x, hx⟩ : ∃ x, gt h 0 = x := ⟨_, rfl⟩
      have HX := hide hx
      clear hx
      have HG3 := hide (own_lt2 HJ.out.oh)
      go_upto_region 5 with (fail)
      have K1 := hide (BlkIs.new wr 38 #[.int .i64 0, .int .i64 0])
      have HB1 := hide (HJ.out.bel.alloc HJ.out.bel.size (.cells #[.int .i64 0, .int .i64 0] 38))
      have HH1 := hide (HJ.out.oh.alloc (.cells #[.int .i64 0, .int .i64 0] 38))
      have HL1 := hide (HJ.out.ol.alloc (.cells #[.int .i64 0, .int .i64 0] 38))
      have HVK := hide (show u3.ownBlock ≠ some wr.heap.size from fun e => by have := (HJ.out.ol.lt _ e).2; omega)
      have HGK := hide (show g ≠ wr.heap.size by have := HG3.out.2; omega)
      have HVG := hide (show u3.ownBlock ≠ some g from fun e => HJ.out.ap g e rfl)
      obtain ⟨k, hk⟩ : ∃ k, wr.heap.size = k := ⟨_, rfl⟩
      rw [hk] at K1 HVK HGK ⊢
      have HKW := hide (show w.heap.size ≤ k by rw [← hk]; exact HJ.out.bel.size)
      clear hk
      generalize (wr.alloc (.cells #[.int .i64 0, .int .i64 0] 38)) = w3 at K1 HB1 HH1 HL1 ⊢
      have HT := hide (hp_takeAt g q c3 w.heap.size h 0 w3 HH1.out hpos hq9)
      rw [HX.out, show ((0 : Nat) : Int) = 0 from rfl] at HT
      go_wp2_with fail
      refine HT.out.mono ?_
      rintro e w4 ⟨rfl, ho4, hk4⟩
      have K4 := hide (hk4.blk K1.out (Ne.symm HGK.out))
      have HB4 := hide (kb_belowB HB1.out HG3.out.1 hk4 HB1.out.size)
      have HH4 := hide ho4
      have HL4 := hide (own_kbs HL1.out hk4 HVG.out)
      obtain ⟨r0, r1, r2, r3⟩ := it_facts K4.out
      clear ho4 hk4 HT HH1 HL1 HB1 K1
      go_upto_region 6 with (fail)
      have K5 := hide (blk_put2 K4.out (.int .i64 x.k) (.int .i64 x.d))
      have HH5 := hide (own_new2 HH4.out HGK.out 0 1 (.int .i64 x.k) (.int .i64 x.d))
      have hkb5 : KB (· = k) w4 ((w4.setCell ⟨k, 0, none⟩ (.int .i64 x.k)).setCell ⟨k, 1, none⟩ (.int .i64 x.d)) := kb_item (KB.refl _ _) 0 1 _ _
      have HL5 := hide (own_kbs HL4.out hkb5 HVK.out)
      have HB5 := hide (kb_belowB HB4.out HKW.out hkb5 HB4.out.size)
      clear r0 r1 r2 r3 hkb5 HH4 HL4 HB4 K4
      generalize ((w4.setCell ⟨k, 0, none⟩ (.int .i64 x.k)).setCell ⟨k, 1, none⟩ (.int .i64 x.d)) = w5 at K5 HH5 HL5 HB5 ⊢
      obtain ⟨t0, t1, -, -⟩ := it_facts K5.out
      have KX := hide (BlkIs.new w5 38 #[.int .i64 x.k, .int .i64 x.d])
      have HL6 := hide (HL5.out.alloc (.cells #[.int .i64 x.k, .int .i64 x.d] 38))
      have HH6 := hide (HH5.out.alloc (.cells #[.int .i64 x.k, .int .i64 x.d] 38))
      have HB6 := hide (HB5.out.alloc HB5.out.size (.cells #[.int .i64 x.k, .int .i64 x.d] 38))
      have HOL := hide (show out.length + q ≤ 1000 from HJ.out.len)
      go_wp2_with (at_builtin; refine wpList_append_it isI _ rfl (.tmp 18) (.tmp 20) rfl w.heap.size _ out.length out rfl HL6.out w5.heap.size x rfl KX.out (by have := HOL.out; omega) HB6.out.size ?_; intro g7 c7 w7 ho7 hg7 hl7; have HL7 := hide ho7; have HH7 := hide (own_grow HH6.out hg7 HJ.out.ap); have HB7 := hide (own_bel HL6.out HB6.out (Nat.le_refl _) (Nat.le_refl _) hg7); have HA7 := hide (show u3.ownBlock = some g7 ∨ g7 = (w5.alloc (.cells #[.int .i64 x.k, .int .i64 x.d] 38)).heap.size from hl7); clear ho7 hg7 hl7)
      go_roundw
      case rel =>
        refine ⟨q - 1, some ⟨g, 0, none⟩, c3, out ++ [x], takeL h 0, rfl, ⟨?_, ?_, HH7.out, ?_, ?_, HB7.out⟩⟩
        · have := HOL.out; simp only [List.length_append, List.length_singleton]; omega
        · simpa using HL7.out
        · intro y hy he
          simp only [Value.ownBlock, Option.some.injEq] at hy he
          subst hy
          rcases HA7.out with h1 | h1
          · rw [he] at HVG; exact HVG.out h1
          · have := (own_lt2 HH6.out).2; omega
        · have hs := HJ.out.same
          rw [← HQ.out, sortF, HX.out] at hs
          rw [← hs, ← HQ.out]
          simp
      case measure => simp only [lenOf]; omega
end Go.Proofs.Ytofnpmmbfcnlgaa
