/-
  Layer 15: Same, of both packages (written by gen15check.py).
-/
import Derived.Test.YtjjgnhdaaicmeaaIdCheck
namespace Go.Proofs.Ytjjgnhdaaicmeaa
set_option linter.unusedSimpArgs false
set_option linter.unusedVariables false
open Go.RowKit


set_option maxRecDepth 100000 in
set_option maxHeartbeats 1600000 in
theorem id_Same (T U : Tb) (A : Option Addr) (n c : Nat) (B : Option Addr) (m d : Nat) (A' : Option Addr) (n' c' : Nat) (B' : Option Addr) (m' d' : Nat) (w : World) (hl : TL w T A n c B m d) (hl' : TL w U A' n' c' B' m' d') (hn : (n : Int) ≤ 1000000) (hm : (m : Int) ≤ 1000000) :
    Calls Try.prog 11 #[.agg #[.int .i64 T.l, .slice A n c, .slice B m d], .agg #[.int .i64 U.l, .slice A' n' c', .slice B' m' d']] w fun e w' => e = .returned (.bool (sameI T U)) ∧ Below w.heap.size w w' := by
  have HB2 := hide (bel2 w (.cells #[.int .i64 T.l, .slice A n c, .slice B m d] 28) (.cells #[.int .i64 U.l, .slice A' n' c', .slice B' m' d'] 28))
  have HX := hide ((BlkIs.new w 28 #[.int .i64 T.l, .slice A n c, .slice B m d]).alloc (.cells #[.int .i64 U.l, .slice A' n' c', .slice B' m' d'] 28))
  have HY := hide (new2 w (.cells #[.int .i64 T.l, .slice A n c, .slice B m d] 28) 28 #[.int .i64 U.l, .slice A' n' c', .slice B' m' d'])
  have HE1 := hide (id_Equal A n c T.op A' n' c' U.op _ (hl.op.keep HB2.out) (hl'.op.keep HB2.out) hn)
  have HE2 := hide (fun w' h h' => id_Equal B m d T.cu B' m' d' U.cu w' h h' hm)
  have HL := hide (hl.cu.keep HB2.out)
  have HL' := hide (hl'.cu.keep HB2.out)
  clear hl hl' hn hm
  rw [show sameI T U = (decide (T.l = U.l) && (decide (T.op = U.op) && decide (T.cu = U.cu))) from rfl]
  generalize T.l = L at *
  generalize U.l = M at *
  by_cases h : L = M
  · subst h
    cases h1 : decide (T.op = U.op) with
    | false =>
      rw [h1] at HE1
      rw [show (decide (L = L) && (false && decide (T.cu = U.cu))) = false by simp]
      clear h1 HE2
      go_enter Try.func11, Try.ntmps11
      go_wp2_with (go_at_call 24; refine HE1.out.mono ?_; rintro e w3 ⟨rfl, hb3⟩; have HB3 := hide (HB2.out.trans (hb3.mono HB2.out.size)); clear hb3)
      go_ret
      exact ⟨rfl, HB3.out⟩
    | true =>
      rw [h1] at HE1
      rw [show (decide (L = L) && (true && decide (T.cu = U.cu))) = decide (T.cu = U.cu) by simp]
      clear h1
      generalize decide (T.cu = U.cu) = v at *
      go_enter Try.func11, Try.ntmps11
      go_wp2_with fail
      refine HE1.out.mono ?_
      rintro e w3 ⟨rfl, hb3⟩
      have HB3 := hide (HB2.out.trans (hb3.mono HB2.out.size))
      have HE3 := hide (HE2.out _ (HL.out.keep hb3) (HL'.out.keep hb3))
      obtain ⟨k0, k1, k2⟩ := cells3 (HX.out.keep hb3)
      obtain ⟨j0, j1, j2⟩ := cells3 (HY.out.keep hb3)
      clear hb3 HE1 HE2 HX HY
      go_wp2_with fail
      refine HE3.out.mono ?_
      rintro e w4 ⟨rfl, hb4⟩
      have HB4 := hide (HB3.out.trans (hb4.mono HB3.out.size))
      clear hb4
      go_wp2
      go_ret
      exact ⟨rfl, HB4.out⟩
  · rw [show (decide (L = M) && (decide (T.op = U.op) && decide (T.cu = U.cu))) = false by simp [h]]
    have h' : (L == M) = false := by simpa using h
    clear h HE1 HE2
    go_enter Try.func11, Try.ntmps11
    go_wp2
    go_ret
    exact ⟨rfl, HB2.out⟩

set_option maxRecDepth 100000 in
set_option maxHeartbeats 1600000 in
theorem rd_Same (T U : Tb) (A : Option Addr) (n c : Nat) (B : Option Addr) (m d : Nat) (A' : Option Addr) (n' c' : Nat) (B' : Option Addr) (m' d' : Nat) (w : World) (hl : TL w T A n c B m d) (hl' : TL w U A' n' c' B' m' d') (hn : (n : Int) ≤ 1000000) (hm : (m : Int) ≤ 1000000) :
    Calls Try.prog 12 #[.agg #[.int .i64 T.l, .slice A n c, .slice B m d], .agg #[.int .i64 U.l, .slice A' n' c', .slice B' m' d']] w fun e w' => e = .returned (.bool (sameI T U)) ∧ Below w.heap.size w w' := by
  have HB2 := hide (bel2 w (.cells #[.int .i64 T.l, .slice A n c, .slice B m d] 24) (.cells #[.int .i64 U.l, .slice A' n' c', .slice B' m' d'] 24))
  have HX := hide ((BlkIs.new w 24 #[.int .i64 T.l, .slice A n c, .slice B m d]).alloc (.cells #[.int .i64 U.l, .slice A' n' c', .slice B' m' d'] 24))
  have HY := hide (new2 w (.cells #[.int .i64 T.l, .slice A n c, .slice B m d] 24) 24 #[.int .i64 U.l, .slice A' n' c', .slice B' m' d'])
  have HE1 := hide (rd_SameInts A n c T.op A' n' c' U.op _ (hl.op.keep HB2.out) (hl'.op.keep HB2.out) hn)
  have HE2 := hide (fun w' h h' => rd_SameInts B m d T.cu B' m' d' U.cu w' h h' hm)
  have HL := hide (hl.cu.keep HB2.out)
  have HL' := hide (hl'.cu.keep HB2.out)
  clear hl hl' hn hm
  rw [show sameI T U = (decide (T.l = U.l) && (decide (T.op = U.op) && decide (T.cu = U.cu))) from rfl]
  generalize T.l = L at *
  generalize U.l = M at *
  by_cases h : L = M
  · subst h
    cases h1 : decide (T.op = U.op) with
    | false =>
      rw [h1] at HE1
      rw [show (decide (L = L) && (false && decide (T.cu = U.cu))) = false by simp]
      clear h1 HE2
      go_enter Try.func12, Try.ntmps12
      go_wp2_with (go_at_call 25; refine HE1.out.mono ?_; rintro e w3 ⟨rfl, hb3⟩; have HB3 := hide (HB2.out.trans (hb3.mono HB2.out.size)); clear hb3)
      go_ret
      exact ⟨rfl, HB3.out⟩
    | true =>
      rw [h1] at HE1
      rw [show (decide (L = L) && (true && decide (T.cu = U.cu))) = decide (T.cu = U.cu) by simp]
      clear h1
      generalize decide (T.cu = U.cu) = v at *
      go_enter Try.func12, Try.ntmps12
      go_wp2_with fail
      refine HE1.out.mono ?_
      rintro e w3 ⟨rfl, hb3⟩
      have HB3 := hide (HB2.out.trans (hb3.mono HB2.out.size))
      have HE3 := hide (HE2.out _ (HL.out.keep hb3) (HL'.out.keep hb3))
      obtain ⟨k0, k1, k2⟩ := cells3 (HX.out.keep hb3)
      obtain ⟨j0, j1, j2⟩ := cells3 (HY.out.keep hb3)
      clear hb3 HE1 HE2 HX HY
      go_wp2_with fail
      refine HE3.out.mono ?_
      rintro e w4 ⟨rfl, hb4⟩
      have HB4 := hide (HB3.out.trans (hb4.mono HB3.out.size))
      clear hb4
      go_wp2
      go_ret
      exact ⟨rfl, HB4.out⟩
  · rw [show (decide (L = M) && (decide (T.op = U.op) && decide (T.cu = U.cu))) = false by simp [h]]
    have h' : (L == M) = false := by simpa using h
    clear h HE1 HE2
    go_enter Try.func12, Try.ntmps12
    go_wp2
    go_ret
    exact ⟨rfl, HB2.out⟩
end Go.Proofs.Ytjjgnhdaaicmeaa
