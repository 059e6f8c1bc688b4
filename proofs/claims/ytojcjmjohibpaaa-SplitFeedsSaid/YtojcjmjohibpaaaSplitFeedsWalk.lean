/-
  SplitFeeds: its walk: for every state and all bytes the Go text returns true, and leaves what was there as it was.
-/
import Derived.Test.YtojcjmjohibpaaaSpAwake
import Derived.Test.YtojcjmjohibpaaaSrFeed
import Derived.Test.YtojcjmjohibpaaaSrRaws
import Derived.BigGuardPart
namespace Go.Proofs.Ytojcjmjohibpaaa
set_option linter.unusedSimpArgs false
set_option linter.unusedVariables false
open Go.RowKit
/-- What the document's Feed answers, its state written out. -/
def GivesFR (g : Int) (B : ByteArray) (d : Bool) (n : Nat) (l : List Rw) (c : Int) (w : World) (e : Ending) (w' : World) : Prop :=
  ∃ v, e = .returned (.tuple #[.agg #[.int .i64 g, .string B, .bool d], v, .int .i64 c]) ∧ w'.ownsRow w.heap.size 48 5 v n (rcs l) ∧ Below w.heap.size w w'
theorem rfeed_is {g : Int} {B : ByteArray} {d : Bool} {xs : List Int} {g' : Int} {b' : List Int} {d' : Bool} {l : List Rw} {c : Int} (h : feedS ⟨g, bts B, d⟩ xs = ⟨⟨g', b', d'⟩, l, c⟩) (B' : ByteArray) (hB : strOfNums b' = B') (k : Nat) (hk : l.length = k)
    (A : Option Addr) (n cap : Nat) (hS : (B.size : Int) ≤ 2000) (hn : (n : Int) ≤ 1000) (w : World) (hr : RB w A n xs) :
    Calls Try.prog 8 #[.agg #[.int .i64 g, .string B, .bool d], .slice A n cap] w (GivesFR g' B' d' k l c w) := by
  have hh : Calls Try.prog 8 #[.agg #[.int .i64 g, .string B, .bool d], .slice A n cap] w (GivesFeedR (feedS ⟨g, bts B, d⟩ xs) w) := by
    cases hg : Sp.goes ⟨g, bts B, d⟩ with
    | false => exact rf_Feed_stop g B d A n cap xs hS hg w
    | true =>
      obtain ⟨_, rfl⟩ := goes_yes hg
      have h0 : 0 ≤ g := (goes_of hg).2.1
      obtain ⟨k, rfl⟩ : ∃ k : Nat, g = (k : Int) := ⟨g.toNat, by omega⟩
      exact rf_Feed_go k B A n cap xs hS hn hg w hr
  rw [h] at hh
  subst hB hk
  exact hh
theorem rst_cells {w : World} {g : Nat} {a b c : Value} (h : BlkIs w g 23 #[a, b, c]) : w.cell? ⟨g, 0, none⟩ = some a ∧ w.cell? ⟨g, 1, none⟩ = some b ∧ w.cell? ⟨g, 2, none⟩ = some c := ⟨h.cell 0, h.cell 1, h.cell 2⟩
theorem feedS_c (s : Sp) (xs : List Int) : 0 ≤ (feedS s xs).c ∧ (feedS s xs).c ≤ 6 := by
  unfold feedS
  split
  · exact ⟨by simp, by simp⟩
  · split
    · exact ⟨by simp, by simp⟩
    · unfold fedOf
      split <;> exact ⟨by simp, by simp⟩
theorem feedS_len (s : Sp) (xs : List Int) : 9 * (feedS s xs).l.length ≤ s.b.length + xs.length := by
  unfold feedS
  split
  · simp
  · split
    · simp
    · have h := cutS_len (s.b ++ xs.drop (min xs.length (24 - s.g.toNat)))
      rw [List.length_append, List.length_drop] at h
      unfold fedOf
      split <;> (simp only; omega)
theorem sameS_if (g : Int) (B : ByteArray) (d : Bool) (g' : Int) (B' : ByteArray) (d' : Bool) (w : World) :
    (if g = g' then (if B.toList = B'.toList then (if d = d' then (Result.ok (Next.value (.bool true)) w : Result Next) else Result.ok (Next.value (.bool false)) w) else Result.ok (Next.value (.bool false)) w) else Result.ok (Next.value (.bool false)) w) = Result.ok (Next.value (.bool (sameS g B d g' B' d'))) w := by
  have h := toList_iff B B'
  unfold sameS
  by_cases h1 : g = g'
  · by_cases h2 : B = B'
    · by_cases h3 : d = d' <;> simp [h1, h2, h3]
    · have h4 : ¬ B.toList = B'.toList := fun e => h2 (h.1 e)
      simp [h1, h2, h4]
  · simp [h1]
end Go.Proofs.Ytojcjmjohibpaaa
namespace Go.Proofs.Ytojcjmjohibpaaa.splitFeeds
open Go.RowKit Go.Proofs.Ytojcjmjohibpaaa

set_option maxRecDepth 100000 in
set_option maxHeartbeats 6400000 in
theorem walk (g : Int) (B : ByteArray) (d : Bool) (a : Option Addr) (n cap : Nat) (z : List Int) (w : World) (_w0 : (Lit.int .i64 g).wf = true) (_w1 : B.size ≤ maxLen) (h : IsRow .u8 w a n cap z) :
    Calls Try.prog 3 #[.agg #[.int .i64 g, .string B, .bool d], .slice a n cap] w fun e w' => e = .returned (.bool true) ∧ Below w.heap.size w w' := by
  obtain ⟨hr, hnc, hc63⟩ := rb_of_row h
  have hnil : a = none → cap = 0 := fun e => by
    rcases h with ⟨_, _, h2, _⟩ | ⟨x, h1, _⟩
    · exact h2
    · rw [e] at h1; cases h1
  obtain ⟨xs, hxs⟩ : ∃ xs, xs = z.take n := ⟨_, rfl⟩
  rw [← hxs] at hr
  have HAW := hide (fun w => aw_split w)
  unfold maxLen at _w1
  clear h hxs _w0
  by_cases hB : 400 < B.size
  · have hB' : (400 : Int) < (B.size : Int) := by omega
    clear hr hnil hnc hc63 hB _w1
    go_enter Try.func3, Try.ntmps3
    go_wp2_with fail
    refine (HAW.out _).mono ?_
    rintro e w1 ⟨rfl, hb1⟩
    have B1 := hide (((Below.refl w.heap.size w).alloc (Nat.le_refl _) (.cells #[.int .i64 g, .string B, .bool d] 23)).trans (hb1.mono (by simp)))
    clear hb1
    go_wp2_with fail
    go_ret
    exact ⟨rfl, B1.out⟩
  have hB' : ¬ (400 : Int) < (B.size : Int) := by omega
  by_cases hn : 400 < n
  · have hn' : (400 : Int) < (n : Int) := by omega
    clear hr hnil hnc hc63 hB _w1 hn
    go_enter Try.func3, Try.ntmps3
    go_wp2_with fail
    refine (HAW.out _).mono ?_
    rintro e w1 ⟨rfl, hb1⟩
    have B1 := hide (((Below.refl w.heap.size w).alloc (Nat.le_refl _) (.cells #[.int .i64 g, .string B, .bool d] 23)).trans (hb1.mono (by simp)))
    clear hb1
    go_wp2_with fail
    go_ret
    exact ⟨rfl, B1.out⟩
  have hn' : ¬ (400 : Int) < (n : Int) := by omega
  have hcb := feedS_c ⟨g, bts B, d⟩ xs
  have hlb := feedS_len ⟨g, bts B, d⟩ xs
  obtain ⟨F, hF⟩ : ∃ F, feedS ⟨g, bts B, d⟩ xs = F := ⟨_, rfl⟩
  obtain ⟨⟨fg, fb, fd⟩, fl, fc⟩ := F
  rw [hF] at hcb hlb
  simp only at hcb hlb
  obtain ⟨FT, hFT⟩ : ∃ T, strOfNums fb = T := ⟨_, rfl⟩
  obtain ⟨N, hN⟩ : ∃ N, fl.length = N := ⟨_, rfl⟩
  have HNB := hide (show (N : Int) ≤ 1000 by rw [bts_len, hr.1] at hlb; omega)
  have HC1 := hide (fun w hr => feed_is hF FT hFT N hN a n cap (by omega) (by omega) hnc (by omega) hnil w hr)
  have HC2 := hide (fun w hr => rfeed_is hF FT hFT N hN a n cap (by omega) (by omega) w hr)
  have HK1 := hide (fun w => sp_Check g B d (by omega) w)
  have HK2 := hide (fun w => rf_Check10 g B d (by omega) w)
  have HL1 := hide (fun w => sp_Left g B d (by omega) w)
  have HL2 := hide (fun w => rf_Left g B d (by omega) w)
  generalize Sp.chk ⟨g, bts B, d⟩ = ck at HK1 HK2
  generalize Sp.left ⟨g, bts B, d⟩ = lf at HL1 HL2
  have HS := hide (fun w => sp_Same g B d fg FT fd w)
  obtain ⟨sm, hsm⟩ : ∃ s, s = sameS g B d fg FT fd := ⟨_, rfl⟩
  rw [← hsm] at HS
  have HSM := hide hsm
  have HR := hide hr
  have HFC := hide (IntWalk.i64_in fc (by omega))
  have c0 := hcb.1
  have c6 := hcb.2
  clear hr hnil hnc hc63 hB hn hlb hF hFT hN hsm hcb _w1
  go_enter Try.func3, Try.ntmps3
  go_wp2_with fail
  have B0 := hide (Below.refl w.heap.size w)
  have KN1 := hide (BlkIs.new w 23 #[.int .i64 g, .string B, .bool d])
  obtain ⟨st, hst⟩ : ∃ g, g = w.heap.size := ⟨_, rfl⟩
  have Lst := hide (show w.heap.size ≤ st by rw [hst]; exact B0.out.size)
  have Er1 := hide (HR.out.below ((Below.refl _ _).alloc (Nat.le_refl _) (.cells #[.int .i64 g, .string B, .bool d] 23)))
  have B1 := hide (B0.out.alloc B0.out.size (.cells #[.int .i64 g, .string B, .bool d] 23))
  rw [← hst] at KN1 ⊢
  generalize w.alloc (.cells #[.int .i64 g, .string B, .bool d] 23) = w1 at Er1 B1 KN1 ⊢
  clear hst HR B0
  refine (HC1.out _ Er1.out).mono ?_
  rintro e w2 ⟨v1, rfl, hown1, hb2⟩
  have Kst2 := hide (KN1.out.keep hb2)
  have Er2 := hide (Er1.out.below hb2)
  have B2 := hide (B1.out.trans (hb2.mono B1.out.size))
  clear hb2 KN1 Er1 B1
  obtain ⟨A1, c1, rfl, hz1⟩ := own_zl hown1
  have Z1 := hide hz1
  clear hown1 hz1
  obtain ⟨k0, k1, k2⟩ := rst_cells Kst2.out
  go_upto_region 4 with (fail)
  clear k0 k1 k2
  have KN3 := hide (BlkIs.new w2 26 #[.int .i64 fg, .string FT, .bool fd])
  obtain ⟨x, hx⟩ : ∃ g, g = w2.heap.size := ⟨_, rfl⟩
  have Lx := hide (show w.heap.size ≤ x by rw [hx]; exact B2.out.size)
  have Nstx := hide (show st ≠ x by have := Kst2.out.lt; omega)
  have Kst3 := hide (Kst2.out.alloc (.cells #[.int .i64 fg, .string FT, .bool fd] 26))
  have Er3 := hide (Er2.out.below ((Below.refl _ _).alloc (Nat.le_refl _) (.cells #[.int .i64 fg, .string FT, .bool fd] 26)))
  have Ez3 := hide (Z1.out.alloc (.cells #[.int .i64 fg, .string FT, .bool fd] 26))
  have B3 := hide (B2.out.alloc B2.out.size (.cells #[.int .i64 fg, .string FT, .bool fd] 26))
  rw [← hx] at KN3 ⊢
  generalize w2.alloc (.cells #[.int .i64 fg, .string FT, .bool fd] 26) = w3 at Kst3 Er3 Ez3 B3 KN3 ⊢
  clear hx Kst2 Er2 Z1 B2
  obtain ⟨k0, k1, k2⟩ := rst_cells Kst3.out
  go_wp2_with fail
  clear k0 k1 k2
  refine (HC2.out _ Er3.out).mono ?_
  rintro e w4 ⟨v2, rfl, hown2, hb4⟩
  have Kst4 := hide (Kst3.out.keep hb4)
  have Kx4 := hide (KN3.out.keep hb4)
  have Er4 := hide (Er3.out.below hb4)
  have Ez4 := hide (Ez3.out.keep hb4)
  have B4 := hide (B3.out.trans (hb4.mono B3.out.size))
  clear hb4 Kst3 KN3 Er3 Ez3 B3
  obtain ⟨A2, c2, rfl, hz2⟩ := own_zl hown2
  have Z2 := hide hz2
  clear hown2 hz2 Er4
  go_upto_region 5 with (fail)
  have KN5 := hide (BlkIs.new w4 23 #[.int .i64 fg, .string FT, .bool fd])
  obtain ⟨y, hy⟩ : ∃ g, g = w4.heap.size := ⟨_, rfl⟩
  have Ly := hide (show w.heap.size ≤ y by rw [hy]; exact B4.out.size)
  have Nsty := hide (show st ≠ y by have := Kst4.out.lt; omega)
  have Nxy := hide (show x ≠ y by have := Kx4.out.lt; omega)
  have Kst5 := hide (Kst4.out.alloc (.cells #[.int .i64 fg, .string FT, .bool fd] 23))
  have Kx5 := hide (Kx4.out.alloc (.cells #[.int .i64 fg, .string FT, .bool fd] 23))
  have Ez5 := hide (Ez4.out.alloc (.cells #[.int .i64 fg, .string FT, .bool fd] 23))
  have Ey5 := hide (Z2.out.alloc (.cells #[.int .i64 fg, .string FT, .bool fd] 23))
  have B5 := hide (B4.out.alloc B4.out.size (.cells #[.int .i64 fg, .string FT, .bool fd] 23))
  rw [← hy] at KN5 ⊢
  generalize w4.alloc (.cells #[.int .i64 fg, .string FT, .bool fd] 23) = w5 at Kst5 Kx5 Ez5 Ey5 B5 KN5 ⊢
  clear hy Kst4 Kx4 Ez4 Z2 B4
  refine wp_region_noPanic ?_
  refine wp_region_held_drew (S := fun w' => Below w5.heap.size w5 w') (by kernel_rfl) (Below.refl _ _).drew (fun hS => ?_)
  refine wpAnyH_take (i := 0) (by simp only [List.getElem?_toArray, List.getElem?_cons_zero] <;> exact rfl) (by kernel_rfl) (by kernel_rfl) (by kernel_rfl) (fun _ _ _ h => h) (rgs_yields_blk (by rfl) 26 (.tmp 5) (by rfl) x (by rfl) 26 #[.int .i64 fg, .string FT, .bool fd] _ (fun w' hw' => Kx5.out.keep hw') Try.underlying26 rfl st_size) hS ?_
  try simp only [Act.put, List.setIfInBounds_toArray, List.set_cons_zero, List.set_cons_succ]
  refine wpAnyH_take (i := 1) (by simp only [List.getElem?_toArray, List.getElem?_cons_succ, List.getElem?_cons_zero] <;> exact rfl) (by kernel_rfl) (by kernel_rfl) (by kernel_rfl) (fun _ _ _ h => h) (rgs_yields_blk (by rfl) 23 (.tmp 8) (by rfl) y (by rfl) 23 #[.int .i64 fg, .string FT, .bool fd] _ (fun w' hw' => KN5.out.keep hw') Try.underlying23 rfl sr_size) hS ?_
  try simp only [Act.put, List.setIfInBounds_toArray, List.set_cons_zero, List.set_cons_succ]
  refine wpAnyH_take (i := 2) (v := .bool true) (by simp only [List.getElem?_toArray, List.getElem?_cons_succ, List.getElem?_cons_zero] <;> exact rfl) (by kernel_rfl) (by kernel_rfl) (by kernel_rfl) (fun _ _ _ h => h) (Or.inl ⟨by rfl, ?_⟩) hS ?_
  focus (intro w' hw'; go_simp)
  try simp only [Act.put, List.setIfInBounds_toArray, List.set_cons_zero, List.set_cons_succ]
  refine wpAnyH_take (i := 3) (v := ?_) (by simp only [List.getElem?_toArray, List.getElem?_cons_succ, List.getElem?_cons_zero] <;> exact rfl) (by kernel_rfl) (by kernel_rfl) (by kernel_rfl) (fun _ _ _ h => h) (Or.inl ⟨by rfl, ?_⟩) hS ?_
  rotate_left
  focus (intro w' hw'; go_simp; all_goals with_reducible rfl)
  try simp only [Act.put, List.setIfInBounds_toArray, List.set_cons_zero, List.set_cons_succ]
  refine wpAnyH_take (i := 4) (v := ?_) (by simp only [List.getElem?_toArray, List.getElem?_cons_succ, List.getElem?_cons_zero] <;> exact rfl) (by kernel_rfl) (by kernel_rfl) (by kernel_rfl) (fun _ _ _ h => h) (Or.inl ⟨by rfl, ?_⟩) hS ?_
  rotate_left
  focus (intro w' hw'; go_simp; all_goals with_reducible rfl)
  try simp only [Act.put, List.setIfInBounds_toArray, List.set_cons_zero, List.set_cons_succ]
  refine wpAnyH_take (i := 6) (v := ?_) (by simp only [List.getElem?_toArray, List.getElem?_cons_succ, List.getElem?_cons_zero] <;> exact rfl) (by kernel_rfl) (by kernel_rfl) (by kernel_rfl) (fun _ _ _ h => h) (Or.inl ⟨by rfl, ?_⟩) hS ?_
  rotate_left
  focus (intro w' hw'; go_simp; all_goals with_reducible rfl)
  try simp only [Act.put, List.setIfInBounds_toArray, List.set_cons_zero, List.set_cons_succ]
  refine wpAnyH_ready (rs := [5]) (by kernel_rfl) (by simp) ?_
  refine AllReadyH.cons (o := _) (by simp only [List.getElem?_toArray, List.getElem?_cons_succ, List.getElem?_cons_zero] <;> exact rfl) (fun K hK => ?_) ?_
  focus (
    go_simp
    go_at_call 10
    refine (lw_raws A1 N c1 fl _ (Ez5.out.keep hS) (by have := HNB.out; omega)).mono ?_
    rintro e wc1 ⟨A3, c3, rfl, hz3, hb⟩
    have hS := hS.trans (hb.mono hS.size)
    have Z3 := hide hz3
    clear hz3
    have hS5 := hide hb
    clear hb
    go_wp2_with fail
    refine hK.out _ _ hS (fun _ => ?_)
    clear hK K
    try simp only [Act.put, List.setIfInBounds_toArray, List.set_cons_zero, List.set_cons_succ])
  rotate_left
  focus (exact AllReadyH.nil)
  refine wpAnyH_ready (rs := [7]) (by kernel_rfl) (by simp) ?_
  refine AllReadyH.cons (o := _) (by simp only [List.getElem?_toArray, List.getElem?_cons_succ, List.getElem?_cons_zero] <;> exact rfl) (fun K hK => ?_) ?_
  focus (
    go_simp
    go_at_call 9
    refine (rf_SameRaws A3 A2 N N c3 c2 fl fl _ Z3.out (Ey5.out.keep hS) (by have := HNB.out; omega) (by have := HNB.out; omega)).mono ?_
    rintro e wc2 ⟨rfl, hb⟩
    have hS := hS.trans (hb.mono hS.size)
    clear hb
    go_wp2_with fail
    refine hK.out _ _ hS (fun _ => ?_)
    clear hK K
    try simp only [Act.put, List.setIfInBounds_toArray, List.set_cons_zero, List.set_cons_succ])
  rotate_left
  focus (exact AllReadyH.nil)
  refine wpAnyH_take (i := 8) (v := ?_) (by simp only [List.getElem?_toArray, List.getElem?_cons_succ, List.getElem?_cons_zero] <;> exact rfl) (by kernel_rfl) (by kernel_rfl) (by kernel_rfl) (fun _ _ _ h => h) (Or.inl ⟨by rfl, ?_⟩) hS ?_
  rotate_left
  focus (intro w' hw'; rw [sameR_yes rfl]; go_simp; all_goals with_reducible rfl)
  try simp only [Act.put, List.setIfInBounds_toArray, List.set_cons_zero, List.set_cons_succ]
  refine wpAnyH_take (i := 9) (v := ?_) (by simp only [List.getElem?_toArray, List.getElem?_cons_succ, List.getElem?_cons_zero] <;> exact rfl) (by kernel_rfl) (by kernel_rfl) (by kernel_rfl) (fun _ _ _ h => h) (Or.inl ⟨by rfl, ?_⟩) hS ?_
  rotate_left
  focus (intro w' hw'; go_simp; all_goals with_reducible rfl)
  try simp only [Act.put, List.setIfInBounds_toArray, List.set_cons_zero, List.set_cons_succ]
  refine wpAnyH_take (i := 10) (v := ?_) (by simp only [List.getElem?_toArray, List.getElem?_cons_succ, List.getElem?_cons_zero] <;> exact rfl) (by kernel_rfl) (by kernel_rfl) (by kernel_rfl) (fun _ _ _ h => h) (Or.inl ⟨by rfl, ?_⟩) hS ?_
  rotate_left
  focus (intro w' hw'; go_simp; all_goals with_reducible rfl)
  try simp only [Act.put, List.setIfInBounds_toArray, List.set_cons_zero, List.set_cons_succ]
  refine wpAnyH_take (i := 11) (v := ?_) (by simp only [List.getElem?_toArray, List.getElem?_cons_succ, List.getElem?_cons_zero] <;> exact rfl) (by kernel_rfl) (by kernel_rfl) (by kernel_rfl) (fun _ _ _ h => h) (Or.inl ⟨by rfl, ?_⟩) hS ?_
  rotate_left
  focus (intro w' hw'; have kk := HFC.out; go_simp; all_goals with_reducible rfl)
  try simp only [Act.put, List.setIfInBounds_toArray, List.set_cons_zero, List.set_cons_succ]
  refine wpAnyH_take (i := 12) (v := ?_) (by simp only [List.getElem?_toArray, List.getElem?_cons_succ, List.getElem?_cons_zero] <;> exact rfl) (by kernel_rfl) (by kernel_rfl) (by kernel_rfl) (fun _ _ _ h => h) (Or.inl ⟨by rfl, ?_⟩) hS ?_
  rotate_left
  focus (intro w' hw'; go_simp; all_goals with_reducible rfl)
  try simp only [Act.put, List.setIfInBounds_toArray, List.set_cons_zero, List.set_cons_succ]
  refine wpAnyH_take (i := 13) (v := ?_) (by simp only [List.getElem?_toArray, List.getElem?_cons_succ, List.getElem?_cons_zero] <;> exact rfl) (by kernel_rfl) (by kernel_rfl) (by kernel_rfl) (fun _ _ _ h => h) (Or.inl ⟨by rfl, ?_⟩) hS ?_
  rotate_left
  focus (intro w' hw'; go_simp; all_goals with_reducible rfl)
  try simp only [Act.put, List.setIfInBounds_toArray, List.set_cons_zero, List.set_cons_succ]
  refine wpAnyH_take (i := 14) (v := ?_) (by simp only [List.getElem?_toArray, List.getElem?_cons_succ, List.getElem?_cons_zero] <;> exact rfl) (by kernel_rfl) (by kernel_rfl) (by kernel_rfl) (fun _ _ _ h => h) (Or.inl ⟨by rfl, ?_⟩) hS ?_
  rotate_left
  focus (intro w' hw'; go_simp; all_goals with_reducible rfl)
  try simp only [Act.put, List.setIfInBounds_toArray, List.set_cons_zero, List.set_cons_succ]
  refine wpAnyH_take (i := 15) (v := ?_) (by simp only [List.getElem?_toArray, List.getElem?_cons_succ, List.getElem?_cons_zero] <;> exact rfl) (by kernel_rfl) (by kernel_rfl) (by kernel_rfl) (fun _ _ _ h => h) (Or.inl ⟨by rfl, ?_⟩) hS ?_
  rotate_left
  focus (intro w' hw'; go_simp; all_goals with_reducible rfl)
  try simp only [Act.put, List.setIfInBounds_toArray, List.set_cons_zero, List.set_cons_succ]
  refine wpAnyH_take (i := 16) (by simp only [List.getElem?_toArray, List.getElem?_cons_succ, List.getElem?_cons_zero] <;> exact rfl) (by kernel_rfl) (by kernel_rfl) (by kernel_rfl) (fun _ _ _ h => h) (rgs_yields_blk (by rfl) 23 (.tmp 2) (by rfl) st (by rfl) 23 #[.int .i64 g, .string B, .bool d] _ (fun w' hw' => Kst5.out.keep hw') Try.underlying23 rfl sr_size) hS ?_
  try simp only [Act.put, List.setIfInBounds_toArray, List.set_cons_zero, List.set_cons_succ]
  refine wpAnyH_take (i := 18) (by simp only [List.getElem?_toArray, List.getElem?_cons_succ, List.getElem?_cons_zero] <;> exact rfl) (by kernel_rfl) (by kernel_rfl) (by kernel_rfl) (fun _ _ _ h => h) (rgs_yields_blk (by rfl) 23 (.tmp 2) (by rfl) st (by rfl) 23 #[.int .i64 g, .string B, .bool d] _ (fun w' hw' => Kst5.out.keep hw') Try.underlying23 rfl sr_size) hS ?_
  try simp only [Act.put, List.setIfInBounds_toArray, List.set_cons_zero, List.set_cons_succ]
  refine wpAnyH_ready (rs := [17]) (by kernel_rfl) (by simp) ?_
  refine AllReadyH.cons (o := _) (by simp only [List.getElem?_toArray, List.getElem?_cons_succ, List.getElem?_cons_zero] <;> exact rfl) (fun K hK => ?_) ?_
  focus (
    go_simp
    go_at_call 11
    refine (HK1.out _).mono ?_
    rintro e wc3 ⟨rfl, hb⟩
    have hS := hS.trans (hb.mono hS.size)
    clear hb
    go_wp2_with fail
    refine hK.out _ _ hS (fun _ => ?_)
    clear hK K
    try simp only [Act.put, List.setIfInBounds_toArray, List.set_cons_zero, List.set_cons_succ])
  rotate_left
  focus (exact AllReadyH.nil)
  refine wpAnyH_ready (rs := [19]) (by kernel_rfl) (by simp) ?_
  refine AllReadyH.cons (o := _) (by simp only [List.getElem?_toArray, List.getElem?_cons_succ, List.getElem?_cons_zero] <;> exact rfl) (fun K hK => ?_) ?_
  focus (
    go_simp
    go_at_call 12
    refine (HK2.out _).mono ?_
    rintro e wc4 ⟨rfl, hb⟩
    have hS := hS.trans (hb.mono hS.size)
    clear hb
    go_wp2_with fail
    refine hK.out _ _ hS (fun _ => ?_)
    clear hK K
    try simp only [Act.put, List.setIfInBounds_toArray, List.set_cons_zero, List.set_cons_succ])
  rotate_left
  focus (exact AllReadyH.nil)
  refine wpAnyH_take (i := 20) (v := ?_) (by simp only [List.getElem?_toArray, List.getElem?_cons_succ, List.getElem?_cons_zero] <;> exact rfl) (by kernel_rfl) (by kernel_rfl) (by kernel_rfl) (fun _ _ _ h => h) (Or.inl ⟨by rfl, ?_⟩) hS ?_
  rotate_left
  focus (intro w' hw'; go_simp; all_goals with_reducible rfl)
  try simp only [Act.put, List.setIfInBounds_toArray, List.set_cons_zero, List.set_cons_succ]
  refine wpAnyH_take (i := 21) (v := ?_) (by simp only [List.getElem?_toArray, List.getElem?_cons_succ, List.getElem?_cons_zero] <;> exact rfl) (by kernel_rfl) (by kernel_rfl) (by kernel_rfl) (fun _ _ _ h => h) (Or.inl ⟨by rfl, ?_⟩) hS ?_
  rotate_left
  focus (intro w' hw'; go_simp; all_goals with_reducible rfl)
  try simp only [Act.put, List.setIfInBounds_toArray, List.set_cons_zero, List.set_cons_succ]
  refine wpAnyH_take (i := 22) (v := ?_) (by simp only [List.getElem?_toArray, List.getElem?_cons_succ, List.getElem?_cons_zero] <;> exact rfl) (by kernel_rfl) (by kernel_rfl) (by kernel_rfl) (fun _ _ _ h => h) (Or.inl ⟨by rfl, ?_⟩) hS ?_
  rotate_left
  focus (intro w' hw'; go_simp; all_goals with_reducible rfl)
  try simp only [Act.put, List.setIfInBounds_toArray, List.set_cons_zero, List.set_cons_succ]
  refine wpAnyH_take (i := 23) (by simp only [List.getElem?_toArray, List.getElem?_cons_succ, List.getElem?_cons_zero] <;> exact rfl) (by kernel_rfl) (by kernel_rfl) (by kernel_rfl) (fun _ _ _ h => h) (rgs_yields_blk (by rfl) 23 (.tmp 2) (by rfl) st (by rfl) 23 #[.int .i64 g, .string B, .bool d] _ (fun w' hw' => Kst5.out.keep hw') Try.underlying23 rfl sr_size) hS ?_
  try simp only [Act.put, List.setIfInBounds_toArray, List.set_cons_zero, List.set_cons_succ]
  refine wpAnyH_take (i := 25) (by simp only [List.getElem?_toArray, List.getElem?_cons_succ, List.getElem?_cons_zero] <;> exact rfl) (by kernel_rfl) (by kernel_rfl) (by kernel_rfl) (fun _ _ _ h => h) (rgs_yields_blk (by rfl) 23 (.tmp 2) (by rfl) st (by rfl) 23 #[.int .i64 g, .string B, .bool d] _ (fun w' hw' => Kst5.out.keep hw') Try.underlying23 rfl sr_size) hS ?_
  try simp only [Act.put, List.setIfInBounds_toArray, List.set_cons_zero, List.set_cons_succ]
  refine wpAnyH_ready (rs := [24]) (by kernel_rfl) (by simp) ?_
  refine AllReadyH.cons (o := _) (by simp only [List.getElem?_toArray, List.getElem?_cons_succ, List.getElem?_cons_zero] <;> exact rfl) (fun K hK => ?_) ?_
  focus (
    go_simp
    go_at_call 13
    refine (HL1.out _).mono ?_
    rintro e wc5 ⟨rfl, hb⟩
    have hS := hS.trans (hb.mono hS.size)
    clear hb
    go_wp2_with fail
    refine hK.out _ _ hS (fun _ => ?_)
    clear hK K
    try simp only [Act.put, List.setIfInBounds_toArray, List.set_cons_zero, List.set_cons_succ])
  rotate_left
  focus (exact AllReadyH.nil)
  refine wpAnyH_ready (rs := [26]) (by kernel_rfl) (by simp) ?_
  refine AllReadyH.cons (o := _) (by simp only [List.getElem?_toArray, List.getElem?_cons_succ, List.getElem?_cons_zero] <;> exact rfl) (fun K hK => ?_) ?_
  focus (
    go_simp
    go_at_call 14
    refine (HL2.out _).mono ?_
    rintro e wc6 ⟨rfl, hb⟩
    have hS := hS.trans (hb.mono hS.size)
    clear hb
    go_wp2_with fail
    refine hK.out _ _ hS (fun _ => ?_)
    clear hK K
    try simp only [Act.put, List.setIfInBounds_toArray, List.set_cons_zero, List.set_cons_succ])
  rotate_left
  focus (exact AllReadyH.nil)
  refine wpAnyH_take (i := 27) (v := ?_) (by simp only [List.getElem?_toArray, List.getElem?_cons_succ, List.getElem?_cons_zero] <;> exact rfl) (by kernel_rfl) (by kernel_rfl) (by kernel_rfl) (fun _ _ _ h => h) (Or.inl ⟨by rfl, ?_⟩) hS ?_
  rotate_left
  focus (intro w' hw'; go_simp; all_goals with_reducible rfl)
  try simp only [Act.put, List.setIfInBounds_toArray, List.set_cons_zero, List.set_cons_succ]
  refine wpAnyH_take (i := 28) (v := ?_) (by simp only [List.getElem?_toArray, List.getElem?_cons_succ, List.getElem?_cons_zero] <;> exact rfl) (by kernel_rfl) (by kernel_rfl) (by kernel_rfl) (fun _ _ _ h => h) (Or.inl ⟨by rfl, ?_⟩) hS ?_
  rotate_left
  focus (intro w' hw'; go_simp; all_goals with_reducible rfl)
  try simp only [Act.put, List.setIfInBounds_toArray, List.set_cons_zero, List.set_cons_succ]
  refine wpAnyH_take (i := 29) (v := ?_) (by simp only [List.getElem?_toArray, List.getElem?_cons_succ, List.getElem?_cons_zero] <;> exact rfl) (by kernel_rfl) (by kernel_rfl) (by kernel_rfl) (fun _ _ _ h => h) (Or.inl ⟨by rfl, ?_⟩) hS ?_
  rotate_left
  focus (intro w' hw'; go_simp; all_goals with_reducible rfl)
  try simp only [Act.put, List.setIfInBounds_toArray, List.set_cons_zero, List.set_cons_succ]
  refine wpAnyH_take (i := 30) (by simp only [List.getElem?_toArray, List.getElem?_cons_succ, List.getElem?_cons_zero] <;> exact rfl) (by kernel_rfl) (by kernel_rfl) (by kernel_rfl) (fun _ _ _ h => h) (rgs_yields_blk (by rfl) 23 (.tmp 2) (by rfl) st (by rfl) 23 #[.int .i64 g, .string B, .bool d] _ (fun w' hw' => Kst5.out.keep hw') Try.underlying23 rfl sr_size) hS ?_
  try simp only [Act.put, List.setIfInBounds_toArray, List.set_cons_zero, List.set_cons_succ]
  refine wpAnyH_take (i := 31) (by simp only [List.getElem?_toArray, List.getElem?_cons_succ, List.getElem?_cons_zero] <;> exact rfl) (by kernel_rfl) (by kernel_rfl) (by kernel_rfl) (fun _ _ _ h => h) (rgs_yields_blk (by rfl) 23 (.tmp 8) (by rfl) y (by rfl) 23 #[.int .i64 fg, .string FT, .bool fd] _ (fun w' hw' => KN5.out.keep hw') Try.underlying23 rfl sr_size) hS ?_
  try simp only [Act.put, List.setIfInBounds_toArray, List.set_cons_zero, List.set_cons_succ]
  refine wpAnyH_take (i := 33) (by simp only [List.getElem?_toArray, List.getElem?_cons_succ, List.getElem?_cons_zero] <;> exact rfl) (by kernel_rfl) (by kernel_rfl) (by kernel_rfl) (fun _ _ _ h => h) (rgs_yields_blk (by rfl) 23 (.tmp 2) (by rfl) st (by rfl) 23 #[.int .i64 g, .string B, .bool d] _ (fun w' hw' => Kst5.out.keep hw') Try.underlying23 rfl sr_size) hS ?_
  try simp only [Act.put, List.setIfInBounds_toArray, List.set_cons_zero, List.set_cons_succ]
  refine wpAnyH_take (i := 34) (by simp only [List.getElem?_toArray, List.getElem?_cons_succ, List.getElem?_cons_zero] <;> exact rfl) (by kernel_rfl) (by kernel_rfl) (by kernel_rfl) (fun _ _ _ h => h) (rgs_yields_blk (by rfl) 23 (.tmp 8) (by rfl) y (by rfl) 23 #[.int .i64 fg, .string FT, .bool fd] _ (fun w' hw' => KN5.out.keep hw') Try.underlying23 rfl sr_size) hS ?_
  try simp only [Act.put, List.setIfInBounds_toArray, List.set_cons_zero, List.set_cons_succ]
  refine wpAnyH_take (i := 35) (v := .bool sm) (by simp only [List.getElem?_toArray, List.getElem?_cons_succ, List.getElem?_cons_zero] <;> exact rfl) (by kernel_rfl) (by kernel_rfl) (by kernel_rfl) (fun _ _ _ h => h) (Or.inl ⟨by rfl, ?_⟩) hS ?_
  focus (intro w' hw'; go_simp; rw [HSM.out]; exact sameS_if _ _ _ _ _ _ _)
  try simp only [Act.put, List.setIfInBounds_toArray, List.set_cons_zero, List.set_cons_succ]
  refine wpAnyH_ready (rs := [32]) (by kernel_rfl) (by simp) ?_
  refine AllReadyH.cons (o := _) (by simp only [List.getElem?_toArray, List.getElem?_cons_succ, List.getElem?_cons_zero] <;> exact rfl) (fun K hK => ?_) ?_
  focus (
    go_simp
    go_at_call 15
    refine (HS.out _).mono ?_
    rintro e wc7 ⟨rfl, hb⟩
    have hS := hS.trans (hb.mono hS.size)
    clear hb
    go_wp2_with fail
    refine hK.out _ _ hS (fun _ => ?_)
    clear hK K
    try simp only [Act.put, List.setIfInBounds_toArray, List.set_cons_zero, List.set_cons_succ])
  rotate_left
  focus (exact AllReadyH.nil)
  refine wpAnyH_take (i := 36) (v := ?_) (by simp only [List.getElem?_toArray, List.getElem?_cons_succ, List.getElem?_cons_zero] <;> exact rfl) (by kernel_rfl) (by kernel_rfl) (by kernel_rfl) (fun _ _ _ h => h) (Or.inl ⟨by rfl, ?_⟩) hS ?_
  rotate_left
  focus (intro w' hw'; go_simp; all_goals with_reducible rfl)
  try simp only [Act.put, List.setIfInBounds_toArray, List.set_cons_zero, List.set_cons_succ]
  refine wpAnyH_take (i := 37) (v := ?_) (by simp only [List.getElem?_toArray, List.getElem?_cons_succ, List.getElem?_cons_zero] <;> exact rfl) (by kernel_rfl) (by kernel_rfl) (by kernel_rfl) (fun _ _ _ h => h) (Or.inl ⟨by rfl, ?_⟩) hS ?_
  rotate_left
  focus (intro w' hw'; go_simp; all_goals with_reducible rfl)
  try simp only [Act.put, List.setIfInBounds_toArray, List.set_cons_zero, List.set_cons_succ]
  refine wpAnyH_take (i := 38) (v := ?_) (by simp only [List.getElem?_toArray, List.getElem?_cons_succ, List.getElem?_cons_zero] <;> exact rfl) (by kernel_rfl) (by kernel_rfl) (by kernel_rfl) (fun _ _ _ h => h) (Or.inl ⟨by rfl, ?_⟩) hS ?_
  rotate_left
  focus (intro w' hw'; go_simp; all_goals with_reducible rfl)
  try simp only [Act.put, List.setIfInBounds_toArray, List.set_cons_zero, List.set_cons_succ]
  refine wpAnyH_ready (rs := [39]) (by kernel_rfl) (by simp) ?_
  refine AllReadyH.cons (o := _) (by simp only [List.getElem?_toArray, List.getElem?_cons_succ, List.getElem?_cons_zero] <;> exact rfl) (fun K hK => ?_) ?_
  focus (
    go_simp
    go_at_call 6
    refine (HAW.out _).mono ?_
    rintro e wc8 ⟨rfl, hb⟩
    have hS := hS.trans (hb.mono hS.size)
    clear hb
    go_wp2_with fail
    refine hK.out _ _ hS (fun _ => ?_)
    clear hK K
    try simp only [Act.put, List.setIfInBounds_toArray, List.set_cons_zero, List.set_cons_succ])
  rotate_left
  focus (exact AllReadyH.nil)
  refine wpAnyH_take (i := 40) (v := ?_) (by simp only [List.getElem?_toArray, List.getElem?_cons_succ, List.getElem?_cons_zero] <;> exact rfl) (by kernel_rfl) (by kernel_rfl) (by kernel_rfl) (fun _ _ _ h => h) (Or.inl ⟨by rfl, ?_⟩) hS ?_
  rotate_left
  focus (intro w' hw'; go_simp; all_goals with_reducible rfl)
  try simp only [Act.put, List.setIfInBounds_toArray, List.set_cons_zero, List.set_cons_succ]
  refine wpAnyH_take (i := 41) (v := ?_) (by simp only [List.getElem?_toArray, List.getElem?_cons_succ, List.getElem?_cons_zero] <;> exact rfl) (by kernel_rfl) (by kernel_rfl) (by kernel_rfl) (fun _ _ _ h => h) (Or.inl ⟨by rfl, ?_⟩) hS ?_
  rotate_left
  focus (intro w' hw'; go_simp; all_goals with_reducible rfl)
  try simp only [Act.put, List.setIfInBounds_toArray, List.set_cons_zero, List.set_cons_succ]
  refine wpAnyH_done (by kernel_rfl) ?_ _
  refine NoPanic.normal ?_
  go_wp2_with fail
  go_ret
  exact ⟨rfl, B5.out.trans (hS.mono B5.out.size)⟩
end Go.Proofs.Ytojcjmjohibpaaa.splitFeeds
