/-
  Layer 4: awake.
-/
import Derived.Test.YtchndegcnjejiaaDyTab
import Derived.Test.YtchndegcnjejiaaDyFind
namespace Go.Proofs.Ytchndegcnjejiaa
open Go.RowKit

def fAB : Fd := ⟨⟨#[97]⟩, ⟨#[98]⟩, false⟩
def fCD : Fd := ⟨⟨#[99]⟩, ⟨#[100]⟩, false⟩
def fEF : Fd := ⟨⟨#[101]⟩, ⟨#[102]⟩, false⟩

section
variable {ops : Array Oper} {rest : List Oper} {o : Oper} {a : Act} {w : World} {Q : Exit → Act → World → Prop}
theorem fld_built2r (a b : ByteArray) : Try.prog.built 29 [(0, .string a), (1, .string b)] = some #[.string a, .string b, .bool false] := by kernel_rfl
theorem fld_built3r (a b : ByteArray) (x : Bool) : Try.prog.built 29 [(0, .string a), (1, .string b), (2, .bool x)] = some #[.string a, .string b, .bool x] := by kernel_rfl
theorem wpList_fld2r (hg : o.guard = none) (x y : Operand) (n v : ByteArray) (ho : o.op = .build 29 #[(0, x), (1, y)]) (hx : a.eval x = .string n) (hy : a.eval y = .string v)
    (h : wpList Try.prog ops Q rest (a.put o.dst (.agg #[.string n, .string v, .bool false])) w) : wpList Try.prog ops Q (o :: rest) a w :=
  wpList_built hg _ _ ho _ (by simp only [List.map_toArray, List.map_cons, List.map_nil, hx, hy]; exact fld_built2r n v) h
theorem wpList_fld3r (hg : o.guard = none) (x y z : Operand) (n v : ByteArray) (b : Bool) (ho : o.op = .build 29 #[(0, x), (1, y), (2, z)]) (hx : a.eval x = .string n) (hy : a.eval y = .string v) (hz : a.eval z = .bool b)
    (h : wpList Try.prog ops Q rest (a.put o.dst (.agg #[.string n, .string v, .bool b])) w) : wpList Try.prog ops Q (o :: rest) a w :=
  wpList_built hg _ _ ho _ (by simp only [List.map_toArray, List.map_cons, List.map_nil, hx, hy, hz]; exact fld_built3r n v b) h
end

section
variable (w : World) {A A' : Option Addr} {n n' c c' : Nat}
theorem aw_New80 : Calls Try.prog 18 #[.int .i64 80] w fun e w' => e = .returned (.tuple #[.agg #[.int .i64 80, .slice none 0 0], .int .i64 0]) ∧ Below w.heap.size w w' := dy_New 80 w
theorem aw_Add1 : Calls Try.prog 20 #[.agg #[.int .i64 80, .slice none 0 0], .agg #[.string ⟨#[97]⟩, .string ⟨#[98]⟩, .bool false]] w (TabOnly 80 [fAB] w) := by
  have := dy_Add 80 none 0 0 [] fAB w (FL.none_ w) (by decide) (by decide) (by decide)
  rw [show addL 80 [] fAB = [fAB] by decide +kernel] at this
  exact this
theorem aw_Add2 (h : FL w A n c [fAB]) : Calls Try.prog 20 #[.agg #[.int .i64 80, .slice A n c], .agg #[.string ⟨#[99]⟩, .string ⟨#[100]⟩, .bool true]] w (TabOnly 80 [fCD, fAB] w) := by
  have := dy_Add 80 A n c [fAB] ⟨⟨#[99]⟩, ⟨#[100]⟩, true⟩ w h (by decide) (by decide) (by rw [← h.len]; decide)
  rw [show addL 80 [fAB] ⟨⟨#[99]⟩, ⟨#[100]⟩, true⟩ = [fCD, fAB] by decide +kernel] at this
  exact this
theorem aw_At (h : FL w A n c [fCD, fAB]) : Calls Try.prog 8 #[.agg #[.int .i64 80, .slice A n c], .int .i64 62] w fun e w' => e = .returned (.tuple #[.agg #[.string ⟨#[99]⟩, .string ⟨#[100]⟩, .bool false], .bool true]) ∧ Below w.heap.size w w' := by
  have := dy_At 80 A n c [fCD, fAB] w h (by rw [← h.len]; decide) 62 (by decide)
  unfold AtIs at this
  rw [show atF [fCD, fAB] 62 = fCD by decide +kernel, show atB [fCD, fAB] 62 = true by decide +kernel] at this
  exact this
theorem dy_Find_is {m : Int} {l : List Fd} {a v : ByteArray} {r : Nat} {b : Bool} {R : Int} (h : FL w A n c l) (hn : (n : Int) ≤ 1099511627776) (hf : FindL l a v r b) (hR : (r : Int) = R) :
    Calls Try.prog 10 #[.agg #[.int .i64 m, .slice A n c], .string a, .string v] w fun e w' => e = .returned (.tuple #[.int .i64 R, .bool b]) ∧ Below w.heap.size w w' := by
  subst hR
  refine (dy_Find m A n c l a v w h hn).mono ?_
  rintro e w' ⟨r', b', rfl, h', hb⟩
  obtain ⟨rfl, rfl⟩ := h'.one hf
  exact ⟨rfl, hb⟩
theorem aw_Find1 (h : FL w A n c [fCD, fAB]) : Calls Try.prog 10 #[.agg #[.int .i64 80, .slice A n c], .string ⟨#[97]⟩, .string ⟨#[98]⟩] w fun e w' => e = .returned (.tuple #[.int .i64 63, .bool true]) ∧ Below w.heap.size w w' :=
  dy_Find_is w h (by rw [← h.len]; decide) (r := 63) (by unfold FindL NoneL; decide +kernel) rfl
theorem aw_Add3 (h : FL w A n c [fCD, fAB]) : Calls Try.prog 20 #[.agg #[.int .i64 80, .slice A n c], .agg #[.string ⟨#[101]⟩, .string ⟨#[102]⟩, .bool false]] w (TabOnly 80 [fEF, fCD] w) := by
  have := dy_Add 80 A n c [fCD, fAB] fEF w h (by decide) (by decide) (by rw [← h.len]; decide)
  rw [show addL 80 [fCD, fAB] fEF = [fEF, fCD] by decide +kernel] at this
  exact this
theorem aw_Find2 (h : FL w A n c [fEF, fCD]) : Calls Try.prog 10 #[.agg #[.int .i64 80, .slice A n c], .string ⟨#[97]⟩, .string ⟨#[98]⟩] w fun e w' => e = .returned (.tuple #[.int .i64 0, .bool false]) ∧ Below w.heap.size w w' :=
  dy_Find_is w h (by rw [← h.len]; decide) (r := 0) (by unfold FindL NoneL; decide +kernel) rfl
theorem aw_Res1 (h : FL w A n c [fEF, fCD]) : Calls Try.prog 19 #[.agg #[.int .i64 80, .slice A n c], .int .i64 40] w (TabIs 40 [fEF] 0 w) := by
  have := dy_Resize 80 A n c [fEF, fCD] 40 w h (by decide) (by rw [← h.len]; decide)
  rw [show resM 80 [fEF, fCD] 40 = 40 by decide +kernel, show resL 80 [fEF, fCD] 40 = [fEF] by decide +kernel, show resE 80 [fEF, fCD] 40 = 0 by decide +kernel] at this
  exact this
theorem aw_Res2 (h : FL w A n c [fEF, fCD]) : Calls Try.prog 19 #[.agg #[.int .i64 80, .slice A n c], .int .i64 4097] w (TabIs 80 [fEF, fCD] 8 w) := by
  have := dy_Resize 80 A n c [fEF, fCD] 4097 w h (by decide) (by rw [← h.len]; decide)
  rw [show resM 80 [fEF, fCD] 4097 = 80 by decide +kernel, show resL 80 [fEF, fCD] 4097 = [fEF, fCD] by decide +kernel, show resE 80 [fEF, fCD] 4097 = 8 by decide +kernel] at this
  exact this
theorem aw_Size (h : FL w A n c [fCD, fAB]) : Calls Try.prog 12 #[.agg #[.int .i64 80, .slice A n c]] w fun e w' => e = .returned (.int .i64 68) ∧ Below w.heap.size w w' :=
  dy_Size 80 A n c [fCD, fAB] w h (by decide)
theorem aw_Check (h : FL w A n c [fEF]) : Calls Try.prog 14 #[.agg #[.int .i64 40, .slice A n c]] w fun e w' => e = .returned (.int .i64 0) ∧ Below w.heap.size w w' := by
  have := dy_Check 40 A n c [fEF] w h (by decide)
  rw [show chkI 40 [fEF] = 0 by decide +kernel] at this
  exact this
theorem aw_Same1 (h : FL w A n c [fCD, fAB]) : Calls Try.prog 16 #[.agg #[.int .i64 80, .slice A n c], .agg #[.int .i64 80, .slice A n c]] w fun e w' => e = .returned (.bool true) ∧ Below w.heap.size w w' := by
  have := dy_Same 80 80 A A n n c c [fCD, fAB] [fCD, fAB] w h h (by rw [← h.len]; decide) (by rw [← h.len]; decide)
  rw [show sameB 80 [fCD, fAB] 80 [fCD, fAB] = true by decide +kernel] at this
  exact this
theorem aw_Same2 (h : FL w A n c [fCD, fAB]) (h' : FL w A' n' c' [fEF, fCD]) : Calls Try.prog 16 #[.agg #[.int .i64 80, .slice A n c], .agg #[.int .i64 80, .slice A' n' c']] w fun e w' => e = .returned (.bool false) ∧ Below w.heap.size w w' := by
  have := dy_Same 80 80 A A' n n' c c' [fCD, fAB] [fEF, fCD] w h h' (by rw [← h.len]; decide) (by rw [← h'.len]; decide)
  rw [show sameB 80 [fCD, fAB] 80 [fEF, fCD] = false by decide +kernel] at this
  exact this
end

theorem FL.form {w : World} {A : Option Addr} {n c : Nat} {f : Fd} {l : List Fd} (h : FL w A n c (f :: l)) : ∃ b off, A = some ⟨b, off, none⟩ := by
  obtain ⟨b, off, e, _⟩ := h.at_ 0 f rfl
  exact ⟨b, off, e⟩
theorem FL.first {w : World} {b off n c : Nat} {f : Fd} {l : List Fd} (h : FL w (some ⟨b, off, none⟩) n c (f :: l)) : w.cell? ⟨b, off, none⟩ = some (.string f.n) := by
  obtain ⟨b', off', e, _, c0, _⟩ := h.at_ 0 f rfl
  injection e with e
  injection e with e1 e2
  subst e1 e2
  simpa using c0

set_option maxRecDepth 100000 in
set_option maxHeartbeats 3200000 in
theorem aw_dyntab (w : World) : Calls Try.prog 7 #[] w fun e w' => e = .returned (.bool true) ∧ Below w.heap.size w w' := by
  have hz := run_zero_is tab_zero
  have hzf := run_zero_is st_zero_raw
  go_enter Try.func7, Try.ntmps7
  go_wp2_with fail
  refine (aw_New80 _).mono ?_
  rintro e w1 ⟨rfl, hb1⟩
  have K1 := hide (BlkIs.new w1 27 #[.int .i64 80, .slice none 0 0])
  have B1 := hide (hb1.alloc hb1.size (.cells #[.int .i64 80, .slice none 0 0] 27))
  obtain ⟨g1, hg1⟩ : ∃ g, g = w1.heap.size := ⟨_, rfl⟩
  have HG1 := hide (show w.heap.size ≤ g1 by rw [hg1]; exact hb1.size)
  rw [← hg1] at K1
  clear hb1
  go_wp2_with (first
    | (with_reducible refine wpList_fld2r rfl _ _ _ _ rfl rfl rfl ?_))
  rw [← hg1]
  clear hg1
  refine (aw_Add1 _).mono ?_
  rintro e w2 ⟨A2, n2, c2, rfl, hf2, hb2⟩
  have F2 := hide hf2
  have K2 := hide (K1.out.keep hb2)
  have B2 := hide (B1.out.trans (hb2.mono B1.out.size))
  clear hf2 hb2 K1 B1
  go_wp2_with (first
    | (with_reducible refine wpList_fld3r rfl _ _ _ _ _ _ rfl rfl rfl rfl ?_))
  refine (aw_Add2 _ F2.out).mono ?_
  rintro e w3 ⟨A3, n3, c3, rfl, hf3, hb3⟩
  have F3 := hide hf3
  have K3 := hide (K2.out.keep hb3)
  have B3 := hide (B2.out.trans (hb3.mono B2.out.size))
  clear hf3 hb3 K2 B2 F2
  go_wp2_with (first
    | (refine wpList_tab_blk rfl _ _ g1 _ _ _ _ _ _ _ _ rfl K3.out rfl rfl ?_; intro w4 hk4 hb4; have K4 := hide hk4; have F4 := hide (F3.out.kb K3.out hb4); have B4 := hide (below_kb2 B3.out hb4 (Nat.le_refl _) HG1.out); have d0 := hk4.cell 0; have d1 := hk4.cell 1; simp only [List.getElem?_toArray, List.getElem?_cons_zero, List.getElem?_cons_succ] at d0 d1; clear hk4 hb4))
  refine (aw_At _ F4.out).mono ?_
  rintro e w5 ⟨rfl, hb5⟩
  have F5 := hide ((F4.out.keep hb5).alloc (.cells #[.string ⟨#[99]⟩, .string ⟨#[100]⟩, .bool false] 29))
  have K5 := hide ((K4.out.keep hb5).alloc (.cells #[.string ⟨#[99]⟩, .string ⟨#[100]⟩, .bool false] 29))
  have L5 := hide (BlkIs.new w5 29 #[.string ⟨#[99]⟩, .string ⟨#[100]⟩, .bool false])
  have B5 := hide ((B4.out.trans (hb5.mono B4.out.size)).alloc (by have h1 := hb5.size; have h2 := B4.out.size; omega) (.cells #[.string ⟨#[99]⟩, .string ⟨#[100]⟩, .bool false] 29))
  have d0 := K5.out.cell 0
  have d1 := K5.out.cell 1
  simp only [List.getElem?_toArray, List.getElem?_cons_zero, List.getElem?_cons_succ] at d0 d1
  obtain ⟨g3, hg3⟩ : ∃ g, g = w5.heap.size := ⟨_, rfl⟩
  rw [← hg3] at L5
  clear hb5 F4 K4 B4 F3 K3 B3
  go_wp2_with fail
  rw [← hg3]
  clear hg3
  refine (aw_Find1 _ F5.out).mono ?_
  rintro e w6 ⟨rfl, hb6⟩
  have F6 := hide (F5.out.keep hb6)
  have K6 := hide (K5.out.keep hb6)
  have L6 := hide (L5.out.keep hb6)
  have B6 := hide (B5.out.trans (hb6.mono B5.out.size))
  have d0 := K6.out.cell 0
  have d1 := K6.out.cell 1
  simp only [List.getElem?_toArray, List.getElem?_cons_zero, List.getElem?_cons_succ] at d0 d1
  clear hb6 F5 K5 L5 B5
  go_wp2_with (first
    | (with_reducible refine wpList_fld2r rfl _ _ _ _ rfl rfl rfl ?_))
  refine (aw_Add3 _ F6.out).mono ?_
  rintro e w7 ⟨A7, n7, c7, rfl, hf7, hb7⟩
  have F7 := hide ((F6.out.keep hb7).alloc (.cells #[.int .i64 80, .slice A7 n7 c7] 27))
  have K7 := hide ((K6.out.keep hb7).alloc (.cells #[.int .i64 80, .slice A7 n7 c7] 27))
  have L7 := hide ((L6.out.keep hb7).alloc (.cells #[.int .i64 80, .slice A7 n7 c7] 27))
  have G7 := hide (hf7.alloc (.cells #[.int .i64 80, .slice A7 n7 c7] 27))
  have M7 := hide (BlkIs.new w7 27 #[.int .i64 80, .slice A7 n7 c7])
  have B7 := hide ((B6.out.trans (hb7.mono B6.out.size)).alloc (by have h1 := hb7.size; have h2 := B6.out.size; omega) (.cells #[.int .i64 80, .slice A7 n7 c7] 27))
  obtain ⟨g7, hg7⟩ : ∃ g, g = w7.heap.size := ⟨_, rfl⟩
  rw [← hg7] at M7
  clear hb7 hf7 F6 K6 L6 B6 d0 d1
  go_wp2_with fail
  rw [← hg7]
  clear hg7
  refine (aw_Find2 _ G7.out).mono ?_
  rintro e w8 ⟨rfl, hb8⟩
  have F8 := hide (F7.out.keep hb8)
  have K8 := hide (K7.out.keep hb8)
  have L8 := hide (L7.out.keep hb8)
  have G8 := hide (G7.out.keep hb8)
  have M8 := hide (M7.out.keep hb8)
  have B8 := hide (B7.out.trans (hb8.mono B7.out.size))
  have d0 := M8.out.cell 0
  have d1 := M8.out.cell 1
  simp only [List.getElem?_toArray, List.getElem?_cons_zero, List.getElem?_cons_succ] at d0 d1
  clear hb8 F7 K7 L7 G7 M7 B7
  go_wp2_with fail
  refine (aw_Res1 _ G8.out).mono ?_
  rintro e w9 ⟨A9, n9, c9, rfl, hf9, hb9⟩
  have F9 := hide ((F8.out.keep hb9).alloc (.cells #[.int .i64 40, .slice A9 n9 c9] 27))
  have K9 := hide ((K8.out.keep hb9).alloc (.cells #[.int .i64 40, .slice A9 n9 c9] 27))
  have L9 := hide ((L8.out.keep hb9).alloc (.cells #[.int .i64 40, .slice A9 n9 c9] 27))
  have G9 := hide ((G8.out.keep hb9).alloc (.cells #[.int .i64 40, .slice A9 n9 c9] 27))
  have M9 := hide ((M8.out.keep hb9).alloc (.cells #[.int .i64 40, .slice A9 n9 c9] 27))
  have H9 := hide (hf9.alloc (.cells #[.int .i64 40, .slice A9 n9 c9] 27))
  have N9 := hide (BlkIs.new w9 27 #[.int .i64 40, .slice A9 n9 c9])
  have B9 := hide ((B8.out.trans (hb9.mono B8.out.size)).alloc (by have h1 := hb9.size; have h2 := B8.out.size; omega) (.cells #[.int .i64 40, .slice A9 n9 c9] 27))
  have d0 := M9.out.cell 0
  have d1 := M9.out.cell 1
  simp only [List.getElem?_toArray, List.getElem?_cons_zero, List.getElem?_cons_succ] at d0 d1
  obtain ⟨g10, hg10⟩ : ∃ g, g = w9.heap.size := ⟨_, rfl⟩
  rw [← hg10] at N9
  clear hb9 hf9 F8 K8 L8 G8 M8 B8
  go_wp2_with fail
  rw [← hg10]
  clear hg10
  refine (aw_Res2 _ G9.out).mono ?_
  rintro e w10 ⟨A10, n10, c10, rfl, hf10, hb10⟩
  have F10 := hide ((F9.out.keep hb10).alloc (.cells #[.int .i64 80, .slice A10 n10 c10] 27))
  have K10 := hide ((K9.out.keep hb10).alloc (.cells #[.int .i64 80, .slice A10 n10 c10] 27))
  have L10 := hide ((L9.out.keep hb10).alloc (.cells #[.int .i64 80, .slice A10 n10 c10] 27))
  have G10 := hide ((G9.out.keep hb10).alloc (.cells #[.int .i64 80, .slice A10 n10 c10] 27))
  have M10 := hide ((M9.out.keep hb10).alloc (.cells #[.int .i64 80, .slice A10 n10 c10] 27))
  have H10 := hide ((H9.out.keep hb10).alloc (.cells #[.int .i64 80, .slice A10 n10 c10] 27))
  have N10 := hide ((N9.out.keep hb10).alloc (.cells #[.int .i64 80, .slice A10 n10 c10] 27))
  have B10 := hide ((B9.out.trans (hb10.mono B9.out.size)).alloc (by have h1 := hb10.size; have h2 := B9.out.size; omega) (.cells #[.int .i64 80, .slice A10 n10 c10] 27))
  clear hb10 hf10 F9 K9 L9 G9 M9 H9 N9 B9 d0 d1
  obtain rfl : n7 = 2 := by have := G10.out.len; simpa using this.symm
  obtain rfl : n9 = 1 := by have := H10.out.len; simpa using this.symm
  obtain ⟨b9, o9, rfl⟩ := H10.out.form
  have l0 := L10.out.cell 0
  have l1 := L10.out.cell 1
  have l2 := L10.out.cell 2
  have k0 := K10.out.cell 0
  have k1 := K10.out.cell 1
  simp only [List.getElem?_toArray, List.getElem?_cons_zero, List.getElem?_cons_succ] at l0 l1 l2 k0 k1
  go_wp2_with (first
    | (with_reducible refine wpList_fld2r rfl _ _ _ _ rfl rfl rfl ?_)
    | (go_at_call 12; ((with_reducible refine (aw_Size _ F10.out).mono ?_); rintro e w11 ⟨rfl, hb11⟩; have F11 := hide (F10.out.keep hb11); have K11 := hide (K10.out.keep hb11); have G11 := hide (G10.out.keep hb11); have M11 := hide (M10.out.keep hb11); have H11 := hide (H10.out.keep hb11); have N11 := hide (N10.out.keep hb11); have B11 := hide (B10.out.trans (hb11.mono B10.out.size)); have m1 := M11.out.cell 1; have n0 := N11.out.cell 0; have n1 := N11.out.cell 1; simp only [List.getElem?_toArray, List.getElem?_cons_zero, List.getElem?_cons_succ] at m1 n0 n1; have v0 : w11.cell? ⟨b9, o9, none⟩ = some (.string ⟨#[101]⟩) := H11.out.first; clear hb11 F10 K10 L10 G10 M10 H10 N10 B10 l0 l1 l2 k0 k1))
    | (go_at_call 14; ((with_reducible refine (aw_Check _ H11.out).mono ?_); rintro e w12 ⟨rfl, hb12⟩; have F12 := hide (F11.out.keep hb12); have K12 := hide (K11.out.keep hb12); have G12 := hide (G11.out.keep hb12); have M12 := hide (M11.out.keep hb12); have B12 := hide (B11.out.trans (hb12.mono B11.out.size)); have k0 := K12.out.cell 0; have k1 := K12.out.cell 1; simp only [List.getElem?_toArray, List.getElem?_cons_zero, List.getElem?_cons_succ] at k0 k1; clear hb12 F11 K11 G11 M11 H11 N11 B11 m1 n0 n1 v0))
    | (go_at_call 16; ((with_reducible refine (aw_Same1 _ F12.out).mono ?_); rintro e w13 ⟨rfl, hb13⟩; have F13 := hide (F12.out.keep hb13); have K13 := hide (K12.out.keep hb13); have G13 := hide (G12.out.keep hb13); have M13 := hide (M12.out.keep hb13); have B13 := hide (B12.out.trans (hb13.mono B12.out.size)); have k0 := K13.out.cell 0; have k1 := K13.out.cell 1; have m0 := M13.out.cell 0; have m1 := M13.out.cell 1; simp only [List.getElem?_toArray, List.getElem?_cons_zero, List.getElem?_cons_succ] at k0 k1 m0 m1; clear hb13 F12 K12 G12 M12 B12))
    | (go_at_call 16; ((with_reducible refine (aw_Same2 _ F13.out G13.out).mono ?_); rintro e w14 ⟨rfl, hb14⟩; have B14 := hide (B13.out.trans (hb14.mono B13.out.size)); clear hb14)))
  go_ret
  exact ⟨rfl, B14.out⟩
end Go.Proofs.Ytchndegcnjejiaa
