/-
  Layer 9: Check and Length (the program's).
-/
import Derived.Test.YtighhdgaaelcdaaFrRange
import Derived.BigGuardPart
namespace Go.Proofs.Ytighhdgaaelcdaa
set_option linter.unusedSimpArgs false
set_option linter.unusedVariables false
open Go.RowKit

def Fr.fitB (F : Fr) (n : Nat) : Bool := fitV (shP F.ty F.fl) (shD F.ty F.fl) (shL F.ty) (shC F.ty) (shI F.ty) (shR F.ty F.fl) (shX F.ty) F n
def Fr.siz (F : Fr) (n : Nat) : Int := sizV (shP F.ty F.fl) (shD F.ty F.fl) (shL F.ty) (shC F.ty) (shI F.ty) F n
/-- What Check answers. -/
def Fr.chk (F : Fr) (n : Nat) : Int := if F.inB = false then 8 else if F.fitB n = false ∨ F.ty = 6 ∧ ¬ F.data.size = 8 then 4 else if 16384 < F.siz n then 5 else 0
theorem fr_sz : (Try.prog.info? 34).map (·.size) = some 12 := by kernel_rfl

set_option maxRecDepth 100000 in
set_option maxHeartbeats 3200000 in
theorem fr_Check (F : Fr) (A : Option Addr) (n c : Nat) (t0 : 0 ≤ F.ty) (hn : (n : Int) ≤ 150000000000000) (hs : (F.data.size : Int) ≤ 150000000000000) (w : World) :
    Calls Try.prog 16 #[.agg (F.cs A n c)] w fun e w' => e = .returned (.int .i64 (F.chk n)) ∧ Below w.heap.size w w' := by
  have HH := hide (fun w => fr_head F A n c w)
  have HS := hide (fun w => fr_shapeOf 0 F.ty F.fl F.st t0 w)
  have HR := hide (fun w => fr_inRange F A n c w)
  have HFi := hide (fun w => fr_fits (shP F.ty F.fl) (shD F.ty F.fl) (shL F.ty) (shC F.ty) (shI F.ty) (shR F.ty F.fl) (shX F.ty) F A n c w)
  have HSz := hide (fun p0 p1 w => fr_size (shP F.ty F.fl) (shD F.ty F.fl) (shL F.ty) (shC F.ty) (shI F.ty) (shR F.ty F.fl) (shX F.ty) F A n c hn hs p0 p1 w)
  have HV : shV F.ty F.fl = #[.bool (shP F.ty F.fl), .bool (shD F.ty F.fl), .bool (shL F.ty), .bool (shC F.ty), .bool (shI F.ty), .bool (shR F.ty F.fl), .bool (shX F.ty)] := rfl
  have HB : F.fitB n = fitV (shP F.ty F.fl) (shD F.ty F.fl) (shL F.ty) (shC F.ty) (shI F.ty) (shR F.ty F.fl) (shX F.ty) F n := rfl
  have HQ : F.siz n = sizV (shP F.ty F.fl) (shD F.ty F.fl) (shL F.ty) (shC F.ty) (shI F.ty) F n := rfl
  rw [HV] at HS
  rw [← HB] at HFi
  rw [← HQ] at HSz
  clear HV HB HQ
  obtain ⟨q0, q1, q2, q3, q4, q5, q6, q7, q8, q9, q10, q11⟩ := fr_qs F A n c
  have HZ := hide (show (Try.prog.info? 34).map (·.size) = some (F.cs A n c).size from fr_sz)
  generalize shP F.ty F.fl = p at *
  generalize shD F.ty F.fl = d at *
  generalize shL F.ty = l at *
  generalize shC F.ty = c0 at *
  generalize shI F.ty = i at *
  generalize shR F.ty F.fl = r at *
  generalize shX F.ty = x at *
  generalize F.cs A n c = cs at *
  have HC := hide (show F.chk n = if F.inB = false then 8 else if F.fitB n = false ∨ F.ty = 6 ∧ ¬ F.data.size = 8 then 4 else if 16384 < F.siz n then 5 else 0 from rfl)
  go_enter Try.func16, Try.ntmps16
  go_upto_region 1 with (fail)
  have B0 := hide (Below.refl w.heap.size w)
  have KN1 := hide (BlkIs.new w 34 cs)
  obtain ⟨g, hg⟩ : ∃ g, g = w.heap.size := ⟨_, rfl⟩
  have Lg := hide (show w.heap.size ≤ g by rw [hg]; exact B0.out.size)
  have B1 := hide (B0.out.alloc B0.out.size (.cells cs 34))
  rw [← hg] at KN1 ⊢
  generalize w.alloc (.cells cs 34) = w1 at B1 KN1 ⊢
  clear hg B0
  go_wp2_with (refine wpList_load_blk rfl 34 (.tmp 1) rfl g rfl 34 cs _ KN1.out Try.underlying34 rfl HZ.out ?_)
  refine (HH.out _).mono ?_
  rintro e w2 ⟨rfl, hb2⟩
  have Kg2 := hide (KN1.out.keep hb2)
  have B2 := hide (B1.out.trans (hb2.mono B1.out.size))
  clear hb2 KN1 B1
  go_wp2_with fail
  refine (HS.out _).mono ?_
  rintro e w3 ⟨rfl, hb3⟩
  have Kg3 := hide (Kg2.out.keep hb3)
  have B3 := hide (B2.out.trans (hb3.mono B2.out.size))
  clear hb3 Kg2 B2
  go_upto_region 2 with (fail)
  have KN4 := hide (BlkIs.new w3 65 #[.bool p, .bool d, .bool l, .bool c0, .bool i, .bool r, .bool x])
  obtain ⟨y, hy⟩ : ∃ g, g = w3.heap.size := ⟨_, rfl⟩
  have Ly := hide (show w.heap.size ≤ y by rw [hy]; exact B3.out.size)
  have Ngy := hide (show g ≠ y by have := Kg3.out.lt; omega)
  have Kg4 := hide (Kg3.out.alloc (.cells #[.bool p, .bool d, .bool l, .bool c0, .bool i, .bool r, .bool x] 65))
  have B4 := hide (B3.out.alloc B3.out.size (.cells #[.bool p, .bool d, .bool l, .bool c0, .bool i, .bool r, .bool x] 65))
  rw [← hy] at KN4 ⊢
  generalize w3.alloc (.cells #[.bool p, .bool d, .bool l, .bool c0, .bool i, .bool r, .bool x] 65) = w4 at Kg4 B4 KN4 ⊢
  clear hy Kg3 B3
  go_wp2_with (refine wpList_load_blk rfl 34 (.tmp 1) rfl g rfl 34 cs _ Kg4.out Try.underlying34 rfl HZ.out ?_)
  refine (HR.out _).mono ?_
  rintro e w5 ⟨rfl, hb5⟩
  have Kg5 := hide (Kg4.out.keep hb5)
  have Ky5 := hide (KN4.out.keep hb5)
  have B5 := hide (B4.out.trans (hb5.mono B4.out.size))
  clear hb5 Kg4 KN4 B4
  cases hin : F.inB with
  | false =>
    have HE := hide (HC.out.trans (if_pos hin))
    clear hin
    go_wp2
    go_ret
    exact ⟨by rw [HE.out]; rfl, B5.out⟩
  | true =>
    have HC := hide (HC.out.trans (if_neg (by rw [hin]; simp)))
    have HI := hide ((inB_iff F).1 hin)
    clear hin
    obtain ⟨c0_, c1_, c2_, c3_, c4_, c5_, c6_⟩ := sh_cells Ky5.out
    go_wp2_with (refine wpList_load_blk rfl 34 (.tmp 1) rfl g rfl 34 cs _ Kg5.out Try.underlying34 rfl HZ.out ?_)
    clear c0_ c1_ c2_ c3_ c4_ c5_ c6_
    refine (HFi.out _).mono ?_
    rintro e w6 ⟨rfl, hb6⟩
    have Kg6 := hide (Kg5.out.keep hb6)
    have Ky6 := hide (Ky5.out.keep hb6)
    have B6 := hide (B5.out.trans (hb6.mono B5.out.size))
    clear hb6 Kg5 Ky5 B5
    cases hfi : F.fitB n with
    | false =>
      have HE := hide (HC.out.trans (if_pos (Or.inl hfi)))
      clear hfi
      go_wp2
      go_ret
      exact ⟨by rw [HE.out]; rfl, B6.out⟩
    | true =>
      have g0 := (Kg6.out.cell 0).trans q0
      have g3 := (Kg6.out.cell 3).trans q3
      obtain ⟨c0_, c1_, c2_, c3_, c4_, c5_, c6_⟩ := sh_cells Ky6.out
      by_cases h6 : F.ty = 6
      · rw [h6] at g0
        by_cases h8 : F.data.size = 8
        · have h8i : (F.data.size : Int) = 8 := by omega
          have HX := hide (show ¬ (F.fitB n = false ∨ F.ty = 6 ∧ ¬ F.data.size = 8) by rw [hfi]; simp [h8])
          clear h8 hfi
          go_wp2_with (refine wpList_load_blk rfl 34 (.tmp 1) rfl g rfl 34 cs _ Kg6.out Try.underlying34 rfl HZ.out ?_)
          clear c0_ c1_ c2_ c3_ c4_ c5_ c6_ g0 g3
          refine (HSz.out HI.out.2.2.2.2.2.2.2.2.1 HI.out.2.2.2.2.2.2.2.2.2 _).mono ?_
          rintro e w7 ⟨rfl, hb7⟩
          have Kg7 := hide (Kg6.out.keep hb7)
          have Ky7 := hide (Ky6.out.keep hb7)
          have B7 := hide (B6.out.trans (hb7.mono B6.out.size))
          clear hb7 Kg6 Ky6 B6
          by_cases hz : 16384 < F.siz n
          · have HE := hide (HC.out.trans ((if_neg HX.out).trans (if_pos hz)))
            go_wp2
            go_ret
            exact ⟨by rw [HE.out]; rfl, B7.out⟩
          · have HE := hide (HC.out.trans ((if_neg HX.out).trans (if_neg hz)))
            go_wp2
            go_ret
            exact ⟨by rw [HE.out]; rfl, B7.out⟩
        · have h8i : ¬ (F.data.size : Int) = 8 := by omega
          have HE := hide (HC.out.trans (if_pos (Or.inr ⟨h6, h8⟩)))
          clear hfi h8
          go_wp2
          go_ret
          exact ⟨by rw [HE.out]; rfl, B6.out⟩
      · have HX := hide (show ¬ (F.fitB n = false ∨ F.ty = 6 ∧ ¬ F.data.size = 8) by rw [hfi]; simp [h6])
        clear hfi
        go_wp2_with (refine wpList_load_blk rfl 34 (.tmp 1) rfl g rfl 34 cs _ Kg6.out Try.underlying34 rfl HZ.out ?_)
        clear c0_ c1_ c2_ c3_ c4_ c5_ c6_ g0 g3
        refine (HSz.out HI.out.2.2.2.2.2.2.2.2.1 HI.out.2.2.2.2.2.2.2.2.2 _).mono ?_
        rintro e w7 ⟨rfl, hb7⟩
        have Kg7 := hide (Kg6.out.keep hb7)
        have Ky7 := hide (Ky6.out.keep hb7)
        have B7 := hide (B6.out.trans (hb7.mono B6.out.size))
        clear hb7 Kg6 Ky6 B6
        by_cases hz : 16384 < F.siz n
        · have HE := hide (HC.out.trans ((if_neg HX.out).trans (if_pos hz)))
          go_wp2
          go_ret
          exact ⟨by rw [HE.out]; rfl, B7.out⟩
        · have HE := hide (HC.out.trans ((if_neg HX.out).trans (if_neg hz)))
          go_wp2
          go_ret
          exact ⟨by rw [HE.out]; rfl, B7.out⟩
end Go.Proofs.Ytighhdgaaelcdaa
