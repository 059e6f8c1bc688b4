/-
  Layer 9: whether a frame's numbers are in range (inRange); how many bytes its payload has (size).
-/
import Derived.Test.YtighhdgaaelcdaaFrFits
import Derived.Deep.RegionHeld3
namespace Go.Proofs.Ytighhdgaaelcdaa
set_option linter.unusedSimpArgs false
set_option linter.unusedVariables false
open Go.RowKit

theorem inB_iff (F : Fr) : F.inB = true ↔ 0 ≤ F.st ∧ F.st ≤ 2147483647 ∧ 0 ≤ F.dep ∧ F.dep ≤ 2147483647 ∧ 0 ≤ F.last ∧ F.last ≤ 2147483647 ∧ 0 ≤ F.inc ∧ F.inc ≤ 2147483647 ∧ 0 ≤ F.pad ∧ F.pad ≤ 255 := by
  simp [Fr.inB, inS, and_assoc]
/-- The first k of the four numbers are in range. -/
def rngK (F : Fr) (k : Nat) : Prop := (0 < k → 0 ≤ F.st ∧ F.st ≤ 2147483647) ∧ (1 < k → 0 ≤ F.dep ∧ F.dep ≤ 2147483647) ∧ (2 < k → 0 ≤ F.last ∧ F.last ≤ 2147483647) ∧ (3 < k → 0 ≤ F.inc ∧ F.inc ≤ 2147483647)
theorem inB_no0 (F : Fr) (h : F.st < 0) : F.inB = false := by
  rw [← Bool.not_eq_true, inB_iff]; omega
theorem inB_hi0 (F : Fr) (h : 2147483647 < F.st) : F.inB = false := by
  rw [← Bool.not_eq_true, inB_iff]; omega
theorem rngK_0 {F : Fr} (h : rngK F 0) (a : 0 ≤ F.st) (b : F.st ≤ 2147483647) : rngK F 1 := by
  unfold rngK at *; omega
theorem inB_no1 (F : Fr) (h : F.dep < 0) : F.inB = false := by
  rw [← Bool.not_eq_true, inB_iff]; omega
theorem inB_hi1 (F : Fr) (h : 2147483647 < F.dep) : F.inB = false := by
  rw [← Bool.not_eq_true, inB_iff]; omega
theorem rngK_1 {F : Fr} (h : rngK F 1) (a : 0 ≤ F.dep) (b : F.dep ≤ 2147483647) : rngK F 2 := by
  unfold rngK at *; omega
theorem inB_no2 (F : Fr) (h : F.last < 0) : F.inB = false := by
  rw [← Bool.not_eq_true, inB_iff]; omega
theorem inB_hi2 (F : Fr) (h : 2147483647 < F.last) : F.inB = false := by
  rw [← Bool.not_eq_true, inB_iff]; omega
theorem rngK_2 {F : Fr} (h : rngK F 2) (a : 0 ≤ F.last) (b : F.last ≤ 2147483647) : rngK F 3 := by
  unfold rngK at *; omega
theorem inB_no3 (F : Fr) (h : F.inc < 0) : F.inB = false := by
  rw [← Bool.not_eq_true, inB_iff]; omega
theorem inB_hi3 (F : Fr) (h : 2147483647 < F.inc) : F.inB = false := by
  rw [← Bool.not_eq_true, inB_iff]; omega
theorem rngK_3 {F : Fr} (h : rngK F 3) (a : 0 ≤ F.inc) (b : F.inc ≤ 2147483647) : rngK F 4 := by
  unfold rngK at *; omega

set_option maxHeartbeats 3200000 in
theorem fr_inRange (F : Fr) (A : Option Addr) (n c : Nat) (w : World) :
    Calls Try.prog 27 #[.agg (F.cs A n c)] w fun e w' => e = .returned (.bool F.inB) ∧ Below w.heap.size w w' := by
  obtain ⟨_, _, q2, _, q4, q5, _, _, _, q9, q10, _⟩ := fr_qs F A n c
  generalize F.cs A n c = cs at *
  go_enter Try.func27, Try.ntmps27
  go_wp2_with fail
  go_loop [15] (fun j => ∃ (k : Nat), j = .int .i64 (k : Int) ∧ k ≤ 4 ∧ rngK F k) (fun j => 4 - (intOf j).toNat)
  case atStart => exact ⟨0, rfl, by omega, by simp [rngK]⟩
  case round =>
    obtain ⟨k, rfl, hk, hr⟩ := hrel
    have HR := hide hr
    clear hr
    have h4 : k = 0 ∨ k = 1 ∨ k = 2 ∨ k = 3 ∨ k = 4 := by omega
    clear hk
    rcases h4 with rfl | rfl | rfl | rfl | rfl
    · by_cases lo : F.st < 0
      · have hno := hide (inB_no0 F lo)
        go_wp2
        go_ret
        exact ⟨by rw [hno.out]; rfl, below_two⟩
      by_cases hi : 2147483647 < F.st
      · have hno := hide (inB_hi0 F hi)
        go_wp2
        go_ret
        exact ⟨by rw [hno.out]; rfl, below_two⟩
      have HS := hide (show rngK F 1 from rngK_0 HR.out (by omega) (by omega))
      go_wp2
      go_round
      case rel => exact ⟨1, rfl, by omega, HS.out⟩
      case measure => simp [intOf]
    · by_cases lo : F.dep < 0
      · have hno := hide (inB_no1 F lo)
        go_wp2
        go_ret
        exact ⟨by rw [hno.out]; rfl, below_two⟩
      by_cases hi : 2147483647 < F.dep
      · have hno := hide (inB_hi1 F hi)
        go_wp2
        go_ret
        exact ⟨by rw [hno.out]; rfl, below_two⟩
      have HS := hide (show rngK F 2 from rngK_1 HR.out (by omega) (by omega))
      go_wp2
      go_round
      case rel => exact ⟨2, rfl, by omega, HS.out⟩
      case measure => simp [intOf]
    · by_cases lo : F.last < 0
      · have hno := hide (inB_no2 F lo)
        go_wp2
        go_ret
        exact ⟨by rw [hno.out]; rfl, below_two⟩
      by_cases hi : 2147483647 < F.last
      · have hno := hide (inB_hi2 F hi)
        go_wp2
        go_ret
        exact ⟨by rw [hno.out]; rfl, below_two⟩
      have HS := hide (show rngK F 3 from rngK_2 HR.out (by omega) (by omega))
      go_wp2
      go_round
      case rel => exact ⟨3, rfl, by omega, HS.out⟩
      case measure => simp [intOf]
    · by_cases lo : F.inc < 0
      · have hno := hide (inB_no3 F lo)
        go_wp2
        go_ret
        exact ⟨by rw [hno.out]; rfl, below_two⟩
      by_cases hi : 2147483647 < F.inc
      · have hno := hide (inB_hi3 F hi)
        go_wp2
        go_ret
        exact ⟨by rw [hno.out]; rfl, below_two⟩
      have HS := hide (show rngK F 4 from rngK_3 HR.out (by omega) (by omega))
      go_wp2
      go_round
      case rel => exact ⟨4, rfl, by omega, HS.out⟩
      case measure => simp [intOf]
    · by_cases lo : F.pad < 0
      · have hno := hide (show F.inB = false by rw [← Bool.not_eq_true, inB_iff]; omega)
        go_wp2
        go_ret
        exact ⟨by rw [hno.out]; rfl, below_two⟩
      have p0 : 0 ≤ F.pad := by omega
      by_cases hi : 255 < F.pad
      · have hno := hide (show F.inB = false by rw [← Bool.not_eq_true, inB_iff]; omega)
        go_wp2
        go_ret
        refine ⟨?_, below_two⟩
        rw [hno.out]
        show Ending.returned (.bool (decide (F.pad ≤ 255))) = _
        rw [decide_eq_false (by omega)]
      have hyes := hide (show F.inB = true by have := HR.out; unfold rngK at this; rw [inB_iff]; omega)
      go_wp2
      go_ret
      exact ⟨by rw [hyes.out]; rfl, below_two⟩

/-- How many bytes a payload has. -/
def sizV (p d l c i : Bool) (F : Fr) (n : Nat) : Int := fixN d l c i + 6 * (n : Int) + (F.data.size : Int) + F.pad + (if p then 1 else 0)
theorem fr_cells5 {w : World} {g : Nat} {t : TypeId} {F : Fr} {A : Option Addr} {n c : Nat} (h : BlkIs w g t (F.cs A n c)) :
    w.cell? ⟨g, 11, none⟩ = some (.slice A n c) ∧ w.cell? ⟨g, 3, none⟩ = some (.string F.data) ∧ w.cell? ⟨g, 4, none⟩ = some (.int .i64 F.pad) := ⟨h.cell 11, h.cell 3, h.cell 4⟩

/-- What size reads. -/
structure SizS (w : World) (g : Nat) (s : Value) (st : ByteArray) (pad : Int) (p d l c0 i r x : Bool) : Prop where
  lt : g + 1 < w.heap.size
  f11 : w.cell? ⟨g, 11, none⟩ = some s
  f3 : w.cell? ⟨g, 3, none⟩ = some (.string st)
  f4 : w.cell? ⟨g, 4, none⟩ = some (.int .i64 pad)
  sh : BlkIs w (g + 1) 65 #[.bool p, .bool d, .bool l, .bool c0, .bool i, .bool r, .bool x]
section
variable {w w' : World} {g : Nat} {s : Value} {st : ByteArray} {pad : Int} {p d l c0 i r x : Bool}
theorem SizS.facts (h : SizS w g s st pad p d l c0 i r x) : w.cell? ⟨g, 11, none⟩ = some s ∧ w.cell? ⟨g, 3, none⟩ = some (.string st) ∧ w.cell? ⟨g, 4, none⟩ = some (.int .i64 pad) ∧ w.cell? ⟨g + 1, 0, none⟩ = some (.bool p) ∧ w.cell? ⟨g + 1, 1, none⟩ = some (.bool d) ∧ w.cell? ⟨g + 1, 2, none⟩ = some (.bool l) ∧ w.cell? ⟨g + 1, 3, none⟩ = some (.bool c0) ∧ w.cell? ⟨g + 1, 4, none⟩ = some (.bool i) ∧ w.cell? ⟨g + 1, 5, none⟩ = some (.bool r) ∧ w.cell? ⟨g + 1, 6, none⟩ = some (.bool x) :=
  ⟨h.f11, h.f3, h.f4, sh_cells h.sh⟩
theorem SizS.drew (h : SizS w g s st pad p d l c0 i r x) : SizS w.drew g s st pad p d l c0 i r x := ⟨h.lt, h.f11, h.f3, h.f4, h.sh⟩
theorem SizS.keep (h : SizS w g s st pad p d l c0 i r x) (hb : Below w.heap.size w w') : SizS w' g s st pad p d l c0 i r x :=
  ⟨Nat.lt_of_lt_of_le h.lt hb.size, (hb.cell (p := ⟨g, 11, none⟩) (by have := h.lt; simp; omega)).trans h.f11, (hb.cell (p := ⟨g, 3, none⟩) (by have := h.lt; simp; omega)).trans h.f3, (hb.cell (p := ⟨g, 4, none⟩) (by have := h.lt; simp; omega)).trans h.f4, h.sh.keep hb⟩
end
theorem siz_start (w : World) {cs : Array Value} {s : Value} {st : ByteArray} {pad : Int} {t : TypeId} (q11 : cs[11]? = some s) (q3 : cs[3]? = some (.string st)) (q4 : cs[4]? = some (.int .i64 pad)) (p d l c0 i r x : Bool) :
    SizS ((w.alloc (.cells cs t)).alloc (.cells #[.bool p, .bool d, .bool l, .bool c0, .bool i, .bool r, .bool x] 65)) w.heap.size s st pad p d l c0 i r x ∧
    Below w.heap.size w ((w.alloc (.cells cs t)).alloc (.cells #[.bool p, .bool d, .bool l, .bool c0, .bool i, .bool r, .bool x] 65)) := by
  have h0 := (BlkIs.new w t cs).alloc (.cells #[.bool p, .bool d, .bool l, .bool c0, .bool i, .bool r, .bool x] 65)
  exact ⟨⟨by simp, (h0.cell 11).trans q11, (h0.cell 3).trans q3, (h0.cell 4).trans q4, blk_two⟩, below_two⟩

set_option maxRecDepth 100000 in
set_option maxHeartbeats 1600000 in
theorem fr_size (p d l c0 i r x : Bool) (F : Fr) (A : Option Addr) (n c : Nat) (hn : (n : Int) ≤ 150000000000000) (hs : (F.data.size : Int) ≤ 150000000000000) (p0 : 0 ≤ F.pad) (p1 : F.pad ≤ 255) (w : World) :
    Calls Try.prog 29 #[.agg (F.cs A n c), .agg #[.bool p, .bool d, .bool l, .bool c0, .bool i, .bool r, .bool x]] w fun e w' => e = .returned (.int .i64 (sizV p d l c0 i F n)) ∧ Below w.heap.size w w' := by
  have HF := hide (fun w => fr_fixed p d l c0 i r x w)
  have hbd := fixN_bd d l c0 i
  have HS := hide (show sizV p d l c0 i F n = fixN d l c0 i + 6 * (n : Int) + (F.data.size : Int) + F.pad + (if p then 1 else 0) from rfl)
  obtain ⟨N, hN⟩ : ∃ N, N = fixN d l c0 i := ⟨_, rfl⟩
  rw [← hN] at HF hbd HS
  obtain ⟨nb0, nb1⟩ := hbd
  clear hN
  obtain ⟨_, _, _, q3, q4, _, _, _, _, _, _, q11⟩ := fr_qs F A n c
  have e1 : IntKind.i64.wrap (6 * (n : Int)) = 6 * (n : Int) := IntWalk.i64_in _ (by omega)
  have e2 : IntKind.i64.wrap (N + 6 * (n : Int)) = N + 6 * (n : Int) := IntWalk.i64_in _ (by omega)
  have e3 : IntKind.i64.wrap (N + 6 * (n : Int) + (F.data.size : Int)) = N + 6 * (n : Int) + (F.data.size : Int) := IntWalk.i64_in _ (by omega)
  have e4 : IntKind.i64.wrap (N + 6 * (n : Int) + (F.data.size : Int) + F.pad) = N + 6 * (n : Int) + (F.data.size : Int) + F.pad := IntWalk.i64_in _ (by omega)
  have HE := hide (And.intro e1 (And.intro e2 (And.intro e3 e4)))
  clear e1 e2 e3 e4
  generalize F.cs A n c = cs at *
  have HW := hide (siz_start (t := 34) w q11 q3 q4 p d l c0 i r x)
  have hw2 := hide (show (w.heap.size + 1) = (w.heap.size + 1) from rfl)
  clear q3 q4 q11
  go_enter Try.func29, Try.ntmps29
  go_wp2_with fail
  obtain ⟨S2, B2⟩ := HW.out
  generalize (w.alloc (.cells cs 34)).alloc (.cells #[.bool p, .bool d, .bool l, .bool c0, .bool i, .bool r, .bool x] 65) = w2 at S2 B2 ⊢
  obtain ⟨g, hg⟩ : ∃ g, g = w.heap.size := ⟨_, rfl⟩
  have HB2 := hide B2
  rw [← hg] at S2 ⊢
  have HG := hide hg
  clear hg B2 HW hw2
  have S0 := hide S2
  obtain ⟨e1, e2, e3, e4⟩ := HE.out
  clear S2
  go_region_held3 (fun w' => w'.cell? ⟨g, 11, none⟩ = some (.slice A n c) ∧ w'.cell? ⟨g, 3, none⟩ = some (.string F.data) ∧ w'.cell? ⟨g, 4, none⟩ = some (.int .i64 F.pad) ∧ w'.cell? ⟨g + 1, 0, none⟩ = some (.bool p) ∧ w'.cell? ⟨g + 1, 1, none⟩ = some (.bool d) ∧ w'.cell? ⟨g + 1, 2, none⟩ = some (.bool l) ∧ w'.cell? ⟨g + 1, 3, none⟩ = some (.bool c0) ∧ w'.cell? ⟨g + 1, 4, none⟩ = some (.bool i) ∧ w'.cell? ⟨g + 1, 5, none⟩ = some (.bool r) ∧ w'.cell? ⟨g + 1, 6, none⟩ = some (.bool x))
    (first | exact (S0.out.drew).facts | exact S3.out.facts)
    (first | (go_at_call 32; refine (HF.out _).mono ?_; rintro e w3 ⟨rfl, hb3⟩; have S3 := hide (S0.out.drew.keep hb3); have HB3 := hide (HB2.out.drew.trans (hb3.mono HB2.out.size)); clear hb3))
  have hp := S3.out.sh.cell 0
  simp only [List.getElem?_toArray, List.getElem?_cons_zero] at hp
  clear e1 e2 e3 e4 HE
  obtain ⟨T, hT⟩ : ∃ T, T = N + 6 * (n : Int) + (F.data.size : Int) + F.pad := ⟨_, rfl⟩
  have t0 : 0 ≤ T := by omega
  have t1 : T ≤ 2000000000000000 := by omega
  rw [← hT] at HS ⊢
  clear hT S3 S0
  cases p
  · go_wp2
    go_ret
    exact ⟨ret_num (by rw [HS.out]; simp), HB3.out⟩
  · go_wp2
    go_ret
    exact ⟨ret_num (by rw [HS.out]; simp), HB3.out⟩
end Go.Proofs.Ytighhdgaaelcdaa
