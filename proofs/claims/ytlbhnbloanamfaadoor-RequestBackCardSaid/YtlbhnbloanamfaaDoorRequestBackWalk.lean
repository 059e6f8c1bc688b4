/-
  RequestBack: its walk (written by gen17back.py).
-/
import Derived.Test.YtlbhnbloanamfaaDoorRqAwake
import Derived.Test.YtlbhnbloanamfaaDoorRqBack
import Derived.Test.YtlbhnbloanamfaaDoorFdLight
import Derived.Test.YtlbhnbloanamfaaDoorFdKeep
import Derived.Test.YtlbhnbloanamfaaDoorTxMem
import Derived.Test.YtlbhnbloanamfaaDoorRegW
import Derived.BigGuardPart
namespace Go.Proofs.YtlbhnbloanamfaaDoor.requestBack
set_option linter.unusedSimpArgs false
set_option linter.unusedVariables false
open Go.RowKit

theorem mod_light {l : List Fd} (h : lightB l = true) : Mod l := by
  unfold lightB at h
  rw [Bool.and_eq_true, decide_eq_true_eq, List.all_eq_true] at h
  refine ⟨by omega, fun f hf => ?_⟩
  have := h.2 f hf
  unfold smallB at this
  rw [Bool.and_eq_true, decide_eq_true_eq, decide_eq_true_eq] at this
  omega
theorem ansV_no {l : List Fd} {e : Bool} (h : readR l e = none) : ansV (readR l e) = .tuple #[.agg #[.string ⟨#[]⟩, .string ⟨#[]⟩, .string ⟨#[]⟩, .string ⟨#[]⟩, .int .i64 0, .int .i64 0], .bool false] := by rw [h]; rfl
theorem ansV_yes {l : List Fd} {e : Bool} {q : Rq} (h : readR l e = some q) : ansV (readR l e) = .tuple #[.agg #[.string q.m, .string q.s, .string q.p, .string q.h, .int .i64 q.n, .int .i64 q.r], .bool true] := by rw [h]; rfl
theorem read_sizes {l : List Fd} {e : Bool} {q : Rq} (hm : Mod l) (h : readR l e = some q) : (q.m.size : Int) ≤ 100000 ∧ (q.s.size : Int) ≤ 100000 ∧ (q.p.size : Int) ≤ 100000 ∧ (q.h.size : Int) ≤ 100000 := by
  unfold readR at h
  cases hl : lenR (tlL l) with
  | none => rw [hl] at h; cases h
  | some n =>
    rw [hl] at h
    simp only at h
    split at h
    · injection h with h
      subst h
      exact ⟨hm.hd.fst nM, hm.hd.fst nS, hm.hd.fst nP, host_size hm⟩
    · cases h
theorem itoa_20 {n : Int} (h0 : -1 ≤ n) (h1 : n ≤ 999999999) : (itoaB n).size ≤ 1000 := by
  by_cases h : n = -1
  · subst h
    unfold itoaB Lib.itoa
    rw [if_pos (by omega), show (-1 : Int).natAbs = 1 from rfl, Lib.decDigits_one (by omega)]
    decide
  · obtain ⟨m, rfl⟩ : ∃ m : Nat, n = m := ⟨n.toNat, by omega⟩
    have := itoa_len 12 m (by omega)
    omega
theorem mod_fields {q : Rq} (h : Good q) (hs : (q.m.size : Int) ≤ 100000 ∧ (q.s.size : Int) ≤ 100000 ∧ (q.p.size : Int) ≤ 100000 ∧ (q.h.size : Int) ≤ 100000) {X : List Fd} (hx : X.length ≤ 10) (hX : ∀ f ∈ X, (f.n.size : Int) ≤ 100000 ∧ (f.v.size : Int) ≤ 100000) : Mod (fieldsL q ++ X) ∧ (fieldsL q).length ≤ 6 ∧ 0 < (fieldsL q).length := by
  have hl : ∀ (c : Prop) [Decidable c] (f : Fd), (if c then ([] : List Fd) else [f]).length ≤ 1 := fun c _ f => by split <;> simp
  have h1 := hl (q.h = bNil) ⟨nA, q.h, false⟩
  have h2 := hl (q.n < 0) ⟨nLen, itoaB q.n, false⟩
  have h3 := hl (q.r = 3) ⟨nPrio, uEq ++ itoaB q.r, false⟩
  have hln : (fieldsL q).length ≤ 6 ∧ 0 < (fieldsL q).length := by
    unfold fieldsL
    simp only [List.length_append, List.length_cons, List.length_nil]
    omega
  refine ⟨⟨by rw [List.length_append]; omega, fun f hf => ?_⟩, hln⟩
  rw [List.mem_append] at hf
  rcases hf with hf | hf
  · unfold fieldsL at hf
    simp only [List.mem_append, List.mem_cons, List.not_mem_nil, or_false] at hf
    rcases hf with (rfl | rfl | rfl) | hf | hf | hf
    · exact ⟨show ((nM.size : Nat) : Int) ≤ 100000 by decide, hs.1⟩
    · exact ⟨show ((nS.size : Nat) : Int) ≤ 100000 by decide, hs.2.1⟩
    · exact ⟨show ((nP.size : Nat) : Int) ≤ 100000 by decide, hs.2.2.1⟩
    · split at hf
      · cases hf
      · simp at hf; subst hf; exact ⟨show ((nA.size : Nat) : Int) ≤ 100000 by decide, hs.2.2.2⟩
    · split at hf
      · cases hf
      · simp at hf; subst hf; exact ⟨show ((nLen.size : Nat) : Int) ≤ 100000 by decide, by have := itoa_20 h.nlo h.nhi; show ((itoaB q.n).size : Int) ≤ 100000; omega⟩
    · split at hf
      · cases hf
      · simp at hf; subst hf
        refine ⟨show ((nPrio.size : Nat) : Int) ≤ 100000 by decide, ?_⟩
        have := itoa_20 (n := q.r) (by have := h.rlo; omega) (by have := h.rhi; omega)
        have e : (uEq ++ itoaB q.r).size = uEq.size + (itoaB q.r).size := ByteArray.size_append
        have e2 : uEq.size = 2 := rfl
        show ((uEq ++ itoaB q.r).size : Int) ≤ 100000
        omega
  · exact hX f hf

/-- What stands behind the first reading. -/
structure BkS (w0 : World) (Q : Nat) (cq : Array Value) (base g n c : Nat) (l : List Fd) (w : World) : Prop where
  b : Below w0.heap.size w0 w
  q : BlkIs w Q 26 cq
  o : w.ownsRow base 42 3 (.slice (some ⟨g, 0, none⟩) n c) n (fcs l)
  lo : w0.heap.size ≤ base
  bs : base ≤ w.heap.size
theorem BkS.keep {w0 w w' : World} {Q : Nat} {cq : Array Value} {base g n c : Nat} {l : List Fd} (h : BkS w0 Q cq base g n c l w) (hb : Below w.heap.size w w') : BkS w0 Q cq base g n c l w' :=
  ⟨h.b.trans (hb.mono h.b.size), h.q.keep hb, own_lowF h.o hb, h.lo, Nat.le_trans h.bs hb.size⟩
theorem BkS.fl {w0 w : World} {Q : Nat} {cq : Array Value} {base g n c : Nat} {l : List Fd} (h : BkS w0 Q cq base g n c l w) : FL w (some ⟨g, 0, none⟩) n c l := FL.of_own h.o
theorem BkS.grow {w0 w w' : World} {Q : Nat} {cq : Array Value} {base g n c : Nat} {l : List Fd} (h : BkS w0 Q cq base g n c l w) (ho : w'.ownsRow base 42 3 (.slice (some ⟨g, 0, none⟩) n c) n (fcs l)) (hg : w.grownBy w' (some g)) : BkS w0 Q cq base g n c l w' :=
  ⟨own_below_f h.o h.b h.lo (Nat.le_refl _) hg, h.q.grown hg (fun e => by
    injection e with e
    subst e
    rcases h.o.2 with ⟨z, _⟩ | ⟨k, cap, cur, z, _, c, _⟩
    · cases z
    · injection z with z1 _ _
      injection z1 with z1
      injection z1 with z1
      subst z1
      have hq := h.q
      unfold BlkIs at hq
      rw [hq] at c
      injection c with c
      injection c with _ ht
      cases ht), ho, h.lo, Nat.le_trans h.bs hg.size⟩

set_option maxRecDepth 100000 in
set_option maxHeartbeats 6400000 in
theorem walk (A : Option Addr) (n c : Nat) (l : List Fd) (en : Bool) (more : ByteArray) (w : World) (ht : TabOk w) (hfl : FL w A n c l) (_hz : more.size ≤ maxLen) :
    Calls Tryd.prog 6 #[.slice A n c, .bool en, .string more] w fun e w' => e = .returned (.bool true) ∧ Below w.heap.size w w' := by
  have HT := hide ht
  have HFL := hide hfl
  have HLT := hide (rf_Light A n c l w hfl)
  obtain ⟨lt, hlt⟩ : ∃ x, x = lightB l := ⟨_, rfl⟩
  rw [← hlt] at HLT
  have HLB := hide hlt.symm
  clear ht hfl hlt _hz
  by_cases hgo : lt = false ∨ (60 : Int) < (more.size : Int)
  · have hcase : lt = false ∨ (lt = true ∧ (60 : Int) < (more.size : Int)) := by
      cases lt
      · exact .inl rfl
      · exact .inr ⟨rfl, hgo.resolve_left (by decide)⟩
    clear hgo
    rcases hcase with rfl | ⟨rfl, h60⟩
    all_goals
      go_enter Tryd.func6, Tryd.ntmps6
      go_wp2_with fail
      refine HLT.out.mono ?_
      rintro e w1 ⟨rfl, rfl⟩
      clear HLT HFL
      go_wp2_with fail
      refine (aw_awake _ HT.out).mono ?_
      rintro e w4 ⟨rfl, hb⟩
      have HB4 := hide hb
      clear hb
      go_wp2_with fail
      go_ret
      exact ⟨rfl, HB4.out⟩
  · obtain rfl : lt = true := by cases lt <;> simp_all
    have h60 : ¬ (60 : Int) < (more.size : Int) := fun h => hgo (.inr h)
    have HM := hide (mod_light HLB.out)
    have HA := hide (fun w h => rq_Read A n c l en w h HM.out)
    clear hgo HLB
    cases hr : readR l en with
    | none =>
      rw [ansV_no hr] at HA
      clear hr
      go_enter Tryd.func6, Tryd.ntmps6
      go_wp2_with fail
      refine HLT.out.mono ?_
      rintro e w1 ⟨rfl, rfl⟩
      clear HLT
      go_wp2_with fail
      refine (HA.out _ HFL.out).mono ?_
      rintro e w2 ⟨rfl, hb2⟩
      have HB2 := hide (hb2.trans ((bel1 w2 (.cells #[.string ⟨#[]⟩, .string ⟨#[]⟩, .string ⟨#[]⟩, .string ⟨#[]⟩, .int .i64 0, .int .i64 0] 26)).mono hb2.size))
      have HQ2 := hide (BlkIs.new w2 26 #[.string ⟨#[]⟩, .string ⟨#[]⟩, .string ⟨#[]⟩, .string ⟨#[]⟩, .int .i64 0, .int .i64 0])
      clear hb2 HA
      go_upto_region 4 with (fail)
      obtain ⟨W2, hW⟩ : ∃ W, W = w2.alloc (.cells #[.string ⟨#[]⟩, .string ⟨#[]⟩, .string ⟨#[]⟩, .string ⟨#[]⟩, .int .i64 0, .int .i64 0] 26) := ⟨_, rfl⟩
      obtain ⟨Q1, hg⟩ : ∃ g, g = w2.heap.size := ⟨_, rfl⟩
      rw [← hW] at HB2 HQ2 ⊢
      rw [← hg] at HQ2 ⊢
      clear hW hg
      have k0 := HQ2.out.cell 0
      have k1 := HQ2.out.cell 1
      have k2 := HQ2.out.cell 2
      have k3 := HQ2.out.cell 3
      have k4 := HQ2.out.cell 4
      have k5 := HQ2.out.cell 5
      simp only [List.getElem?_toArray, List.getElem?_cons_zero, List.getElem?_cons_succ] at k0 k1 k2 k3 k4 k5
      go_wp2_with fail
      refine (aw_awake _ (HT.out.keep HB2.out)).mono ?_
      rintro e w4 ⟨rfl, hb⟩
      have HB4 := hide (HB2.out.trans (hb.mono HB2.out.size))
      clear hb
      go_wp2_with fail
      go_ret
      exact ⟨rfl, HB4.out⟩
    | some q =>
      obtain ⟨hgood, hen⟩ := read_good hr
      have hsz := read_sizes HM.out hr
      have hN : (-9223372036854775808 : Int) ≤ q.n ∧ q.n ≤ 9223372036854775807 ∧ (-9223372036854775808 : Int) ≤ q.r ∧ q.r ≤ 9223372036854775807 := by
        have h1 := hgood.nlo
        have h2 := hgood.nhi
        have h3 := hgood.rlo
        have h4 := hgood.rhi
        omega
      have hms : (more.size : Int) ≤ 60 := by omega
      have e1 : ((⟨#[120, 45]⟩ : ByteArray) ++ more).size = 2 + more.size := ByteArray.size_append
      have e2 : ((⟨#[58]⟩ : ByteArray) ++ more).size = 1 + more.size := ByteArray.size_append
      have m0 := mod_fields hgood hsz (X := []) (by simp) (fun f hf => by cases hf)
      have m1 := mod_fields hgood hsz (X := [⟨((⟨#[120, 45]⟩ : ByteArray) ++ more), ⟨#[121]⟩, false⟩]) (by simp) (fun f hf => by simp at hf; subst hf; exact ⟨by (show (((⟨#[120, 45]⟩ : ByteArray) ++ more).size : Int) ≤ 100000); omega, show (((⟨#[121]⟩ : ByteArray).size : Nat) : Int) ≤ 100000 by decide⟩)
      have m2 := mod_fields hgood hsz (X := [⟨⟨#[120]⟩, ⟨#[121]⟩, false⟩, ⟨((⟨#[58]⟩ : ByteArray) ++ more), ⟨#[121]⟩, false⟩]) (by simp) (fun f hf => by
        simp at hf
        rcases hf with rfl | rfl
        · exact ⟨by decide, by decide⟩
        · exact ⟨by (show (((⟨#[58]⟩ : ByteArray) ++ more).size : Int) ≤ 100000); omega, show (((⟨#[121]⟩ : ByteArray).size : Nat) : Int) ≤ 100000 by decide⟩)
      have r0 : readR (fieldsL q) en = some q := by
        have := read_back hgood hen (X := []) ⟨fun f hf => (by cases hf), rfl, rfl, rfl, rfl⟩ rfl
        rw [List.append_nil] at this
        exact this
      have r1 := read_x hgood hen more
      have r2 := read_c (q := q) (e := en) more
      rw [show xMore more = ((⟨#[120, 45]⟩ : ByteArray) ++ more) from rfl, show bY = ⟨#[121]⟩ from rfl] at r1
      rw [show cMore more = ((⟨#[58]⟩ : ByteArray) ++ more) from rfl, show bY = ⟨#[121]⟩ from rfl, show bX = ⟨#[120]⟩ from rfl] at r2
      rw [List.append_nil] at m0
      have HR0 := hide (fun A n c w h => rq_Read A n c (fieldsL q) en w h m0.1)
      rw [ansV_yes r0] at HR0
      have HR1 := hide (fun A n c w h => rq_Read A n c (fieldsL q ++ [⟨((⟨#[120, 45]⟩ : ByteArray) ++ more), ⟨#[121]⟩, false⟩]) en w h m1.1)
      have HR2 := hide (fun A n c w h => rq_Read A n c (fieldsL q ++ [⟨⟨#[120]⟩, ⟨#[121]⟩, false⟩, ⟨((⟨#[58]⟩ : ByteArray) ++ more), ⟨#[121]⟩, false⟩]) en w h m2.1)
      rw [ansV_no r2] at HR2
      have HTR := hide (fun A n c w h => rq_Trailers A n c (fieldsL q) w h m0.1)
      rw [fields_trail] at HTR
      have HFI := hide (fun w h => rq_Fields q w h hN.1 hN.2.1 hN.2.2.1 hN.2.2.2)
      have HTG := hide (fun w => rg_Token q.m (by omega) w)
      have HTP := hide (fun w => rq_Token q.m (by omega) w)
      have HTX := hide (fun w => rq_Token ((⟨#[120, 45]⟩ : ByteArray) ++ more) (by omega) w)
      obtain ⟨tm, htm⟩ : ∃ x, x = tokB q.m := ⟨_, rfl⟩
      rw [← htm] at HTG HTP
      have HL6 := hide m0.2
      rw [ansV_yes hr] at HA
      unfold GivesFl at HFI
      obtain ⟨tx, htx⟩ : ∃ x, x = tokB ((⟨#[120, 45]⟩ : ByteArray) ++ more) := ⟨_, rfl⟩
      rw [show tokB ((⟨#[120, 45]⟩ : ByteArray) ++ more) = tx from htx.symm] at r1 HTX
      have HX1 := hide (show ansV (readR (fieldsL q ++ [⟨((⟨#[120, 45]⟩ : ByteArray) ++ more), ⟨#[121]⟩, false⟩]) en) = if tx = true then .tuple #[.agg #[.string q.m, .string q.s, .string q.p, .string q.h, .int .i64 q.n, .int .i64 q.r], .bool true] else .tuple #[.agg #[.string ⟨#[]⟩, .string ⟨#[]⟩, .string ⟨#[]⟩, .string ⟨#[]⟩, .int .i64 0, .int .i64 0], .bool false] by
        rw [r1]
        cases tx <;> rfl)
      rw [HX1.out] at HR1
      clear HX1 r0 r1 r2 m0 m1 m2 hr hgood hen hsz hN htm htx hms
      generalize fieldsL q = L at HR0 HR1 HR2 HTR HFI HL6
      obtain ⟨x0, x1, x2, x3, x4, x5⟩ := q
      simp only at HA HR0 HR1 HFI
      have s0 := str_same (rfl : x0 = x0)
      have s1 := str_same (rfl : x1 = x1)
      have s2 := str_same (rfl : x2 = x2)
      have s3 := str_same (rfl : x3 = x3)
      obtain ⟨n9, hn9⟩ : ∃ n9, n9 = L.length := ⟨_, rfl⟩
      rw [← hn9] at HFI HL6
      clear hn9
      go_enter Tryd.func6, Tryd.ntmps6
      go_wp2_with fail
      refine HLT.out.mono ?_
      rintro e w1 ⟨rfl, rfl⟩
      clear HLT
      go_wp2_with fail
      refine (HA.out _ HFL.out).mono ?_
      rintro e w2 ⟨rfl, hb2⟩
      have HB2 := hide (hb2.trans ((bel1 w2 (.cells #[.string x0, .string x1, .string x2, .string x3, .int .i64 x4, .int .i64 x5] 26)).mono hb2.size))
      have HQ2 := hide (BlkIs.new w2 26 #[.string x0, .string x1, .string x2, .string x3, .int .i64 x4, .int .i64 x5])
      clear hb2 HA HFL
      go_upto_region 4 with (fail)
      obtain ⟨W2, hW⟩ : ∃ W, W = w2.alloc (.cells #[.string x0, .string x1, .string x2, .string x3, .int .i64 x4, .int .i64 x5] 26) := ⟨_, rfl⟩
      obtain ⟨Q1, hg⟩ : ∃ g, g = w2.heap.size := ⟨_, rfl⟩
      rw [← hW] at HB2 HQ2 ⊢
      rw [← hg] at HQ2 ⊢
      clear hW hg
      have k0 := HQ2.out.cell 0
      have k1 := HQ2.out.cell 1
      have k2 := HQ2.out.cell 2
      have k3 := HQ2.out.cell 3
      have k4 := HQ2.out.cell 4
      have k5 := HQ2.out.cell 5
      simp only [List.getElem?_toArray, List.getElem?_cons_zero, List.getElem?_cons_succ] at k0 k1 k2 k3 k4 k5
      go_wp2_with fail
      refine (HFI.out _ (HT.out.keep HB2.out)).mono ?_
      rintro e w3 ⟨r, rfl, hown, hb3⟩
      obtain ⟨g9, c9, rfl, hge⟩ := own_some_f hown HL6.out.2
      have HK3 := hide (show BkS w Q1 #[.string x0, .string x1, .string x2, .string x3, .int .i64 x4, .int .i64 x5] W2.heap.size g9 n9 c9 L w3 from ⟨HB2.out.trans (hb3.mono HB2.out.size), HQ2.out.keep hb3, hown, HB2.out.size, hb3.size⟩)
      clear hown hb3 HB2 HQ2 HFI k0 k1 k2 k3 k4 k5 hge
      generalize W2.heap.size = base at HK3
      go_wp2_with fail
      refine (HR0.out _ _ _ _ HK3.out.fl).mono ?_
      rintro e w4 ⟨rfl, hb4⟩
      have HK4 := hide (HK3.out.keep (hb4.trans ((bel1 w4 (.cells #[.string x0, .string x1, .string x2, .string x3, .int .i64 x4, .int .i64 x5] 26)).mono hb4.size)))
      have HP4 := hide (BlkIs.new w4 26 #[.string x0, .string x1, .string x2, .string x3, .int .i64 x4, .int .i64 x5])
      clear hb4 HK3 HR0
      go_upto_region 8 with (fail)
      obtain ⟨W4, hW⟩ : ∃ W, W = w4.alloc (.cells #[.string x0, .string x1, .string x2, .string x3, .int .i64 x4, .int .i64 x5] 26) := ⟨_, rfl⟩
      obtain ⟨Q2, hg⟩ : ∃ g, g = w4.heap.size := ⟨_, rfl⟩
      rw [← hW] at HK4 HP4 ⊢
      rw [← hg] at HP4 ⊢
      clear hW hg
      have k0 := HK4.out.q.cell 0
      have k1 := HK4.out.q.cell 1
      have k2 := HK4.out.q.cell 2
      have k3 := HK4.out.q.cell 3
      have k4 := HK4.out.q.cell 4
      have k5 := HK4.out.q.cell 5
      have j0 := HP4.out.cell 0
      have j1 := HP4.out.cell 1
      have j2 := HP4.out.cell 2
      have j3 := HP4.out.cell 3
      have j4 := HP4.out.cell 4
      have j5 := HP4.out.cell 5
      simp only [List.getElem?_toArray, List.getElem?_cons_zero, List.getElem?_cons_succ] at k0 k1 k2 k3 k4 k5 j0 j1 j2 j3 j4 j5
      go_upto_region 10 with (fail)
      clear k0 k1 k2 k3 k4 k5 j0 j1 j2 j3 j4 j5 HP4
      have hbt := fd_built
      have HF4 := hide (fl_new1 W4 ((⟨#[120, 45]⟩ : ByteArray) ++ more) ⟨#[121]⟩ false)
      have HK4a := hide (HK4.out.keep (bel1 W4 (.cells #[.string ((⟨#[120, 45]⟩ : ByteArray) ++ more), .string ⟨#[121]⟩, .bool false] 42)))
      clear HK4
      cases tx with
      | true =>
        simp only [if_true] at HR1
        go_wp2_with (at_builtin; refine wpList_append_flkeep _ rfl (.tmp 55) (.tmp 59) rfl base g9 n9 c9 L rfl HK4a.out.o ⟨W4.heap.size, 0, none⟩ 1 1 [⟨((⟨#[120, 45]⟩ : ByteArray) ++ more), ⟨#[121]⟩, false⟩] rfl HF4.out (by have := HL6.out.1; omega) HK4a.out.bs ?_; intro v5 w5 hown5 hk5 hg5; obtain ⟨A5, c5, rfl, hfl5⟩ := own_fields hown5; have HFL5 := hide hfl5; have HK5 := hide (HK4a.out.grow hk5 hg5); clear hown5 hk5 hg5 hfl5)
        refine (HR1.out _ _ _ _ HFL5.out).mono ?_
        rintro e w6 ⟨rfl, hb6⟩
        have HK6 := hide (HK5.out.keep (hb6.trans ((bel1 w6 (.cells #[.string x0, .string x1, .string x2, .string x3, .int .i64 x4, .int .i64 x5] 26)).mono hb6.size)))
        have HP6 := hide (BlkIs.new w6 26 #[.string x0, .string x1, .string x2, .string x3, .int .i64 x4, .int .i64 x5])
        clear hb6 HK5 HR1 HFL5 HK4a HF4
        go_upto_region 11 with (fail)
        obtain ⟨W6, hW⟩ : ∃ W, W = w6.alloc (.cells #[.string x0, .string x1, .string x2, .string x3, .int .i64 x4, .int .i64 x5] 26) := ⟨_, rfl⟩
        obtain ⟨Q3, hg⟩ : ∃ g, g = w6.heap.size := ⟨_, rfl⟩
        rw [← hW] at HK6 HP6 ⊢
        rw [← hg] at HP6 ⊢
        clear hW hg
        have HF6 := hide (fl_blk (w := W6.alloc (.cells #[.string ⟨#[120]⟩, .string ⟨#[121]⟩, .bool false, .string ((⟨#[58]⟩ : ByteArray) ++ more), .string ⟨#[121]⟩, .bool false] 42)) (g := W6.heap.size) (l := [⟨⟨#[120]⟩, ⟨#[121]⟩, false⟩, ⟨((⟨#[58]⟩ : ByteArray) ++ more), ⟨#[121]⟩, false⟩]) (n := 2) rfl (by omega) (BlkIs.new W6 42 #[.string ⟨#[120]⟩, .string ⟨#[121]⟩, .bool false, .string ((⟨#[58]⟩ : ByteArray) ++ more), .string ⟨#[121]⟩, .bool false]))
        have HK6a := hide (HK6.out.keep (bel1 W6 (.cells #[.string ⟨#[120]⟩, .string ⟨#[121]⟩, .bool false, .string ((⟨#[58]⟩ : ByteArray) ++ more), .string ⟨#[121]⟩, .bool false] 42)))
        have HP6a := hide (HP6.out.keep (bel1 W6 (.cells #[.string ⟨#[120]⟩, .string ⟨#[121]⟩, .bool false, .string ((⟨#[58]⟩ : ByteArray) ++ more), .string ⟨#[121]⟩, .bool false] 42)))
        clear HK6 HP6
        go_wp2_with (at_builtin; refine wpList_append_flkeep _ rfl (.tmp 66) (.tmp 71) rfl base g9 n9 c9 L rfl HK6a.out.o ⟨W6.heap.size, 0, none⟩ 2 2 [⟨⟨#[120]⟩, ⟨#[121]⟩, false⟩, ⟨((⟨#[58]⟩ : ByteArray) ++ more), ⟨#[121]⟩, false⟩] rfl HF6.out (by have := HL6.out.1; omega) HK6a.out.bs ?_; intro v7 w7 hown7 hk7 hg7; obtain ⟨A7, c7, rfl, hfl7⟩ := own_fields hown7; have HFL7 := hide hfl7; have HP7 := hide (tx_grown_ne HP6a.out hg7 HK6a.out.o (by decide)); have HK7 := hide (HK6a.out.grow hk7 hg7); clear hown7 hk7 hg7 hfl7)
        refine (HR2.out _ _ _ _ HFL7.out).mono ?_
        rintro e w8 ⟨rfl, hb8⟩
        have HK8 := hide (HK7.out.keep (hb8.trans ((bel1 w8 (.cells #[.string ⟨#[]⟩, .string ⟨#[]⟩, .string ⟨#[]⟩, .string ⟨#[]⟩, .int .i64 0, .int .i64 0] 26)).mono hb8.size)))
        have HP8 := hide (HP7.out.keep (hb8.trans ((bel1 w8 (.cells #[.string ⟨#[]⟩, .string ⟨#[]⟩, .string ⟨#[]⟩, .string ⟨#[]⟩, .int .i64 0, .int .i64 0] 26)).mono hb8.size)))
        clear hb8 HK7 HP7 HR2 HFL7 HK6a HP6a HF6
        go_upto_region 12 with (fail)
        obtain ⟨W8, hW⟩ : ∃ W, W = w8.alloc (.cells #[.string ⟨#[]⟩, .string ⟨#[]⟩, .string ⟨#[]⟩, .string ⟨#[]⟩, .int .i64 0, .int .i64 0] 26) := ⟨_, rfl⟩
        obtain ⟨Q4, hg⟩ : ∃ g, g = w8.heap.size := ⟨_, rfl⟩
        rw [← hW] at HK8 HP8 ⊢
        rw [← hg]
        clear hW hg
        go_wp2_with fail
        refine (HTX.out _).mono ?_
        rintro e w9 ⟨rfl, hb9⟩
        have HK9 := hide (HK8.out.keep hb9)
        have HP9 := hide (HP8.out.keep hb9)
        clear hb9 HK8 HP8
        have k0 := HK9.out.q.cell 0
        have k1 := HK9.out.q.cell 1
        have k2 := HK9.out.q.cell 2
        have k3 := HK9.out.q.cell 3
        have k4 := HK9.out.q.cell 4
        have k5 := HK9.out.q.cell 5
        have j0 := HP9.out.cell 0
        have j1 := HP9.out.cell 1
        have j2 := HP9.out.cell 2
        have j3 := HP9.out.cell 3
        have j4 := HP9.out.cell 4
        have j5 := HP9.out.cell 5
        simp only [List.getElem?_toArray, List.getElem?_cons_zero, List.getElem?_cons_succ] at k0 k1 k2 k3 k4 k5 j0 j1 j2 j3 j4 j5
        go_upto_region 14 with (fail)
        clear k0 k1 k2 k3 k4 k5 j0 j1 j2 j3 j4 j5
        obtain ⟨W9, hW9⟩ : ∃ W, W = w9 := ⟨_, rfl⟩
        subst hW9
        refine wp_region_noPanic ?_
        refine wp_region_held_drew (S := fun w' => Below W9.heap.size W9 w') (by kernel_rfl) (Below.refl _ _).drew (fun hS => ?_)
        generalize W9.drew = wd at hS ⊢
        refine wpAnyH_take (i := 0) (v := ?_) (by simp only [List.getElem?_toArray, List.getElem?_cons_succ, List.getElem?_cons_zero] <;> exact rfl) (by kernel_rfl) (by kernel_rfl) (by kernel_rfl) (fun _ _ _ h => h) (Or.inl ⟨by rfl, ?_⟩) hS ?_
        rotate_left
        focus (intro w' hw'; go_simp; all_goals with_reducible rfl)
        try simp only [Act.put, List.setIfInBounds_toArray, List.set_cons_zero, List.set_cons_succ]
        refine wpAnyH_take (i := 1) (v := ?_) (by simp only [List.getElem?_toArray, List.getElem?_cons_succ, List.getElem?_cons_zero] <;> exact rfl) (by kernel_rfl) (by kernel_rfl) (by kernel_rfl) (fun _ _ _ h => h) (Or.inl ⟨by rfl, ?_⟩) hS ?_
        rotate_left
        focus (intro w' hw'; go_simp; all_goals with_reducible rfl)
        try simp only [Act.put, List.setIfInBounds_toArray, List.set_cons_zero, List.set_cons_succ]
        refine wpAnyH_take (i := 2) (v := ?_) (by simp only [List.getElem?_toArray, List.getElem?_cons_succ, List.getElem?_cons_zero] <;> exact rfl) (by kernel_rfl) (by kernel_rfl) (by kernel_rfl) (fun _ _ _ h => h) (Or.inl ⟨by rfl, ?_⟩) hS ?_
        rotate_left
        focus (intro w' hw'; go_simp; all_goals with_reducible rfl)
        try simp only [Act.put, List.setIfInBounds_toArray, List.set_cons_zero, List.set_cons_succ]
        refine wpAnyH_take (i := 3) (v := ?_) (by simp only [List.getElem?_toArray, List.getElem?_cons_succ, List.getElem?_cons_zero] <;> exact rfl) (by kernel_rfl) (by kernel_rfl) (by kernel_rfl) (fun _ _ _ h => h) (Or.inl ⟨by rfl, ?_⟩) hS ?_
        rotate_left
        focus (intro w' hw'; go_simp; all_goals with_reducible rfl)
        try simp only [Act.put, List.setIfInBounds_toArray, List.set_cons_zero, List.set_cons_succ]
        refine wpAnyH_ready (rs := [4]) (by kernel_rfl) (by simp) ?_
        refine AllReadyH.cons (o := _) (by simp only [List.getElem?_toArray, List.getElem?_cons_succ, List.getElem?_cons_zero] <;> exact rfl) (fun K hK => ?_) ?_
        focus (
          go_simp
          go_at_call 12
          refine (HTR.out _ _ _ _ ((HK9.out.keep hS).fl)).mono ?_
          rintro e wc1 ⟨rfl, hb⟩
          have hS := hS.trans (hb.mono hS.size)
          clear hb
          go_wp2_with fail
          refine hK.out _ _ hS (fun _ => ?_)
          clear hK K
          try simp only [Act.put, List.setIfInBounds_toArray, List.set_cons_zero, List.set_cons_succ]
          refine wpAnyH_take (i := 5) (v := ?_) (by simp only [List.getElem?_toArray, List.getElem?_cons_succ, List.getElem?_cons_zero] <;> exact rfl) (by kernel_rfl) (by kernel_rfl) (by kernel_rfl) (fun _ _ _ h => h) (Or.inl ⟨by rfl, ?_⟩) hS ?_
          rotate_left
          focus (intro w' hw'; go_simp; all_goals with_reducible rfl)
          try simp only [Act.put, List.setIfInBounds_toArray, List.set_cons_zero, List.set_cons_succ]
          refine wpAnyH_take (i := 6) (v := ?_) (by simp only [List.getElem?_toArray, List.getElem?_cons_succ, List.getElem?_cons_zero] <;> exact rfl) (by kernel_rfl) (by kernel_rfl) (by kernel_rfl) (fun _ _ _ h => h) (Or.inl ⟨by rfl, ?_⟩) hS ?_
          rotate_left
          focus (intro w' hw'; go_simp; all_goals with_reducible rfl)
          try simp only [Act.put, List.setIfInBounds_toArray, List.set_cons_zero, List.set_cons_succ]
          refine wpAnyH_take (i := 7) (v := ?_) (by simp only [List.getElem?_toArray, List.getElem?_cons_succ, List.getElem?_cons_zero] <;> exact rfl) (by kernel_rfl) (by kernel_rfl) (by kernel_rfl) (fun _ _ _ h => h) (Or.inl ⟨by rfl, ?_⟩) hS ?_
          rotate_left
          focus (intro w' hw'; go_simp; all_goals with_reducible rfl)
          try simp only [Act.put, List.setIfInBounds_toArray, List.set_cons_zero, List.set_cons_succ]
          refine wpAnyH_take (i := 8) (v := ?_) (by simp only [List.getElem?_toArray, List.getElem?_cons_succ, List.getElem?_cons_zero] <;> exact rfl) (by kernel_rfl) (by kernel_rfl) (by kernel_rfl) (fun _ _ _ h => h) (Or.inl ⟨by rfl, ?_⟩) hS ?_
          rotate_left
          focus (intro w' hw'; go_simp; all_goals with_reducible rfl)
          try simp only [Act.put, List.setIfInBounds_toArray, List.set_cons_zero, List.set_cons_succ]
          refine wpAnyH_take (i := 9) (v := ?_) (by simp only [List.getElem?_toArray, List.getElem?_cons_succ, List.getElem?_cons_zero] <;> exact rfl) (by kernel_rfl) (by kernel_rfl) (by kernel_rfl) (fun _ _ _ h => h) (Or.inl ⟨by rfl, ?_⟩) hS ?_
          rotate_left
          focus (intro w' hw'; have kk := (HK9.out.q.keep hw').cell 0; simp only [List.getElem?_toArray, List.getElem?_cons_zero] at kk; go_simp; all_goals with_reducible rfl)
          try simp only [Act.put, List.setIfInBounds_toArray, List.set_cons_zero, List.set_cons_succ]
          refine wpAnyH_take (i := 11) (v := ?_) (by simp only [List.getElem?_toArray, List.getElem?_cons_succ, List.getElem?_cons_zero] <;> exact rfl) (by kernel_rfl) (by kernel_rfl) (by kernel_rfl) (fun _ _ _ h => h) (Or.inl ⟨by rfl, ?_⟩) hS ?_
          rotate_left
          focus (intro w' hw'; go_simp; all_goals with_reducible rfl)
          try simp only [Act.put, List.setIfInBounds_toArray, List.set_cons_zero, List.set_cons_succ]
          refine wpAnyH_take (i := 12) (v := ?_) (by simp only [List.getElem?_toArray, List.getElem?_cons_succ, List.getElem?_cons_zero] <;> exact rfl) (by kernel_rfl) (by kernel_rfl) (by kernel_rfl) (fun _ _ _ h => h) (Or.inl ⟨by rfl, ?_⟩) hS ?_
          rotate_left
          focus (intro w' hw'; have kk := (HK9.out.q.keep hw').cell 0; simp only [List.getElem?_toArray, List.getElem?_cons_zero] at kk; go_simp; all_goals with_reducible rfl)
          try simp only [Act.put, List.setIfInBounds_toArray, List.set_cons_zero, List.set_cons_succ]
          refine wpAnyH_ready (rs := [10]) (by kernel_rfl) (by simp) ?_
          refine AllReadyH.cons (o := _) (by simp only [List.getElem?_toArray, List.getElem?_cons_succ, List.getElem?_cons_zero] <;> exact rfl) (fun K hK => ?_) ?_
          focus (
            go_simp
            go_at_call 17
            refine (HTG.out _).mono ?_
            rintro e wc2 ⟨rfl, rfl⟩
            go_wp2_with fail
            refine hK.out _ _ hS (fun _ => ?_)
            clear hK K
            try simp only [Act.put, List.setIfInBounds_toArray, List.set_cons_zero, List.set_cons_succ]
            refine wpAnyH_ready (rs := [13]) (by kernel_rfl) (by simp) ?_
            refine AllReadyH.cons (o := _) (by simp only [List.getElem?_toArray, List.getElem?_cons_succ, List.getElem?_cons_zero] <;> exact rfl) (fun K hK => ?_) ?_
            focus (
              go_simp
              go_at_call 16
              refine (HTP.out _).mono ?_
              rintro e wc3 ⟨rfl, hb⟩
              have hS := hS.trans (hb.mono hS.size)
              clear hb
              go_wp2_with fail
              refine hK.out _ _ hS (fun _ => ?_)
              clear hK K
              try simp only [Act.put, List.setIfInBounds_toArray, List.set_cons_zero, List.set_cons_succ]
              refine wpAnyH_take (i := 14) (v := ?_) (by simp only [List.getElem?_toArray, List.getElem?_cons_succ, List.getElem?_cons_zero] <;> exact rfl) (by kernel_rfl) (by kernel_rfl) (by kernel_rfl) (fun _ _ _ h => h) (Or.inl ⟨by rfl, ?_⟩) hS ?_
              rotate_left
              focus (intro w' hw'; go_simp; all_goals with_reducible rfl)
              try simp only [Act.put, List.setIfInBounds_toArray, List.set_cons_zero, List.set_cons_succ]
              refine wpAnyH_take (i := 15) (v := ?_) (by simp only [List.getElem?_toArray, List.getElem?_cons_succ, List.getElem?_cons_zero] <;> exact rfl) (by kernel_rfl) (by kernel_rfl) (by kernel_rfl) (fun _ _ _ h => h) (Or.inl ⟨by rfl, ?_⟩) hS ?_
              rotate_left
              focus (intro w' hw'; go_simp; all_goals with_reducible rfl)
              try simp only [Act.put, List.setIfInBounds_toArray, List.set_cons_zero, List.set_cons_succ]
              refine wpAnyH_take (i := 16) (v := ?_) (by simp only [List.getElem?_toArray, List.getElem?_cons_succ, List.getElem?_cons_zero] <;> exact rfl) (by kernel_rfl) (by kernel_rfl) (by kernel_rfl) (fun _ _ _ h => h) (Or.inl ⟨by rfl, ?_⟩) hS ?_
              rotate_left
              focus (intro w' hw'; go_simp; all_goals with_reducible rfl)
              try simp only [Act.put, List.setIfInBounds_toArray, List.set_cons_zero, List.set_cons_succ]
              refine wpAnyH_ready (rs := [17]) (by kernel_rfl) (by simp) ?_
              refine AllReadyH.cons (o := _) (by simp only [List.getElem?_toArray, List.getElem?_cons_succ, List.getElem?_cons_zero] <;> exact rfl) (fun K hK => ?_) ?_
              focus (
                go_simp
                go_at_call 9
                refine (aw_awake _ (HT.out.keep (HK9.out.b.trans (hS.mono HK9.out.b.size)))).mono ?_
                rintro e wc4 ⟨rfl, hb⟩
                have hS := hS.trans (hb.mono hS.size)
                clear hb
                go_wp2_with fail
                refine hK.out _ _ hS (fun _ => ?_)
                clear hK K
                try simp only [Act.put, List.setIfInBounds_toArray, List.set_cons_zero, List.set_cons_succ]
                refine wpAnyH_take (i := 18) (v := ?_) (by simp only [List.getElem?_toArray, List.getElem?_cons_succ, List.getElem?_cons_zero] <;> exact rfl) (by kernel_rfl) (by kernel_rfl) (by kernel_rfl) (fun _ _ _ h => h) (Or.inl ⟨by rfl, ?_⟩) hS ?_
                rotate_left
                focus (intro w' hw'; go_simp; all_goals with_reducible rfl)
                try simp only [Act.put, List.setIfInBounds_toArray, List.set_cons_zero, List.set_cons_succ]
                refine wpAnyH_take (i := 19) (v := ?_) (by simp only [List.getElem?_toArray, List.getElem?_cons_succ, List.getElem?_cons_zero] <;> exact rfl) (by kernel_rfl) (by kernel_rfl) (by kernel_rfl) (fun _ _ _ h => h) (Or.inl ⟨by rfl, ?_⟩) hS ?_
                rotate_left
                focus (intro w' hw'; go_simp; all_goals with_reducible rfl)
                try simp only [Act.put, List.setIfInBounds_toArray, List.set_cons_zero, List.set_cons_succ]
                refine wpAnyH_done (by kernel_rfl) ?_ _
                refine NoPanic.normal ?_
                go_wp2
                go_ret
                exact ⟨rfl, HK9.out.b.trans (hS.mono HK9.out.b.size)⟩)
              exact AllReadyH.nil)
            exact AllReadyH.nil)
          exact AllReadyH.nil)
        exact AllReadyH.nil
      | false =>
        simp only [Bool.false_eq_true, if_false] at HR1
        go_wp2_with (at_builtin; refine wpList_append_flkeep _ rfl (.tmp 55) (.tmp 59) rfl base g9 n9 c9 L rfl HK4a.out.o ⟨W4.heap.size, 0, none⟩ 1 1 [⟨((⟨#[120, 45]⟩ : ByteArray) ++ more), ⟨#[121]⟩, false⟩] rfl HF4.out (by have := HL6.out.1; omega) HK4a.out.bs ?_; intro v5 w5 hown5 hk5 hg5; obtain ⟨A5, c5, rfl, hfl5⟩ := own_fields hown5; have HFL5 := hide hfl5; have HK5 := hide (HK4a.out.grow hk5 hg5); clear hown5 hk5 hg5 hfl5)
        refine (HR1.out _ _ _ _ HFL5.out).mono ?_
        rintro e w6 ⟨rfl, hb6⟩
        have HK6 := hide (HK5.out.keep (hb6.trans ((bel1 w6 (.cells #[.string ⟨#[]⟩, .string ⟨#[]⟩, .string ⟨#[]⟩, .string ⟨#[]⟩, .int .i64 0, .int .i64 0] 26)).mono hb6.size)))
        have HP6 := hide (BlkIs.new w6 26 #[.string ⟨#[]⟩, .string ⟨#[]⟩, .string ⟨#[]⟩, .string ⟨#[]⟩, .int .i64 0, .int .i64 0])
        clear hb6 HK5 HR1 HFL5 HK4a HF4
        go_upto_region 11 with (fail)
        obtain ⟨W6, hW⟩ : ∃ W, W = w6.alloc (.cells #[.string ⟨#[]⟩, .string ⟨#[]⟩, .string ⟨#[]⟩, .string ⟨#[]⟩, .int .i64 0, .int .i64 0] 26) := ⟨_, rfl⟩
        obtain ⟨Q3, hg⟩ : ∃ g, g = w6.heap.size := ⟨_, rfl⟩
        rw [← hW] at HK6 HP6 ⊢
        rw [← hg] at HP6 ⊢
        clear hW hg
        have HF6 := hide (fl_blk (w := W6.alloc (.cells #[.string ⟨#[120]⟩, .string ⟨#[121]⟩, .bool false, .string ((⟨#[58]⟩ : ByteArray) ++ more), .string ⟨#[121]⟩, .bool false] 42)) (g := W6.heap.size) (l := [⟨⟨#[120]⟩, ⟨#[121]⟩, false⟩, ⟨((⟨#[58]⟩ : ByteArray) ++ more), ⟨#[121]⟩, false⟩]) (n := 2) rfl (by omega) (BlkIs.new W6 42 #[.string ⟨#[120]⟩, .string ⟨#[121]⟩, .bool false, .string ((⟨#[58]⟩ : ByteArray) ++ more), .string ⟨#[121]⟩, .bool false]))
        have HK6a := hide (HK6.out.keep (bel1 W6 (.cells #[.string ⟨#[120]⟩, .string ⟨#[121]⟩, .bool false, .string ((⟨#[58]⟩ : ByteArray) ++ more), .string ⟨#[121]⟩, .bool false] 42)))
        have HP6a := hide (HP6.out.keep (bel1 W6 (.cells #[.string ⟨#[120]⟩, .string ⟨#[121]⟩, .bool false, .string ((⟨#[58]⟩ : ByteArray) ++ more), .string ⟨#[121]⟩, .bool false] 42)))
        clear HK6 HP6
        go_wp2_with (at_builtin; refine wpList_append_flkeep _ rfl (.tmp 66) (.tmp 71) rfl base g9 n9 c9 L rfl HK6a.out.o ⟨W6.heap.size, 0, none⟩ 2 2 [⟨⟨#[120]⟩, ⟨#[121]⟩, false⟩, ⟨((⟨#[58]⟩ : ByteArray) ++ more), ⟨#[121]⟩, false⟩] rfl HF6.out (by have := HL6.out.1; omega) HK6a.out.bs ?_; intro v7 w7 hown7 hk7 hg7; obtain ⟨A7, c7, rfl, hfl7⟩ := own_fields hown7; have HFL7 := hide hfl7; have HP7 := hide (tx_grown_ne HP6a.out hg7 HK6a.out.o (by decide)); have HK7 := hide (HK6a.out.grow hk7 hg7); clear hown7 hk7 hg7 hfl7)
        refine (HR2.out _ _ _ _ HFL7.out).mono ?_
        rintro e w8 ⟨rfl, hb8⟩
        have HK8 := hide (HK7.out.keep (hb8.trans ((bel1 w8 (.cells #[.string ⟨#[]⟩, .string ⟨#[]⟩, .string ⟨#[]⟩, .string ⟨#[]⟩, .int .i64 0, .int .i64 0] 26)).mono hb8.size)))
        have HP8 := hide (HP7.out.keep (hb8.trans ((bel1 w8 (.cells #[.string ⟨#[]⟩, .string ⟨#[]⟩, .string ⟨#[]⟩, .string ⟨#[]⟩, .int .i64 0, .int .i64 0] 26)).mono hb8.size)))
        clear hb8 HK7 HP7 HR2 HFL7 HK6a HP6a HF6
        go_upto_region 12 with (fail)
        obtain ⟨W8, hW⟩ : ∃ W, W = w8.alloc (.cells #[.string ⟨#[]⟩, .string ⟨#[]⟩, .string ⟨#[]⟩, .string ⟨#[]⟩, .int .i64 0, .int .i64 0] 26) := ⟨_, rfl⟩
        obtain ⟨Q4, hg⟩ : ∃ g, g = w8.heap.size := ⟨_, rfl⟩
        rw [← hW] at HK8 HP8 ⊢
        rw [← hg]
        clear hW hg
        go_wp2_with fail
        refine (HTX.out _).mono ?_
        rintro e w9 ⟨rfl, hb9⟩
        have HK9 := hide (HK8.out.keep hb9)
        have HP9 := hide (HP8.out.keep hb9)
        clear hb9 HK8 HP8
        go_upto_region 14 with (fail)
        obtain ⟨W9, hW9⟩ : ∃ W, W = w9 := ⟨_, rfl⟩
        subst hW9
        refine wp_region_noPanic ?_
        refine wp_region_held_drew (S := fun w' => Below W9.heap.size W9 w') (by kernel_rfl) (Below.refl _ _).drew (fun hS => ?_)
        generalize W9.drew = wd at hS ⊢
        refine wpAnyH_take (i := 0) (v := ?_) (by simp only [List.getElem?_toArray, List.getElem?_cons_succ, List.getElem?_cons_zero] <;> exact rfl) (by kernel_rfl) (by kernel_rfl) (by kernel_rfl) (fun _ _ _ h => h) (Or.inl ⟨by rfl, ?_⟩) hS ?_
        rotate_left
        focus (intro w' hw'; go_simp; all_goals with_reducible rfl)
        try simp only [Act.put, List.setIfInBounds_toArray, List.set_cons_zero, List.set_cons_succ]
        refine wpAnyH_take (i := 1) (v := ?_) (by simp only [List.getElem?_toArray, List.getElem?_cons_succ, List.getElem?_cons_zero] <;> exact rfl) (by kernel_rfl) (by kernel_rfl) (by kernel_rfl) (fun _ _ _ h => h) (Or.inl ⟨by rfl, ?_⟩) hS ?_
        rotate_left
        focus (intro w' hw'; go_simp; all_goals with_reducible rfl)
        try simp only [Act.put, List.setIfInBounds_toArray, List.set_cons_zero, List.set_cons_succ]
        refine wpAnyH_take (i := 2) (v := ?_) (by simp only [List.getElem?_toArray, List.getElem?_cons_succ, List.getElem?_cons_zero] <;> exact rfl) (by kernel_rfl) (by kernel_rfl) (by kernel_rfl) (fun _ _ _ h => h) (Or.inl ⟨by rfl, ?_⟩) hS ?_
        rotate_left
        focus (intro w' hw'; go_simp; all_goals with_reducible rfl)
        try simp only [Act.put, List.setIfInBounds_toArray, List.set_cons_zero, List.set_cons_succ]
        refine wpAnyH_take (i := 3) (v := ?_) (by simp only [List.getElem?_toArray, List.getElem?_cons_succ, List.getElem?_cons_zero] <;> exact rfl) (by kernel_rfl) (by kernel_rfl) (by kernel_rfl) (fun _ _ _ h => h) (Or.inl ⟨by rfl, ?_⟩) hS ?_
        rotate_left
        focus (intro w' hw'; go_simp; all_goals with_reducible rfl)
        try simp only [Act.put, List.setIfInBounds_toArray, List.set_cons_zero, List.set_cons_succ]
        refine wpAnyH_ready (rs := [4]) (by kernel_rfl) (by simp) ?_
        refine AllReadyH.cons (o := _) (by simp only [List.getElem?_toArray, List.getElem?_cons_succ, List.getElem?_cons_zero] <;> exact rfl) (fun K hK => ?_) ?_
        focus (
          go_simp
          go_at_call 12
          refine (HTR.out _ _ _ _ ((HK9.out.keep hS).fl)).mono ?_
          rintro e wc5 ⟨rfl, hb⟩
          have hS := hS.trans (hb.mono hS.size)
          clear hb
          go_wp2_with fail
          refine hK.out _ _ hS (fun _ => ?_)
          clear hK K
          try simp only [Act.put, List.setIfInBounds_toArray, List.set_cons_zero, List.set_cons_succ]
          refine wpAnyH_take (i := 5) (v := ?_) (by simp only [List.getElem?_toArray, List.getElem?_cons_succ, List.getElem?_cons_zero] <;> exact rfl) (by kernel_rfl) (by kernel_rfl) (by kernel_rfl) (fun _ _ _ h => h) (Or.inl ⟨by rfl, ?_⟩) hS ?_
          rotate_left
          focus (intro w' hw'; go_simp; all_goals with_reducible rfl)
          try simp only [Act.put, List.setIfInBounds_toArray, List.set_cons_zero, List.set_cons_succ]
          refine wpAnyH_take (i := 6) (v := ?_) (by simp only [List.getElem?_toArray, List.getElem?_cons_succ, List.getElem?_cons_zero] <;> exact rfl) (by kernel_rfl) (by kernel_rfl) (by kernel_rfl) (fun _ _ _ h => h) (Or.inl ⟨by rfl, ?_⟩) hS ?_
          rotate_left
          focus (intro w' hw'; go_simp; all_goals with_reducible rfl)
          try simp only [Act.put, List.setIfInBounds_toArray, List.set_cons_zero, List.set_cons_succ]
          refine wpAnyH_take (i := 7) (v := ?_) (by simp only [List.getElem?_toArray, List.getElem?_cons_succ, List.getElem?_cons_zero] <;> exact rfl) (by kernel_rfl) (by kernel_rfl) (by kernel_rfl) (fun _ _ _ h => h) (Or.inl ⟨by rfl, ?_⟩) hS ?_
          rotate_left
          focus (intro w' hw'; go_simp; all_goals with_reducible rfl)
          try simp only [Act.put, List.setIfInBounds_toArray, List.set_cons_zero, List.set_cons_succ]
          refine wpAnyH_take (i := 8) (v := ?_) (by simp only [List.getElem?_toArray, List.getElem?_cons_succ, List.getElem?_cons_zero] <;> exact rfl) (by kernel_rfl) (by kernel_rfl) (by kernel_rfl) (fun _ _ _ h => h) (Or.inl ⟨by rfl, ?_⟩) hS ?_
          rotate_left
          focus (intro w' hw'; go_simp; all_goals with_reducible rfl)
          try simp only [Act.put, List.setIfInBounds_toArray, List.set_cons_zero, List.set_cons_succ]
          refine wpAnyH_take (i := 9) (v := ?_) (by simp only [List.getElem?_toArray, List.getElem?_cons_succ, List.getElem?_cons_zero] <;> exact rfl) (by kernel_rfl) (by kernel_rfl) (by kernel_rfl) (fun _ _ _ h => h) (Or.inl ⟨by rfl, ?_⟩) hS ?_
          rotate_left
          focus (intro w' hw'; have kk := (HK9.out.q.keep hw').cell 0; simp only [List.getElem?_toArray, List.getElem?_cons_zero] at kk; go_simp; all_goals with_reducible rfl)
          try simp only [Act.put, List.setIfInBounds_toArray, List.set_cons_zero, List.set_cons_succ]
          refine wpAnyH_take (i := 11) (v := ?_) (by simp only [List.getElem?_toArray, List.getElem?_cons_succ, List.getElem?_cons_zero] <;> exact rfl) (by kernel_rfl) (by kernel_rfl) (by kernel_rfl) (fun _ _ _ h => h) (Or.inl ⟨by rfl, ?_⟩) hS ?_
          rotate_left
          focus (intro w' hw'; go_simp; all_goals with_reducible rfl)
          try simp only [Act.put, List.setIfInBounds_toArray, List.set_cons_zero, List.set_cons_succ]
          refine wpAnyH_take (i := 12) (v := ?_) (by simp only [List.getElem?_toArray, List.getElem?_cons_succ, List.getElem?_cons_zero] <;> exact rfl) (by kernel_rfl) (by kernel_rfl) (by kernel_rfl) (fun _ _ _ h => h) (Or.inl ⟨by rfl, ?_⟩) hS ?_
          rotate_left
          focus (intro w' hw'; have kk := (HK9.out.q.keep hw').cell 0; simp only [List.getElem?_toArray, List.getElem?_cons_zero] at kk; go_simp; all_goals with_reducible rfl)
          try simp only [Act.put, List.setIfInBounds_toArray, List.set_cons_zero, List.set_cons_succ]
          refine wpAnyH_ready (rs := [10]) (by kernel_rfl) (by simp) ?_
          refine AllReadyH.cons (o := _) (by simp only [List.getElem?_toArray, List.getElem?_cons_succ, List.getElem?_cons_zero] <;> exact rfl) (fun K hK => ?_) ?_
          focus (
            go_simp
            go_at_call 17
            refine (HTG.out _).mono ?_
            rintro e wc6 ⟨rfl, rfl⟩
            go_wp2_with fail
            refine hK.out _ _ hS (fun _ => ?_)
            clear hK K
            try simp only [Act.put, List.setIfInBounds_toArray, List.set_cons_zero, List.set_cons_succ]
            refine wpAnyH_ready (rs := [13]) (by kernel_rfl) (by simp) ?_
            refine AllReadyH.cons (o := _) (by simp only [List.getElem?_toArray, List.getElem?_cons_succ, List.getElem?_cons_zero] <;> exact rfl) (fun K hK => ?_) ?_
            focus (
              go_simp
              go_at_call 16
              refine (HTP.out _).mono ?_
              rintro e wc7 ⟨rfl, hb⟩
              have hS := hS.trans (hb.mono hS.size)
              clear hb
              go_wp2_with fail
              refine hK.out _ _ hS (fun _ => ?_)
              clear hK K
              try simp only [Act.put, List.setIfInBounds_toArray, List.set_cons_zero, List.set_cons_succ]
              refine wpAnyH_take (i := 14) (v := ?_) (by simp only [List.getElem?_toArray, List.getElem?_cons_succ, List.getElem?_cons_zero] <;> exact rfl) (by kernel_rfl) (by kernel_rfl) (by kernel_rfl) (fun _ _ _ h => h) (Or.inl ⟨by rfl, ?_⟩) hS ?_
              rotate_left
              focus (intro w' hw'; go_simp; all_goals with_reducible rfl)
              try simp only [Act.put, List.setIfInBounds_toArray, List.set_cons_zero, List.set_cons_succ]
              refine wpAnyH_take (i := 15) (v := ?_) (by simp only [List.getElem?_toArray, List.getElem?_cons_succ, List.getElem?_cons_zero] <;> exact rfl) (by kernel_rfl) (by kernel_rfl) (by kernel_rfl) (fun _ _ _ h => h) (Or.inl ⟨by rfl, ?_⟩) hS ?_
              rotate_left
              focus (intro w' hw'; go_simp; all_goals with_reducible rfl)
              try simp only [Act.put, List.setIfInBounds_toArray, List.set_cons_zero, List.set_cons_succ]
              refine wpAnyH_take (i := 16) (v := ?_) (by simp only [List.getElem?_toArray, List.getElem?_cons_succ, List.getElem?_cons_zero] <;> exact rfl) (by kernel_rfl) (by kernel_rfl) (by kernel_rfl) (fun _ _ _ h => h) (Or.inl ⟨by rfl, ?_⟩) hS ?_
              rotate_left
              focus (intro w' hw'; go_simp; all_goals with_reducible rfl)
              try simp only [Act.put, List.setIfInBounds_toArray, List.set_cons_zero, List.set_cons_succ]
              refine wpAnyH_ready (rs := [17]) (by kernel_rfl) (by simp) ?_
              refine AllReadyH.cons (o := _) (by simp only [List.getElem?_toArray, List.getElem?_cons_succ, List.getElem?_cons_zero] <;> exact rfl) (fun K hK => ?_) ?_
              focus (
                go_simp
                go_at_call 9
                refine (aw_awake _ (HT.out.keep (HK9.out.b.trans (hS.mono HK9.out.b.size)))).mono ?_
                rintro e wc8 ⟨rfl, hb⟩
                have hS := hS.trans (hb.mono hS.size)
                clear hb
                go_wp2_with fail
                refine hK.out _ _ hS (fun _ => ?_)
                clear hK K
                try simp only [Act.put, List.setIfInBounds_toArray, List.set_cons_zero, List.set_cons_succ]
                refine wpAnyH_take (i := 18) (v := ?_) (by simp only [List.getElem?_toArray, List.getElem?_cons_succ, List.getElem?_cons_zero] <;> exact rfl) (by kernel_rfl) (by kernel_rfl) (by kernel_rfl) (fun _ _ _ h => h) (Or.inl ⟨by rfl, ?_⟩) hS ?_
                rotate_left
                focus (intro w' hw'; go_simp; all_goals with_reducible rfl)
                try simp only [Act.put, List.setIfInBounds_toArray, List.set_cons_zero, List.set_cons_succ]
                refine wpAnyH_take (i := 19) (v := ?_) (by simp only [List.getElem?_toArray, List.getElem?_cons_succ, List.getElem?_cons_zero] <;> exact rfl) (by kernel_rfl) (by kernel_rfl) (by kernel_rfl) (fun _ _ _ h => h) (Or.inl ⟨by rfl, ?_⟩) hS ?_
                rotate_left
                focus (intro w' hw'; go_simp; all_goals with_reducible rfl)
                try simp only [Act.put, List.setIfInBounds_toArray, List.set_cons_zero, List.set_cons_succ]
                refine wpAnyH_done (by kernel_rfl) ?_ _
                refine NoPanic.normal ?_
                go_wp2
                go_ret
                exact ⟨rfl, HK9.out.b.trans (hS.mono HK9.out.b.size)⟩)
              exact AllReadyH.nil)
            exact AllReadyH.nil)
          exact AllReadyH.nil)
        exact AllReadyH.nil
end Go.Proofs.YtlbhnbloanamfaaDoor.requestBack
