/-
  Layer 17: what Read answers of its own fields, alone and with fields behind; of fields in another order.
-/
import Derived.Test.YtlbhnbloanamfaaDoorRgMath
import Derived.Test.YtlbhnbloanamfaaDoorRqShow
import Derived.Test.YtlbhnbloanamfaaDoorRqRight
namespace Go.Proofs.YtlbhnbloanamfaaDoor
set_option linter.unusedSimpArgs false
set_option linter.unusedVariables false
open Go.RowKit

theorem bts_cat (a b : ByteArray) : bts (a ++ b) = bts a ++ bts b := by simp [bts]
/-! ## A number's digits are read again -/
structure DigIs (n : Nat) (k : Nat) (l : List Int) : Prop where
  ne : l ≠ []
  len : l.length ≤ k
  all : l.all digI = true
  val : numV l = n
  hd : l.length = 1 ∨ l.headD 0 ≠ 48
  pos : n ≠ 0 → l.headD 0 ≠ 48
theorem dig_is (k : Nat) : ∀ n : Nat, n < 10 ^ (k + 1) → DigIs n (k + 1) (bts (itoaB n)) := by
  have small : ∀ n : Nat, n < 10 → ∀ k, DigIs n (k + 1) (bts (itoaB n)) := by
    intro n h k
    have e : bts (itoaB n) = [48 + (n : Int)] := by
      rw [itoa_small h, bts_str _ (fun z hz => by simp at hz; subst hz; omega)]
    rw [e]
    refine ⟨by simp, by simp, ?_, ?_, .inl rfl, fun h0 => ?_⟩
    · simp [digI]; omega
    · simp [numV]; omega
    · simp; omega
  induction k with
  | zero => intro n h; exact small n (by simpa using h) 0
  | succ k ih =>
    intro n h
    by_cases h10 : n < 10
    · exact small n h10 _
    · have hn10 : n / 10 < 10 ^ (k + 1) := by
        rw [Nat.pow_succ] at h
        exact Nat.div_lt_of_lt_mul (by rw [Nat.mul_comm]; exact h)
      have hA := ih (n / 10) hn10
      have hB := small (n % 10) (Nat.mod_lt _ (by omega)) 0
      have eB : bts (itoaB (n % 10 : Nat)) = [48 + ((n % 10 : Nat) : Int)] := by
        rw [itoa_small (Nat.mod_lt _ (by omega)), bts_str _ (fun z hz => by simp at hz; subst hz; omega)]
      have e : bts (itoaB n) = bts (itoaB (n / 10 : Nat)) ++ [48 + ((n % 10 : Nat) : Int)] := by rw [itoa_big h10, bts_cat, eB]
      have hp := hA.pos (by omega)
      have hh : (bts (itoaB (n / 10 : Nat)) ++ [48 + ((n % 10 : Nat) : Int)]).headD 0 = (bts (itoaB (n / 10 : Nat))).headD 0 := by
        cases q : bts (itoaB (n / 10 : Nat)) with
        | nil => exact absurd q hA.ne
        | cons a r => rfl
      rw [e]
      refine ⟨by simp, ?_, ?_, ?_, .inr (by rw [hh]; exact hp), fun _ => by rw [hh]; exact hp⟩
      · have := hA.len; simp only [List.length_append, List.length_cons, List.length_nil]; omega
      · rw [List.all_append, hA.all]; simp [digI]; omega
      · rw [numV_snoc, hA.val]; omega
theorem num_itoa {n : Int} (h0 : 0 ≤ n) (h1 : n ≤ 999999999) : numB (itoaB n) = true ∧ numI (itoaB n) = n := by
  obtain ⟨m, rfl⟩ : ∃ m : Nat, n = m := ⟨n.toNat, by omega⟩
  have h := dig_is 8 m (by omega)
  have hl := bts_len (itoaB m)
  have hb : numB (itoaB m) = true := by
    unfold numB
    have := h.len
    have hne : 0 < (bts (itoaB m)).length := List.length_pos_iff.2 h.ne
    rw [decide_eq_true (show 0 < (itoaB m).size by omega), decide_eq_true (show (itoaB m).size ≤ 9 by omega), h.all]
    rcases h.hd with q | q
    · rw [decide_eq_false (show ¬ 1 < (itoaB m).size by omega)]; rfl
    · rw [decide_eq_false q, Bool.and_false]; rfl
  exact ⟨hb, by rw [numI_yes hb]; exact h.val⟩
theorem dig_meth {z : Int} (h : digI z = true) : methI z = true := by
  unfold methI nameI
  rw [h]
  simp
theorem val_of {s : ByteArray} (hne : bts s ≠ []) (ha : ∀ z ∈ bts s, methI z = true) : valB s = true := by
  unfold valB endsB
  rw [Bool.and_eq_true]
  refine ⟨List.all_eq_true.2 fun z hz => by rw [(methI_ok (ha z hz)).1]; rfl, ?_⟩
  rw [Bool.or_eq_true, Bool.and_eq_true]
  refine .inr ⟨?_, ?_⟩
  · have : (bts s).headD 0 ∈ bts s := by
      cases hb : bts s with
      | nil => exact absurd hb hne
      | cons a r => simp
    rw [(methI_ok (ha _ this)).2]; rfl
  · have : (bts s).getLastD 0 ∈ bts s := by
      rw [List.getLastD_eq_getLast?, List.getLast?_eq_some_getLast hne]
      exact List.getLast_mem hne
    rw [(methI_ok (ha _ this)).2]; rfl
theorem val_itoa {n : Int} (h0 : 0 ≤ n) (h1 : n ≤ 999999999) : valB (itoaB n) = true := by
  obtain ⟨m, rfl⟩ : ∃ m : Nat, n = m := ⟨n.toNat, by omega⟩
  have h := dig_is 8 m (by omega)
  exact val_of h.ne fun z hz => dig_meth (List.all_eq_true.1 h.all z hz)
theorem rank_back : ∀ r : Fin 8, rankI (uEq ++ itoaB (r.val : Int)) = (r.val : Int) ∧ valB (uEq ++ itoaB (r.val : Int)) = true := by
  intro r
  have e : itoaB (r.val : Int) = strOfNums [48 + (r.val : Int)] := itoa_small (by omega)
  rw [e]
  revert r
  decide +kernel
theorem rank_back_int {r : Int} (h0 : 0 ≤ r) (h1 : r ≤ 7) : rankI (uEq ++ itoaB r) = r ∧ valB (uEq ++ itoaB r) = true := by
  have := rank_back ⟨r.toNat, by omega⟩
  simp only at this
  rw [show ((r.toNat : Nat) : Int) = r by omega] at this
  exact this
theorem rankI_bd (s : ByteArray) : 0 ≤ rankI s ∧ rankI s ≤ 7 := by
  unfold rankI
  split
  · rename_i h
    unfold rankB at h
    simp only [Bool.and_eq_true, decide_eq_true_eq] at h
    omega
  · omega

/-! ## What was read -/
structure Good (q : Rq) : Prop where
  met : metB q.m = true
  sch : schB q.s = true
  path : pathB q = true
  host : valB q.h = true
  nlo : -1 ≤ q.n
  nhi : q.n ≤ 999999999
  rlo : 0 ≤ q.r
  rhi : q.r ≤ 7
theorem read_good {l : List Fd} {e : Bool} {q : Rq} (h : readR l e = some q) : Good q ∧ (e && decide (0 < q.n)) = false := by
  unfold readR at h
  cases hl : lenR (tlL l) with
  | none => rw [hl] at h; cases h
  | some n =>
    rw [hl] at h
    simp only at h
    split at h
    · rename_i hk
      injection h with h
      subst h
      have hb := lenR_bd hl
      unfold okB at hk
      simp only [Bool.and_eq_true] at hk
      obtain ⟨he, -, ht, -⟩ := hk
      unfold tgtB at ht
      simp only [Bool.and_eq_true] at ht
      have hr := rankI_bd (fst' nPrio (tlL l))
      exact ⟨⟨ht.1, ht.2.1, ht.2.2.1, ht.2.2.2, hb.1, hb.2, hr.1, hr.2⟩, by (show (e && decide (0 < n)) = false); simpa only [Bool.not_eq_true'] using he⟩
    · cases h

theorem tw_split {H Y : List Fd} (h : ∀ f ∈ H, psF f = true) (hy : ∀ f, Y.head? = some f → psF f = false) : hdL (H ++ Y) = H ∧ tlL (H ++ Y) = Y := by
  have e1 : Y.takeWhile psF = [] := by
    cases Y with
    | nil => rfl
    | cons f r => rw [List.takeWhile_cons, hy f rfl]; rfl
  have e2 : Y.dropWhile psF = Y := by
    cases Y with
    | nil => rfl
    | cons f r => rw [List.dropWhile_cons, hy f rfl]; rfl
  unfold hdL tlL
  rw [List.takeWhile_append_of_pos h, List.dropWhile_append_of_pos h, e1, e2, List.append_nil]
  exact ⟨rfl, rfl⟩

/-- The fields that stand ahead, and the others. -/
def fHead (q : Rq) : List Fd := [⟨nM, q.m, false⟩, ⟨nS, q.s, false⟩, ⟨nP, q.p, false⟩] ++ (if q.h = bNil then [] else [⟨nA, q.h, false⟩])
def fTail (q : Rq) : List Fd := (if q.n < 0 then [] else [⟨nLen, itoaB q.n, false⟩]) ++ (if q.r = 3 then [] else [⟨nPrio, uEq ++ itoaB q.r, false⟩])
theorem fields_parts (q : Rq) (X : List Fd) : fieldsL q ++ X = fHead q ++ (fTail q ++ X) := by simp only [fieldsL, fHead, fTail, List.append_assoc]
theorem fHead_ps (q : Rq) : ∀ f ∈ fHead q, psF f = true := by
  intro f hf
  unfold fHead at hf
  have h1 : ∀ v, psF ⟨nM, v, false⟩ = true := fun v => by show prefB bColon nM = true; decide
  have h2 : ∀ v, psF ⟨nS, v, false⟩ = true := fun v => by show prefB bColon nS = true; decide
  have h3 : ∀ v, psF ⟨nP, v, false⟩ = true := fun v => by show prefB bColon nP = true; decide
  have h4 : ∀ v, psF ⟨nA, v, false⟩ = true := fun v => by show prefB bColon nA = true; decide
  simp only [List.mem_append, List.mem_cons, List.not_mem_nil, or_false] at hf
  rcases hf with (rfl | rfl | rfl) | hf
  · exact h1 _
  · exact h2 _
  · exact h3 _
  · split at hf
    · cases hf
    · simp at hf; subst hf; exact h4 _
theorem fTail_ps (q : Rq) : ∀ f ∈ fTail q, psF f = false := by
  intro f hf
  unfold fTail at hf
  have h1 : ∀ v, psF ⟨nLen, v, false⟩ = false := fun v => by show prefB bColon nLen = false; decide
  have h2 : ∀ v, psF ⟨nPrio, v, false⟩ = false := fun v => by show prefB bColon nPrio = false; decide
  simp only [List.mem_append] at hf
  rcases hf with hf | hf
  · split at hf
    · cases hf
    · simp at hf; subst hf; exact h1 _
  · split at hf
    · cases hf
    · simp at hf; subst hf; exact h2 _
theorem back_parts (q : Rq) (X : List Fd) (hX : ∀ f, X.head? = some f → psF f = false) : hdL (fieldsL q ++ X) = fHead q ∧ tlL (fieldsL q ++ X) = fTail q ++ X := by
  rw [fields_parts]
  refine tw_split (fHead_ps q) fun f hf => ?_
  cases ht : fTail q with
  | nil => rw [ht, List.nil_append] at hf; exact hX f hf
  | cons g r =>
    rw [ht] at hf
    simp at hf
    subst hf
    exact fTail_ps q g (by rw [ht]; exact List.mem_cons_self)

theorem vals_none {nm : ByteArray} {l : List Fd} (h : ∀ f ∈ l, f.n ≠ nm) : vals nm l = [] := by
  unfold vals
  rw [List.filter_eq_nil_iff.2 (fun f hf => by unfold isN; simp [h f hf])]
  rfl
theorem head_vals (q : Rq) : vals nM (fHead q) = [q.m] ∧ vals nS (fHead q) = [q.s] ∧ vals nP (fHead q) = [q.p] ∧ vals nA (fHead q) = (if q.h = bNil then [] else [q.h]) ∧ (fHead q).length = 3 + (vals nA (fHead q)).length := by
  have e1 : ∀ v, vals nM [⟨nM, v, false⟩, ⟨nS, q.s, false⟩, ⟨nP, q.p, false⟩] = [v] := fun v => by
    unfold vals isN
    simp [show (nS = nM) = False from eq_false (by decide), show (nP = nM) = False from eq_false (by decide)]
  have e2 : ∀ v, vals nS [⟨nM, q.m, false⟩, ⟨nS, v, false⟩, ⟨nP, q.p, false⟩] = [v] := fun v => by
    unfold vals isN
    simp [show (nM = nS) = False from eq_false (by decide), show (nP = nS) = False from eq_false (by decide)]
  have e3 : ∀ v, vals nP [⟨nM, q.m, false⟩, ⟨nS, q.s, false⟩, ⟨nP, v, false⟩] = [v] := fun v => by
    unfold vals isN
    simp [show (nM = nP) = False from eq_false (by decide), show (nS = nP) = False from eq_false (by decide)]
  have e4 : vals nA [⟨nM, q.m, false⟩, ⟨nS, q.s, false⟩, ⟨nP, q.p, false⟩] = [] := by
    unfold vals isN
    simp [show (nM = nA) = False from eq_false (by decide), show (nS = nA) = False from eq_false (by decide), show (nP = nA) = False from eq_false (by decide)]
  have o1 : ∀ v, vals nM [⟨nA, v, false⟩] = [] := fun v => vals_one_no (show nA ≠ nM by decide)
  have o2 : ∀ v, vals nS [⟨nA, v, false⟩] = [] := fun v => vals_one_no (show nA ≠ nS by decide)
  have o3 : ∀ v, vals nP [⟨nA, v, false⟩] = [] := fun v => vals_one_no (show nA ≠ nP by decide)
  have o4 : ∀ v, vals nA [⟨nA, v, false⟩] = [v] := fun v => vals_one_yes rfl
  have z : ∀ nm, vals nm [] = [] := fun _ => rfl
  unfold fHead
  simp only [vals_app, e1, e2, e3, e4]
  split
  · simp [z]
  · simp [o1, o2, o3, o4]
theorem tail_vals (q : Rq) : vals nLen (fTail q) = (if q.n < 0 then [] else [itoaB q.n]) ∧ vals nPrio (fTail q) = (if q.r = 3 then [] else [uEq ++ itoaB q.r]) ∧ vals nHost (fTail q) = [] := by
  have a1 : ∀ v, vals nLen [⟨nLen, v, false⟩] = [v] := fun v => vals_one_yes rfl
  have a2 : ∀ v, vals nLen [⟨nPrio, v, false⟩] = [] := fun v => vals_one_no (show nPrio ≠ nLen by decide)
  have b1 : ∀ v, vals nPrio [⟨nLen, v, false⟩] = [] := fun v => vals_one_no (show nLen ≠ nPrio by decide)
  have b2 : ∀ v, vals nPrio [⟨nPrio, v, false⟩] = [v] := fun v => vals_one_yes rfl
  have c1 : ∀ v, vals nHost [⟨nLen, v, false⟩] = [] := fun v => vals_one_no (show nLen ≠ nHost by decide)
  have c2 : ∀ v, vals nHost [⟨nPrio, v, false⟩] = [] := fun v => vals_one_no (show nPrio ≠ nHost by decide)
  have z : ∀ nm, vals nm [] = [] := fun _ => rfl
  unfold fTail
  simp only [vals_app]
  by_cases h1 : q.n < 0 <;> by_cases h2 : q.r = 3 <;> simp [h1, h2, z, a1, a2, b1, b2, c1, c2]
theorem tail_right {q : Rq} (h : Good q) : rightL (fTail q) = true ∧ teB (fTail q) = false := by
  have a1 : q.n < 0 ∨ rightF ⟨nLen, itoaB q.n, false⟩ = true := by
    by_cases hn : q.n < 0
    · exact .inl hn
    · refine .inr ?_
      unfold rightF
      simp only
      rw [val_itoa (by omega) h.nhi]
      decide
  have a2 : rightF ⟨nPrio, uEq ++ itoaB q.r, false⟩ = true := by
    unfold rightF
    simp only
    rw [(rank_back_int h.rlo h.rhi).2]
    decide
  have t1 : ∀ v, teF ⟨nLen, v, false⟩ = false := fun v => by unfold teF; rw [decide_eq_false (show ¬ nLen = nTe by decide)]; rfl
  have t2 : ∀ v, teF ⟨nPrio, v, false⟩ = false := fun v => by unfold teF; rw [decide_eq_false (show ¬ nPrio = nTe by decide)]; rfl
  unfold fTail rightL teB
  rw [List.all_append, List.any_append]
  by_cases h1 : q.n < 0 <;> by_cases h2 : q.r = 3 <;> simp [h1, h2, a2, t1, t2]
  · exact a1.resolve_left h1
  · exact a1.resolve_left h1

/-- Fields that may stand behind: of right names that say nothing here. -/
structure Free (X : List Fd) : Prop where
  ps : ∀ f, X.head? = some f → psF f = false
  len : vals nLen X = []
  prio : vals nPrio X = []
  host : vals nHost X = []
  te : teB X = false
theorem read_back {q : Rq} {e : Bool} (h : Good q) (he : (e && decide (0 < q.n)) = false) {X : List Fd} (hX : Free X) (hr : rightL X = true) : readR (fieldsL q ++ X) e = some q := by
  obtain ⟨e1, e2⟩ := back_parts q X hX.ps
  obtain ⟨v1, v2, v3, v4, v5⟩ := head_vals q
  obtain ⟨t1, t2, t3⟩ := tail_vals q
  obtain ⟨r1, r2⟩ := tail_right h
  have hlen : lenR (fTail q ++ X) = some q.n := by
    unfold lenR
    rw [vals_app, hX.len, List.append_nil, t1]
    split
    · rename_i hn
      have := h.nlo
      show some (-1) = some q.n
      congr 1; omega
    · rename_i hn
      have hb := num_itoa (n := q.n) (by omega) h.nhi
      rw [lenK_one, if_pos ⟨hb.1, by omega⟩, hb.2]
  have hq : mkQ (fHead q) (fTail q ++ X) q.n = q := by
    unfold mkQ fst' hostV
    rw [v1, v2, v3, vals_app, t2, hX.prio, List.append_nil]
    have hh : (if (vals nA (fHead q)).length = 0 then fst' nHost (fTail q ++ X) else fst' nA (fHead q)) = q.h := by
      unfold fst'
      rw [v4, vals_app, t3, hX.host]
      by_cases hz : q.h = bNil
      · rw [if_pos hz]; exact hz.symm
      · rw [if_neg hz]; rfl
    have hrk : rankI ((if q.r = 3 then [] else [uEq ++ itoaB q.r]).headD bNil) = q.r := by
      by_cases hz : q.r = 3
      · rw [if_pos hz, hz]; exact rank_nil
      · rw [if_neg hz]; exact (rank_back_int h.rlo h.rhi).1
    rw [hh, hrk]
    rfl
  unfold readR
  rw [e1, e2, hlen]
  simp only
  rw [hq, if_pos]
  unfold okB
  rw [hq, he]
  unfold headB tgtB
  have hX2 : rightL (fTail q ++ X) = true := by unfold rightL at *; rw [List.all_append, r1, hr]; rfl
  have hX3 : teB (fTail q ++ X) = false := by have := hX.te; unfold teB at *; rw [List.any_append, r2, this]; rfl
  have h4 : (vals nA (fHead q)).length ≤ 1 := by rw [v4]; split <;> simp
  rw [v1, v2, v3, decide_eq_true h4, decide_eq_true v5, h.met, h.sch, h.path, h.host, hX2, hX3]
  rfl
theorem read_wrong {L : List Fd} {e : Bool} (h : rightL (tlL L) = false) : readR L e = none := by
  unfold readR
  cases hl : lenR (tlL L) with
  | none => rfl
  | some n =>
    simp only
    rw [if_neg]
    unfold okB
    rw [h]
    simp
theorem fields_trail (q : Rq) : trailB (fieldsL q) = false := by
  unfold trailB rightL fieldsL
  have : rightF ⟨nM, q.m, false⟩ = false := by
    unfold rightF
    simp only
    rw [show tokB nM = false by decide]
    rfl
  rw [List.cons_append, List.all_cons, this]
  rfl

/-! ## Fields behind -/
def xMore (more : ByteArray) : ByteArray := ⟨#[120, 45]⟩ ++ more
def cMore (more : ByteArray) : ByteArray := ⟨#[58]⟩ ++ more
def bY : ByteArray := ⟨#[121]⟩
def bX : ByteArray := ⟨#[120]⟩
theorem head_ne {a b : ByteArray} (h : (bts a).headD 0 ≠ (bts b).headD 0) : a ≠ b := fun e => h (by rw [e])
theorem xMore_hd (more : ByteArray) : (bts (xMore more)).headD 0 = 120 := by unfold xMore; rw [bts_cat]; rfl
theorem cMore_hd (more : ByteArray) : (bts (cMore more)).headD 0 = 58 := by unfold cMore; rw [bts_cat]; rfl
theorem xMore_ps (more v : ByteArray) : psF ⟨xMore more, v, false⟩ = false := by
  have hp : 0 < (xMore more).size := by unfold xMore; rw [ByteArray.size_append]; show 0 < 2 + _; omega
  show prefB ⟨#[58]⟩ (xMore more) = false
  unfold prefB
  refine Bool.and_eq_false_iff.2 (.inr (decide_eq_false fun e => ?_))
  have h1 : (⟨#[58]⟩ : ByteArray).size = 1 := rfl
  rw [h1] at e
  have := congrArg bts e
  rw [bts_extract] at this
  unfold xMore at this
  rw [bts_cat] at this
  simp [bts] at this
theorem free_x (more : ByteArray) : Free [⟨xMore more, bY, false⟩] := by
  have hh := xMore_hd more
  refine ⟨fun f hf => ?_, vals_one_no ?_, vals_one_no ?_, vals_one_no ?_, ?_⟩
  · simp at hf; subst hf; exact xMore_ps more bY
  · exact head_ne (by rw [hh]; decide)
  · exact head_ne (by rw [hh]; decide)
  · exact head_ne (by rw [hh]; decide)
  · unfold teB
    have : xMore more ≠ nTe := head_ne (by rw [hh]; decide)
    simp [teF, this]
theorem right_x (more : ByteArray) : rightL [⟨xMore more, bY, false⟩] = tokB (xMore more) := by
  have hh := xMore_hd more
  have h1 : connB (xMore more) = false := by
    unfold connB
    rw [decide_eq_false (head_ne (by rw [hh]; decide)), decide_eq_false (head_ne (by rw [hh]; decide)), decide_eq_false (head_ne (by rw [hh]; decide)), decide_eq_false (head_ne (by rw [hh]; decide)), decide_eq_false (head_ne (by rw [hh]; decide))]
    rfl
  unfold rightL rightF
  simp only [List.all_cons, List.all_nil, Bool.and_true]
  rw [h1, show valB bY = true by decide]
  simp
theorem read_x {q : Rq} {e : Bool} (h : Good q) (he : (e && decide (0 < q.n)) = false) (more : ByteArray) : readR (fieldsL q ++ [⟨xMore more, bY, false⟩]) e = if tokB (xMore more) = true then some q else none := by
  by_cases ht : tokB (xMore more) = true
  · rw [if_pos ht]
    exact read_back h he (free_x more) (by rw [right_x]; exact ht)
  · rw [if_neg ht]
    refine read_wrong ?_
    rw [(back_parts q _ (free_x more).ps).2]
    have : rightL [⟨xMore more, bY, false⟩] = false := by rw [right_x]; simpa using ht
    unfold rightL at *
    rw [List.all_append, this, Bool.and_false]
theorem read_c {q : Rq} {e : Bool} (more : ByteArray) : readR (fieldsL q ++ [⟨bX, bY, false⟩, ⟨cMore more, bY, false⟩]) e = none := by
  refine read_wrong ?_
  rw [(back_parts q _ (fun f hf => by simp at hf; subst hf; show prefB bColon bX = false; decide)).2]
  have ht : tokB (cMore more) = false := by
    cases hb : tokB (cMore more) with
    | false => rfl
    | true =>
      obtain ⟨-, -, ha⟩ := madeB_parts hb
      have hm : (bts (cMore more)).headD 0 ∈ bts (cMore more) := by unfold cMore; rw [bts_cat]; exact List.mem_cons_self
      rw [cMore_hd] at hm
      have := List.all_eq_true.1 ha 58 hm
      exact absurd this (by decide)
  have : rightF ⟨cMore more, bY, false⟩ = false := by
    unfold rightF
    simp only
    rw [ht]
    rfl
  unfold rightL
  rw [List.all_append, List.all_cons, List.all_cons, this]
  simp
end Go.Proofs.YtlbhnbloanamfaaDoor
