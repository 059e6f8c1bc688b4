/-
  Layer 9: what is put is read as it was, or is a fault: the plain lists.
-/
import Derived.Test.YtefdhbljcnpggaaFrPut
import Derived.Test.YtefdhbljcnpggaaFrRead
namespace Go.Proofs.Ytefdhbljcnpggaa

theorem numL_num4 (x : Int) (h0 : 0 ≤ x) (h1 : x ≤ 4294967295) (T : List Int) : numL ((num4 x ++ T).take 4) = x := by
  simp [num4, numL]
  omega
theorem drop_num4 (x : Int) (T : List Int) : (num4 x ++ T).drop 4 = T := by simp [num4]
theorem cut_ifB (b : Bool) (k : Nat) (A T : List Int) (hA : A.length = k) : cutB b k (ifB b A ++ T) = T := by
  subst hA
  cases b <;> simp [cutB, ifB]

/-- A payload without Pad's byte and the zeros. -/
def Fr.mid (F : Fr) (l : List Pr) : List Int :=
  ifB (shD F.ty F.fl) (num4 F.top ++ [F.wt]) ++ (ifB (shL F.ty) (num4 F.last) ++ (ifB (shC F.ty) (num4 F.code) ++ (ifB (shI F.ty) (num4 F.inc) ++ (prB l ++ bts F.data))))
theorem lay_mid (F : Fr) (l : List Pr) : F.lay l [] = ifB (shP F.ty F.fl) [F.pad] ++ F.mid l ++ zs F.pad.toNat := by simp [Fr.lay, Fr.mid]

theorem prAt_prB (l : List Pr) (hp : AllP l) : ∀ k (p : Pr), l[k]? = some p → prAt (prB l) k = p := by
  induction l with
  | nil => intro k p h; simp at h
  | cons a l ih =>
    intro k p h
    cases k with
    | zero =>
      simp at h
      subst h
      obtain ⟨a0, a1, a2, a3⟩ := hp _ (List.mem_cons_self)
      have e1 : 256 * (a.i / 256 % 256) + a.i % 256 = a.i := by omega
      have e2 := numL_num4 a.v a2 a3 (prB l)
      have e3 : (prAt (prB (a :: l)) 0) = ⟨256 * (a.i / 256 % 256) + a.i % 256, numL ((num4 a.v ++ prB l).take 4)⟩ := by simp [prAt, prB]
      rw [e3, e1, e2]
    | succ k =>
      have h' : l[k]? = some p := by simpa using h
      rw [← ih (fun q hq => hp q (List.mem_cons_of_mem _ hq)) k p h']
      unfold prAt
      have ed : ∀ j, (prB (a :: l)).drop (6 + j) = (prB l).drop j := fun j => by
        rw [← List.drop_drop]
        congr 1
      have eg : ∀ j, (prB (a :: l)).getD (6 + j) 0 = (prB l).getD j 0 := fun j => by
        rw [show 6 + j = j + 6 by omega]
        simp [prB, num4, List.getD]
      rw [show 6 * (k + 1) = 6 + 6 * k by omega, show 6 + 6 * k + 1 = 6 + (6 * k + 1) by omega, show 6 + 6 * k + 2 = 6 + (6 * k + 2) by omega, eg, eg, ed]
theorem prsL_prB (l : List Pr) (hp : AllP l) : prsL (prB l) l.length = l := by
  apply List.ext_getElem
  · rw [prsL_len]
  · intro i h1 h2
    simp only [prsL, List.getElem_map, List.getElem_range]
    exact prAt_prB l hp i _ (List.getElem?_eq_getElem h2)

/-- What a frame's fields are if they fit. -/
theorem fit_fields {F : Fr} {n : Nat} (h : F.fitB n = true) :
    (shP F.ty F.fl = false → F.pad = 0) ∧ (shD F.ty F.fl = false → F.dep = 0 ∧ F.sole = false ∧ F.wt = 0) ∧ (shL F.ty = false → F.last = 0) ∧ (shC F.ty = false → F.code = 0) ∧ (shI F.ty = false → F.inc = 0) ∧
    (shR F.ty F.fl = false → n = 0) ∧ (shX F.ty = false → F.data.size = 0) := by
  unfold Fr.fitB fitV at h
  rw [is_empty] at h
  refine ⟨fun e => ?_, fun e => ?_, fun e => ?_, fun e => ?_, fun e => ?_, fun e => ?_, fun e => ?_⟩
  all_goals
    rw [e] at h
    simp at h
    simp [h]

theorem fill_mid {F : Fr} {l : List Pr} (hfit : F.fitB l.length = true) (hin : F.inB = true) (hc0 : 0 ≤ F.code) (hc1 : F.code ≤ 4294967295) :
    fillF (shD F.ty F.fl) (shL F.ty) (shC F.ty) (shI F.ty) (shX F.ty) (Fr.start F.ty F.fl F.st F.pad) (F.mid l) = F := by
  obtain ⟨_, fD, fL, fC, fI, fR, fX⟩ := fit_fields hfit
  obtain ⟨_, _, d0, d1, l0, l1, n0, n1, _, _⟩ := (inB_iff F).1 hin
  have hXl : shX F.ty = true → l = [] := fun hx => by
    have hR : shR F.ty F.fl = false := by
      cases hr : shR F.ty F.fl with
      | false => rfl
      | true =>
        have h4 : F.ty = 4 := by
          unfold shR at hr
          simp at hr
          exact hr.1
        rw [h4] at hx
        exact absurd hx (by decide)
    exact List.eq_nil_of_length_eq_zero (fR hR)
  unfold Fr.mid fillF
  simp only
  rw [cut_ifB (shD F.ty F.fl) 5 _ _ (by simp [num4]), cut_ifB (shL F.ty) 4 _ _ (num4_len _), cut_ifB (shC F.ty) 4 _ _ (num4_len _), cut_ifB (shI F.ty) 4 _ _ (num4_len _)]
  have ht : (if F.sole then F.dep + 2147483648 else F.dep) = F.top := rfl
  have ht0 : 0 ≤ F.top := by rw [← ht]; split <;> omega
  have ht1 : F.top ≤ 4294967295 := by rw [← ht]; split <;> omega
  have hs : decide (2147483648 ≤ F.top) = F.sole := by
    rw [← ht]
    cases hso : F.sole
    · simp; omega
    · simp; omega
  have hd : F.top % 2147483648 = F.dep := by rw [← ht]; split <;> omega
  have eD : ∀ T, fillD (shD F.ty F.fl) (Fr.start F.ty F.fl F.st F.pad) (ifB (shD F.ty F.fl) (num4 F.top ++ [F.wt]) ++ T) = { Fr.start F.ty F.fl F.st F.pad with dep := F.dep, sole := F.sole, wt := F.wt } := by
    intro T
    cases h : shD F.ty F.fl with
    | false =>
      obtain ⟨e1, e2, e3⟩ := fD h
      rw [e1, e2, e3]
      rfl
    | true =>
      have e1 := numL_num4 F.top ht0 ht1 ([F.wt] ++ T)
      have e2 : (num4 F.top ++ ([F.wt] ++ T)).getD 4 0 = F.wt := by simp [num4]
      simp only [fillD, ifB, if_true, List.append_assoc]
      rw [e1, e2, hs, hd]
  have eL : ∀ (G : Fr) T, G.last = 0 → fillL (shL F.ty) G (ifB (shL F.ty) (num4 F.last) ++ T) = { G with last := F.last } := by
    intro G T hG
    cases h : shL F.ty with
    | false => rw [fL h, ← hG]; rfl
    | true =>
      simp only [fillL, ifB, if_true]
      rw [numL_num4 F.last l0 (by omega), Int.emod_eq_of_lt l0 (by omega)]
  have eC : ∀ (G : Fr) T, G.code = 0 → fillC (shC F.ty) G (ifB (shC F.ty) (num4 F.code) ++ T) = { G with code := F.code } := by
    intro G T hG
    cases h : shC F.ty with
    | false => rw [fC h, ← hG]; rfl
    | true =>
      simp only [fillC, ifB, if_true]
      rw [numL_num4 F.code hc0 hc1]
  have eI : ∀ (G : Fr) T, G.inc = 0 → fillI (shI F.ty) G (ifB (shI F.ty) (num4 F.inc) ++ T) = { G with inc := F.inc } := by
    intro G T hG
    cases h : shI F.ty with
    | false => rw [fI h, ← hG]; rfl
    | true =>
      simp only [fillI, ifB, if_true]
      rw [numL_num4 F.inc n0 (by omega), Int.emod_eq_of_lt n0 (by omega)]
  have eX : ∀ (G : Fr), G.data = ⟨#[]⟩ → fillX (shX F.ty) G (prB l ++ bts F.data) = { G with data := F.data } := by
    intro G hG
    cases h : shX F.ty with
    | false => rw [ba_empty (fX h), ← hG]; rfl
    | true =>
      rw [hXl h]
      simp only [fillX, if_true, prB, List.nil_append]
      rw [str_bts]
  rw [eD, eL _ _ rfl, eC _ _ rfl, eI _ _ rfl, eX _ rfl]
  rfl

theorem mid_len (F : Fr) (l : List Pr) : ((F.mid l).length : Int) = fixT F.ty F.fl + 6 * (l.length : Int) + (F.data.size : Int) := by
  unfold Fr.mid fixT fixN b4
  simp only [List.length_append, prB_len, bts_len]
  have e2 : (ifB (shD F.ty F.fl) (num4 F.top ++ [F.wt])).length = if shD F.ty F.fl then 5 else 0 := by cases shD F.ty F.fl <;> rfl
  have e3 : (ifB (shL F.ty) (num4 F.last)).length = if shL F.ty then 4 else 0 := by cases shL F.ty <;> rfl
  have e4 : (ifB (shC F.ty) (num4 F.code)).length = if shC F.ty then 4 else 0 := by cases shC F.ty <;> rfl
  have e5 : (ifB (shI F.ty) (num4 F.inc)).length = if shI F.ty then 4 else 0 := by cases shI F.ty <;> rfl
  rw [e2, e3, e4, e5]
  cases shD F.ty F.fl <;> cases shL F.ty <;> cases shC F.ty <;> cases shI F.ty <;> simp <;> omega

theorem right_mid {F : Fr} {l : List Pr} (h0 : 0 ≤ F.ty) (hfit : F.fitB l.length = true) (h6 : F.ty = 6 → F.data.size = 8) : rightB F.ty F.fl ((F.mid l).length) = true := by
  obtain ⟨_, _, _, _, _, fR, fX⟩ := fit_fields hfit
  have hm := mid_len F l
  have hb := fixN_bd (shD F.ty F.fl) (shL F.ty) (shC F.ty) (shI F.ty)
  generalize ((F.mid l).length : Int) = m at hm ⊢
  unfold rightB
  split
  · rename_i ht
    have e1 := h6 ht
    have hR : shR F.ty F.fl = false := by rw [ht]; rfl
    have e2 := fR hR
    have e3 : fixT F.ty F.fl = 0 := by rw [ht]; rfl
    simp
    omega
  · split
    · rename_i hr
      have h4 : F.ty = 4 := by
        unfold shR at hr
        simp at hr
        exact hr.1
      have e1 := fX (by rw [h4]; rfl)
      have e3 : fixT F.ty F.fl = 0 := by rw [h4]; rfl
      simp
      omega
    · split
      · simp
        have : fixT F.ty F.fl = fixN (shD F.ty F.fl) (shL F.ty) (shC F.ty) (shI F.ty) := rfl
        omega
      · rename_i hr hx
        have e1 := fX (by simpa using hx)
        have e2 := fR (by simpa using hr)
        simp
        omega

/-- What was put is read as it was, or is a fault, whatever the padding has. -/
theorem read_put {F : Fr} {l : List Pr} (h0 : 0 ≤ F.ty) (hp : AllP l) (hc0 : 0 ≤ F.code) (hc1 : F.code ≤ 4294967295) (hchk : F.chk l.length = 0) (Z : List Int) (hZ : Z.length = F.pad.toNat) :
    readR F.ty F.fl F.st (ifB (shP F.ty F.fl) [F.pad] ++ F.mid l ++ Z) = ⟨F, l, 0, 0⟩ ∨ ∃ c s, ¬ c = 0 ∧ readR F.ty F.fl F.st (ifB (shP F.ty F.fl) [F.pad] ++ F.mid l ++ Z) = Rd.fault c s := by
  obtain ⟨hin, hfit, h6, hsz⟩ := chk_zero hchk
  obtain ⟨fP, _, _, _, _, fR, _⟩ := fit_fields hfit
  obtain ⟨_, _, _, _, _, _, _, _, p0, p1⟩ := (inB_iff F).1 hin
  have hbody : bodyR F.ty F.fl (ifB (shP F.ty F.fl) [F.pad] ++ F.mid l ++ Z) = F.mid l ∧ padR F.ty F.fl (ifB (shP F.ty F.fl) [F.pad] ++ F.mid l ++ Z) = F.pad := by
    unfold bodyR padR
    cases h : shP F.ty F.fl with
    | false =>
      have e := fP h
      have : Z = [] := List.eq_nil_of_length_eq_zero (by rw [hZ, e]; rfl)
      subst this
      simp [ifB, e]
    | true =>
      simp [ifB, hZ]
  have hlen : shP F.ty F.fl = true → ¬ (ifB (shP F.ty F.fl) [F.pad] ++ F.mid l ++ Z).length = 0 ∧ ¬ ((ifB (shP F.ty F.fl) [F.pad] ++ F.mid l ++ Z).length : Int) - 1 < (ifB (shP F.ty F.fl) [F.pad] ++ F.mid l ++ Z).getD 0 0 := fun h => by
    rw [h]
    simp [ifB, hZ]
    omega
  unfold readR
  split
  · exact .inr ⟨1, 0, by omega, rfl⟩
  rw [if_neg (fun h => (hlen h.1).1 h.2), if_neg (fun h => (hlen h.1).2 h.2), hbody.1, if_neg (by rw [right_mid h0 hfit h6]; simp)]
  have hfill : fillR F.ty F.fl F.st (ifB (shP F.ty F.fl) [F.pad] ++ F.mid l ++ Z) = F := by
    unfold fillR
    rw [hbody.1, hbody.2]
    exact fill_mid hfit hin hc0 hc1
  have hprs : prsRd F.ty F.fl (ifB (shP F.ty F.fl) [F.pad] ++ F.mid l ++ Z) = l := by
    unfold prsRd prsR
    rw [hbody.1]
    cases hr : shR F.ty F.fl with
    | false => exact (List.eq_nil_of_length_eq_zero (fR hr)).symm
    | true =>
      have h4 : F.ty = 4 := by
        unfold shR at hr
        simp at hr
        exact hr.1
      have hd := (fit_fields hfit).2.2.2.2.2.2 (by rw [h4]; rfl)
      have hm : F.mid l = prB l := by
        unfold Fr.mid
        rw [h4, ba_empty hd]
        simp [shD, shL, shC, shI, ifB, bts_nil]
      rw [hm, prB_len, Nat.mul_div_cancel _ (by omega)]
      simpa using prsL_prB l hp
  rw [hfill, hprs]
  split
  · exact .inr ⟨1, _, by omega, rfl⟩
  · exact .inl rfl
end Go.Proofs.Ytefdhbljcnpggaa
