/-
  Layer 18: Fields, the program's and the document's (written by gen18fields.py).
-/
import Derived.Test.YtdnopjopdklelaaDoorRnTold
import Derived.Deep.CutRange
namespace Go.Proofs.YtdnopjopdklelaaDoor
set_option linter.unusedSimpArgs false
set_option linter.unusedVariables false
open Go.RowKit

/-- What is answered. -/
def fldsP (x : Rp) : List Fd := if okP x = true then fieldsP x else []
theorem fldsP_yes {x : Rp} (h : okP x = true) : fldsP x = fieldsP x := if_pos h
theorem fldsP_no {x : Rp} (h : okP x = false) : fldsP x = [] := if_neg (by rw [h]; simp)
def GivesFlE (w : World) (x : Rp) (e : Ending) (w' : World) : Prop := ∃ v, e = .returned (.tuple #[v, .int .i64 (chkP x)]) ∧ w'.ownsRow w.heap.size 51 3 v (fldsP x).length (fcs (fldsP x)) ∧ Below w.heap.size w w'
/-- What stands all through Fields: the box, and the row so far. -/
structure RnS (w0 : World) (T : TypeId) (cs : Array Value) (L : List Fd) (v : Value) (n : Nat) (w : World) : Prop where
  own : w.ownsRow (w0.heap.size + 1) 51 3 v n (fcs L)
  len : L.length = n
  box : BlkIs w w0.heap.size T cs
  b : Below w0.heap.size w0 w
section
variable {w0 w w' : World} {T : TypeId} {cs : Array Value} {L : List Fd} {v : Value} {n : Nat}
theorem RnS.low (h : RnS w0 T cs L v n w) (hb : Below w.heap.size w w') : RnS w0 T cs L v n w' :=
  ⟨own_lowF h.own hb, h.len, h.box.keep hb, h.b.trans (hb.mono h.b.size)⟩
theorem RnS.more (h : RnS w0 T cs L v n w) (f : Fd) {v' : Value} (ho : w'.ownsRow (w0.heap.size + 1) 51 3 v' (n + 1) (fcs (L ++ [f]))) (hg : w.grownBy w' v.ownBlock) : RnS w0 T cs (L ++ [f]) v' (n + 1) w' :=
  ⟨ho, by rw [List.length_append, h.len]; rfl, h.box.grown hg (own_neF h.own (by omega)), own_bel h.own h.b (by omega) (Nat.le_refl _) hg⟩
/-- Behind the first two fields. -/
theorem RnS.new {w1 w2 : World} {a b : ByteArray} (hx : BlkIs w1 w0.heap.size T cs) (hb : Below w0.heap.size w0 w1) (h : Below w1.heap.size w1 w2) :
    RnS w0 T cs [⟨nStat, a, false⟩, ⟨nLen, b, false⟩] (.slice (some ⟨w2.heap.size, 0, none⟩) 2 2) 2 (w2.alloc (.cells #[.string nStat, .string a, .bool false, .string nLen, .string b, .bool false] 51)) :=
  ⟨own_newF _ [⟨nStat, a, false⟩, ⟨nLen, b, false⟩] 2 rfl (by omega) (BlkIs.new w2 51 #[.string nStat, .string a, .bool false, .string nLen, .string b, .bool false]) (by have := (hx.keep h).lt; omega), rfl, (hx.keep h).alloc _, (hb.trans (h.mono hb.size)).alloc (hb.trans (h.mono hb.size)).size _⟩
end

set_option maxRecDepth 100000 in
set_option maxHeartbeats 3200000 in
theorem rn_Fields (s l r : Int) (w : World) (ht : TabOk w) :
    Calls Tryd.prog 6 #[.agg #[.int .i64 s, .int .i64 l, .int .i64 r]] w (GivesFlE w ⟨s, l, r⟩) := by
  have HCK := hide (fun w => rn_Check s l r w)
  obtain ⟨C, hC⟩ : ∃ C, C = chkP ⟨s, l, r⟩ := ⟨_, rfl⟩
  rw [← hC] at HCK
  have HB0 := hide (bel1 w (.cells #[.int .i64 s, .int .i64 l, .int .i64 r] 28))
  have HX0 := hide (BlkIs.new w 28 #[.int .i64 s, .int .i64 l, .int .i64 r])
  have HT0 := hide (ht.keep HB0.out)
  have HT2 := hide (fun w' (hb : Below w.heap.size w w') => ht.keep hb)
  clear ht
  by_cases hok : okP ⟨s, l, r⟩ = true
  · obtain ⟨q1, q2, q3, q4, q5, q6⟩ := okP_bd hok
    simp only at q1 q2 q3 q4 q5 q6
    have HOK := hide hok
    rw [chkP_yes hok] at hC
    subst hC
    have hbt := fd_built
    obtain ⟨X1, hX1⟩ : ∃ X, X = itoaB s := ⟨_, rfl⟩
    obtain ⟨X2, hX2⟩ : ∃ X, X = itoaB l := ⟨_, rfl⟩
    have HXS := hide hX1
    have HXL := hide hX2
    clear hok hX1 hX2
    go_enter Tryd.func6, Tryd.ntmps6
    go_wp2_with fail
    refine (HCK.out _).mono ?_
    rintro e w1 ⟨rfl, hb1⟩
    have HB1 := hide (HB0.out.trans (hb1.mono HB0.out.size))
    have HBX := hide (HX0.out.keep hb1)
    have HT := hide (HT0.out.keep hb1)
    clear hb1 HB0 HX0
    go_upto_region 4 with (fail)
    go_cut [5] from 11 to 17 (fun s5 wx => ∃ v, s5 = v ∧ Hid (RnS w 28 #[.int .i64 s, .int .i64 l, .int .i64 r] [⟨nStat, X1, false⟩, ⟨nLen, X2, false⟩] v 2 wx))
    case first =>
      refine wp_region_noPanic ?_
      refine wp_region_held_drew (S := fun w' => Below w1.heap.size w1 w') (by kernel_rfl) (Below.refl _ _).drew (fun hS => ?_)
      generalize w1.drew = wd at hS ⊢
      refine wpAnyH_take (i := 0) (v := ?_) (by simp only [List.getElem?_toArray, List.getElem?_cons_succ, List.getElem?_cons_zero] <;> exact rfl) (by kernel_rfl) (by kernel_rfl) (by kernel_rfl) (fun _ _ _ h => h) (Or.inl ⟨by rfl, ?_⟩) hS ?_
      rotate_left
      focus (intro w' hw'; go_simp; all_goals with_reducible rfl)
      try simp only [Act.put, List.setIfInBounds_toArray, List.set_cons_zero, List.set_cons_succ]
      refine wpAnyH_take (i := 1) (v := ?_) (by simp only [List.getElem?_toArray, List.getElem?_cons_succ, List.getElem?_cons_zero] <;> exact rfl) (by kernel_rfl) (by kernel_rfl) (by kernel_rfl) (fun _ _ _ h => h) (Or.inl ⟨by rfl, ?_⟩) hS ?_
      rotate_left
      focus (intro w' hw'; have kk := (HBX.out.keep hw').cell 0; simp only [List.getElem?_toArray, List.getElem?_cons_zero, List.getElem?_cons_succ] at kk; go_simp; all_goals with_reducible rfl)
      try simp only [Act.put, List.setIfInBounds_toArray, List.set_cons_zero, List.set_cons_succ]
      refine wpAnyH_take (i := 3) (v := ?_) (by simp only [List.getElem?_toArray, List.getElem?_cons_succ, List.getElem?_cons_zero] <;> exact rfl) (by kernel_rfl) (by kernel_rfl) (by kernel_rfl) (fun _ _ _ h => h) (Or.inl ⟨by rfl, ?_⟩) hS ?_
      rotate_left
      focus (intro w' hw'; go_simp; all_goals with_reducible rfl)
      try simp only [Act.put, List.setIfInBounds_toArray, List.set_cons_zero, List.set_cons_succ]
      refine wpAnyH_take (i := 4) (v := ?_) (by simp only [List.getElem?_toArray, List.getElem?_cons_succ, List.getElem?_cons_zero] <;> exact rfl) (by kernel_rfl) (by kernel_rfl) (by kernel_rfl) (fun _ _ _ h => h) (Or.inl ⟨by rfl, ?_⟩) hS ?_
      rotate_left
      focus (intro w' hw'; have kk := (HBX.out.keep hw').cell 1; simp only [List.getElem?_toArray, List.getElem?_cons_zero, List.getElem?_cons_succ] at kk; go_simp; all_goals with_reducible rfl)
      try simp only [Act.put, List.setIfInBounds_toArray, List.set_cons_zero, List.set_cons_succ]
      refine wpAnyH_ready (rs := [2]) (by kernel_rfl) (by simp) ?_
      refine AllReadyH.cons (o := _) (by simp only [List.getElem?_toArray, List.getElem?_cons_succ, List.getElem?_cons_zero] <;> exact rfl) (fun K hK => ?_) ?_
      focus (
        go_simp
        go_at_call 20
        refine (rn_told _ s (by omega) (by omega) _ (HT.out.keep hS)).mono ?_
        rintro e wc1 ⟨rfl, hb⟩
        rw [← HXS.out]
        have hS := hS.trans (hb.mono hS.size)
        clear hb
        go_wp2_with fail
        refine hK.out _ _ hS (fun _ => ?_)
        clear hK K
        try simp only [Act.put, List.setIfInBounds_toArray, List.set_cons_zero, List.set_cons_succ]
        refine wpAnyH_ready (rs := [5]) (by kernel_rfl) (by simp) ?_
        refine AllReadyH.cons (o := _) (by simp only [List.getElem?_toArray, List.getElem?_cons_succ, List.getElem?_cons_zero] <;> exact rfl) (fun K hK => ?_) ?_
        focus (
          go_simp
          go_at_call 20
          refine (rn_told _ l (by omega) (by omega) _ (HT.out.keep hS)).mono ?_
          rintro e wc2 ⟨rfl, hb⟩
          rw [← HXL.out]
          have hS := hS.trans (hb.mono hS.size)
          clear hb
          go_wp2_with fail
          refine hK.out _ _ hS (fun _ => ?_)
          clear hK K
          try simp only [Act.put, List.setIfInBounds_toArray, List.set_cons_zero, List.set_cons_succ]
          refine wpAnyH_ready (rs := [6]) (by kernel_rfl) (by simp) ?_
          refine AllReadyH.cons (o := _) (by simp only [List.getElem?_toArray, List.getElem?_cons_succ, List.getElem?_cons_zero] <;> exact rfl) (fun K hK => ?_) ?_
          focus (
            go_simp
            have HZ := hide hS
            have hS := hS.alloc hS.size (.cells #[.string ⟨#[58, 115, 116, 97, 116, 117, 115]⟩, .string X1, .bool false, .string ⟨#[99, 111, 110, 116, 101, 110, 116, 45, 108, 101, 110, 103, 116, 104]⟩, .string X2, .bool false] 51)
            refine hK.out _ _ hS (fun _ => ?_)
            clear hK K
            try simp only [Act.put, List.setIfInBounds_toArray, List.set_cons_zero, List.set_cons_succ]
            refine wpAnyH_take (i := 7) (v := ?_) (by simp only [List.getElem?_toArray, List.getElem?_cons_succ, List.getElem?_cons_zero] <;> exact rfl) (by kernel_rfl) (by kernel_rfl) (by kernel_rfl) (fun _ _ _ h => h) (Or.inl ⟨by rfl, ?_⟩) hS ?_
            rotate_left
            focus (intro w' hw'; go_simp; all_goals with_reducible rfl)
            try simp only [Act.put, List.setIfInBounds_toArray, List.set_cons_zero, List.set_cons_succ]
            refine wpAnyH_done (by kernel_rfl) ?_ _
            refine NoPanic.normal ?_
            clear hS
            go_wp2_with fail
            all_goals (go_meet; exact ⟨_, rfl, RnS.new HBX.out HB1.out HZ.out⟩))
          exact AllReadyH.nil)
        exact AllReadyH.nil)
      exact AllReadyH.nil
    case rest =>
      obtain ⟨v, rfl, HS0⟩ := hcut
      have k2 := HS0.out.box.cell 2
      simp only [List.getElem?_toArray, List.getElem?_cons_zero, List.getElem?_cons_succ] at k2
      by_cases h0 : r = 0
      · subst h0
        have HQ := hide (show fldsP ⟨s, l, 0⟩ = [⟨nStat, X1, false⟩, ⟨nLen, X2, false⟩] by rw [fldsP_yes HOK.out, HXS.out, HXL.out]; rfl)
        go_wp2_with fail
        go_ret2
        unfold GivesFlE
        rw [chkP_yes HOK.out]
        refine ⟨_, rfl, ?_, HS0.out.b⟩
        rw [HQ.out]
        exact own_baseF HS0.out.own (by omega)
      · have HQ := hide (show fldsP ⟨s, l, r⟩ = [⟨nStat, X1, false⟩, ⟨nLen, X2, false⟩] ++ [⟨nRetry, itoaB r, false⟩] by
          rw [fldsP_yes HOK.out, HXS.out, HXL.out]
          unfold fieldsP
          rw [if_neg h0])
        have d0 : (r != 0) = true := by simpa using h0
        have HW := hide HS0.out.b
        clear h0
        go_wp2_with fail
        refine (rn_told _ r (by omega) (by omega) _ (HT2.out _ HS0.out.b)).mono ?_
        rintro e w3 ⟨rfl, hb3⟩
        obtain ⟨X3, hX3⟩ : ∃ X, X = itoaB r := ⟨_, rfl⟩
        rw [← hX3] at HQ ⊢
        have HSB := hide (HS0.out.low hb3)
        have HSA := hide (HSB.out.low (bel1 w3 (.cells #[.string nRetry, .string X3, .bool false] 51)))
        have HFA := hide (fl_new1 w3 nRetry X3 false)
        have HBS := hide (show w.heap.size + 1 ≤ w3.heap.size from HSB.out.box.lt)
        simp only [nRetry] at HSA HFA
        clear hb3 hX3
        go_wp2_with (at_builtin; refine wpList_append_fl _ rfl (.tmp 21) (.tmp 25) rfl (w.heap.size + 1) _ 2 [⟨nStat, X1, false⟩, ⟨nLen, X2, false⟩] rfl HSA.out.own (some ⟨w3.heap.size, 0, none⟩) 1 1 [⟨⟨#[114, 101, 116, 114, 121, 45, 97, 102, 116, 101, 114]⟩, X3, false⟩] rfl HFA.out (by omega) (by have := HBS.out; simp; omega) ?_; intro v1 wz hown1 hg1; have HO1 := hide hown1; have HG1 := hide hg1; clear hown1 hg1)
        go_ret2
        unfold GivesFlE
        rw [chkP_yes HOK.out]
        refine ⟨_, rfl, ?_, (HSA.out.more _ HO1.out HG1.out).b⟩
        rw [HQ.out]
        exact own_baseF (HSA.out.more _ HO1.out HG1.out).own (by omega)
  · have hno : okP ⟨s, l, r⟩ = false := by simpa using hok
    rw [chkP_no hno] at hC
    subst hC
    have HNO := hide hno
    clear hok hno
    go_enter Tryd.func6, Tryd.ntmps6
    go_wp2_with fail
    refine (HCK.out _).mono ?_
    rintro e w1 ⟨rfl, hb1⟩
    have HB1 := hide (HB0.out.trans (hb1.mono HB0.out.size))
    clear hb1 HB0 HX0
    go_wp2_with fail
    go_ret2
    unfold GivesFlE
    rw [chkP_no HNO.out]
    refine ⟨_, rfl, ?_, HB1.out⟩
    rw [fldsP_no HNO.out]
    exact World.ownsRow_nil _ _ _ _

set_option maxRecDepth 100000 in
set_option maxHeartbeats 3200000 in
theorem rm_Fields (s l r : Int) (w : World) :
    Calls Tryd.prog 7 #[.agg #[.int .i64 s, .int .i64 l, .int .i64 r]] w (GivesFlE w ⟨s, l, r⟩) := by
  have HCK := hide (fun w => rm_Check s l r w)
  obtain ⟨C, hC⟩ : ∃ C, C = chkP ⟨s, l, r⟩ := ⟨_, rfl⟩
  rw [← hC] at HCK
  have HB0 := hide (bel1 w (.cells #[.int .i64 s, .int .i64 l, .int .i64 r] 23))
  have HX0 := hide (BlkIs.new w 23 #[.int .i64 s, .int .i64 l, .int .i64 r])
  by_cases hok : okP ⟨s, l, r⟩ = true
  · obtain ⟨q1, q2, q3, q4, q5, q6⟩ := okP_bd hok
    simp only at q1 q2 q3 q4 q5 q6
    have HOK := hide hok
    rw [chkP_yes hok] at hC
    subst hC
    have hbt := fd_built
    have HS1 := hide (fun w => rm_show 2 s.toNat w (by omega) (by omega))
    have HS2 := hide (fun w => rm_show 8 l.toNat w (by omega) (by omega))
    have HS3 := hide (fun w => rm_show 8 r.toNat w (by omega) (by omega))
    rw [Int.toNat_of_nonneg (by omega)] at HS1 HS2 HS3
    obtain ⟨X1, hX1⟩ : ∃ X, X = itoaB s := ⟨_, rfl⟩
    obtain ⟨X2, hX2⟩ : ∃ X, X = itoaB l := ⟨_, rfl⟩
    have HXS := hide hX1
    have HXL := hide hX2
    clear hok hX1 hX2
    go_enter Tryd.func7, Tryd.ntmps7
    go_wp2_with fail
    refine (HCK.out _).mono ?_
    rintro e w1 ⟨rfl, hb1⟩
    have HB1 := hide (HB0.out.trans (hb1.mono HB0.out.size))
    have HBX := hide (HX0.out.keep hb1)
    clear hb1 HB0 HX0
    go_upto_region 4 with (fail)
    go_cut [5] from 11 to 19 (fun s5 wx => ∃ v, s5 = v ∧ Hid (RnS w 23 #[.int .i64 s, .int .i64 l, .int .i64 r] [⟨nStat, X1, false⟩, ⟨nLen, X2, false⟩] v 2 wx))
    case first =>
      refine wp_region_noPanic ?_
      refine wp_region_held_drew (S := fun w' => Below w1.heap.size w1 w') (by kernel_rfl) (Below.refl _ _).drew (fun hS => ?_)
      generalize w1.drew = wd at hS ⊢
      refine wpAnyH_take (i := 0) (v := ?_) (by simp only [List.getElem?_toArray, List.getElem?_cons_succ, List.getElem?_cons_zero] <;> exact rfl) (by kernel_rfl) (by kernel_rfl) (by kernel_rfl) (fun _ _ _ h => h) (Or.inl ⟨by rfl, ?_⟩) hS ?_
      rotate_left
      focus (intro w' hw'; go_simp; all_goals with_reducible rfl)
      try simp only [Act.put, List.setIfInBounds_toArray, List.set_cons_zero, List.set_cons_succ]
      refine wpAnyH_take (i := 1) (v := ?_) (by simp only [List.getElem?_toArray, List.getElem?_cons_succ, List.getElem?_cons_zero] <;> exact rfl) (by kernel_rfl) (by kernel_rfl) (by kernel_rfl) (fun _ _ _ h => h) (Or.inl ⟨by rfl, ?_⟩) hS ?_
      rotate_left
      focus (intro w' hw'; have kk := (HBX.out.keep hw').cell 0; simp only [List.getElem?_toArray, List.getElem?_cons_zero, List.getElem?_cons_succ] at kk; go_simp; all_goals with_reducible rfl)
      try simp only [Act.put, List.setIfInBounds_toArray, List.set_cons_zero, List.set_cons_succ]
      refine wpAnyH_take (i := 4) (v := ?_) (by simp only [List.getElem?_toArray, List.getElem?_cons_succ, List.getElem?_cons_zero] <;> exact rfl) (by kernel_rfl) (by kernel_rfl) (by kernel_rfl) (fun _ _ _ h => h) (Or.inl ⟨by rfl, ?_⟩) hS ?_
      rotate_left
      focus (intro w' hw'; go_simp; all_goals with_reducible rfl)
      try simp only [Act.put, List.setIfInBounds_toArray, List.set_cons_zero, List.set_cons_succ]
      refine wpAnyH_take (i := 5) (v := ?_) (by simp only [List.getElem?_toArray, List.getElem?_cons_succ, List.getElem?_cons_zero] <;> exact rfl) (by kernel_rfl) (by kernel_rfl) (by kernel_rfl) (fun _ _ _ h => h) (Or.inl ⟨by rfl, ?_⟩) hS ?_
      rotate_left
      focus (intro w' hw'; have kk := (HBX.out.keep hw').cell 1; simp only [List.getElem?_toArray, List.getElem?_cons_zero, List.getElem?_cons_succ] at kk; go_simp; all_goals with_reducible rfl)
      try simp only [Act.put, List.setIfInBounds_toArray, List.set_cons_zero, List.set_cons_succ]
      refine wpAnyH_ready (rs := [2]) (by kernel_rfl) (by simp) ?_
      refine AllReadyH.cons (o := _) (by simp only [List.getElem?_toArray, List.getElem?_cons_succ, List.getElem?_cons_zero] <;> exact rfl) (fun K hK => ?_) ?_
      focus (
        go_simp
        go_at_call 21
        refine (HS1.out _).mono ?_
        rintro e wc1 ⟨rfl, hb⟩
        rw [← HXS.out]
        have hS := hS.trans (hb.mono hS.size)
        clear hb
        go_wp2_with fail
        refine hK.out _ _ hS (fun _ => ?_)
        clear hK K
        try simp only [Act.put, List.setIfInBounds_toArray, List.set_cons_zero, List.set_cons_succ]
        refine wpAnyH_take (i := 3) (v := ?_) (by simp only [List.getElem?_toArray, List.getElem?_cons_succ, List.getElem?_cons_zero] <;> exact rfl) (by kernel_rfl) (by kernel_rfl) (by kernel_rfl) (fun _ _ _ h => h) (Or.inl ⟨by rfl, ?_⟩) hS ?_
        rotate_left
        focus (intro w' hw'; go_simp; all_goals with_reducible rfl)
        try simp only [Act.put, List.setIfInBounds_toArray, List.set_cons_zero, List.set_cons_succ]
        refine wpAnyH_ready (rs := [6]) (by kernel_rfl) (by simp) ?_
        refine AllReadyH.cons (o := _) (by simp only [List.getElem?_toArray, List.getElem?_cons_succ, List.getElem?_cons_zero] <;> exact rfl) (fun K hK => ?_) ?_
        focus (
          go_simp
          go_at_call 21
          refine (HS2.out _).mono ?_
          rintro e wc2 ⟨rfl, hb⟩
          rw [← HXL.out]
          have hS := hS.trans (hb.mono hS.size)
          clear hb
          go_wp2_with fail
          refine hK.out _ _ hS (fun _ => ?_)
          clear hK K
          try simp only [Act.put, List.setIfInBounds_toArray, List.set_cons_zero, List.set_cons_succ]
          refine wpAnyH_take (i := 7) (v := ?_) (by simp only [List.getElem?_toArray, List.getElem?_cons_succ, List.getElem?_cons_zero] <;> exact rfl) (by kernel_rfl) (by kernel_rfl) (by kernel_rfl) (fun _ _ _ h => h) (Or.inl ⟨by rfl, ?_⟩) hS ?_
          rotate_left
          focus (intro w' hw'; go_simp; all_goals with_reducible rfl)
          try simp only [Act.put, List.setIfInBounds_toArray, List.set_cons_zero, List.set_cons_succ]
          refine wpAnyH_ready (rs := [8]) (by kernel_rfl) (by simp) ?_
          refine AllReadyH.cons (o := _) (by simp only [List.getElem?_toArray, List.getElem?_cons_succ, List.getElem?_cons_zero] <;> exact rfl) (fun K hK => ?_) ?_
          focus (
            go_simp
            have HZ := hide hS
            have hS := hS.alloc hS.size (.cells #[.string ⟨#[58, 115, 116, 97, 116, 117, 115]⟩, .string X1, .bool false, .string ⟨#[99, 111, 110, 116, 101, 110, 116, 45, 108, 101, 110, 103, 116, 104]⟩, .string X2, .bool false] 51)
            refine hK.out _ _ hS (fun _ => ?_)
            clear hK K
            try simp only [Act.put, List.setIfInBounds_toArray, List.set_cons_zero, List.set_cons_succ]
            refine wpAnyH_take (i := 9) (v := ?_) (by simp only [List.getElem?_toArray, List.getElem?_cons_succ, List.getElem?_cons_zero] <;> exact rfl) (by kernel_rfl) (by kernel_rfl) (by kernel_rfl) (fun _ _ _ h => h) (Or.inl ⟨by rfl, ?_⟩) hS ?_
            rotate_left
            focus (intro w' hw'; go_simp; all_goals with_reducible rfl)
            try simp only [Act.put, List.setIfInBounds_toArray, List.set_cons_zero, List.set_cons_succ]
            refine wpAnyH_done (by kernel_rfl) ?_ _
            refine NoPanic.normal ?_
            clear hS
            go_wp2_with fail
            all_goals (go_meet; exact ⟨_, rfl, RnS.new HBX.out HB1.out HZ.out⟩))
          exact AllReadyH.nil)
        exact AllReadyH.nil)
      exact AllReadyH.nil
    case rest =>
      obtain ⟨v, rfl, HS0⟩ := hcut
      have k2 := HS0.out.box.cell 2
      simp only [List.getElem?_toArray, List.getElem?_cons_zero, List.getElem?_cons_succ] at k2
      by_cases h0 : r = 0
      · subst h0
        have HQ := hide (show fldsP ⟨s, l, 0⟩ = [⟨nStat, X1, false⟩, ⟨nLen, X2, false⟩] by rw [fldsP_yes HOK.out, HXS.out, HXL.out]; rfl)
        go_wp2_with fail
        go_ret2
        unfold GivesFlE
        rw [chkP_yes HOK.out]
        refine ⟨_, rfl, ?_, HS0.out.b⟩
        rw [HQ.out]
        exact own_baseF HS0.out.own (by omega)
      · have HQ := hide (show fldsP ⟨s, l, r⟩ = [⟨nStat, X1, false⟩, ⟨nLen, X2, false⟩] ++ [⟨nRetry, itoaB r, false⟩] by
          rw [fldsP_yes HOK.out, HXS.out, HXL.out]
          unfold fieldsP
          rw [if_neg h0])
        have d0 : 0 < r := by omega
        have HW := hide HS0.out.b
        clear h0
        go_wp2_with fail
        refine (HS3.out _).mono ?_
        rintro e w3 ⟨rfl, hb3⟩
        obtain ⟨X3, hX3⟩ : ∃ X, X = itoaB r := ⟨_, rfl⟩
        rw [← hX3] at HQ ⊢
        have HSB := hide (HS0.out.low hb3)
        have HSA := hide (HSB.out.low (bel1 w3 (.cells #[.string nRetry, .string X3, .bool false] 51)))
        have HFA := hide (fl_new1 w3 nRetry X3 false)
        have HBS := hide (show w.heap.size + 1 ≤ w3.heap.size from HSB.out.box.lt)
        simp only [nRetry] at HSA HFA
        clear hb3 hX3
        go_wp2_with (at_builtin; refine wpList_append_fl _ rfl (.tmp 23) (.tmp 28) rfl (w.heap.size + 1) _ 2 [⟨nStat, X1, false⟩, ⟨nLen, X2, false⟩] rfl HSA.out.own (some ⟨w3.heap.size, 0, none⟩) 1 1 [⟨⟨#[114, 101, 116, 114, 121, 45, 97, 102, 116, 101, 114]⟩, X3, false⟩] rfl HFA.out (by omega) (by have := HBS.out; simp; omega) ?_; intro v1 wz hown1 hg1; have HO1 := hide hown1; have HG1 := hide hg1; clear hown1 hg1)
        go_ret2
        unfold GivesFlE
        rw [chkP_yes HOK.out]
        refine ⟨_, rfl, ?_, (HSA.out.more _ HO1.out HG1.out).b⟩
        rw [HQ.out]
        exact own_baseF (HSA.out.more _ HO1.out HG1.out).own (by omega)
  · have hno : okP ⟨s, l, r⟩ = false := by simpa using hok
    rw [chkP_no hno] at hC
    subst hC
    have HNO := hide hno
    clear hok hno
    go_enter Tryd.func7, Tryd.ntmps7
    go_wp2_with fail
    refine (HCK.out _).mono ?_
    rintro e w1 ⟨rfl, hb1⟩
    have HB1 := hide (HB0.out.trans (hb1.mono HB0.out.size))
    clear hb1 HB0 HX0
    go_wp2_with fail
    go_ret2
    unfold GivesFlE
    rw [chkP_no HNO.out]
    refine ⟨_, rfl, ?_, HB1.out⟩
    rw [fldsP_no HNO.out]
    exact World.ownsRow_nil _ _ _ _
end Go.Proofs.YtdnopjopdklelaaDoor
