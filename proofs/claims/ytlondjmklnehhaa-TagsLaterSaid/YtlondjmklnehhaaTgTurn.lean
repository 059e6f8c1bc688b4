/-
  Layer 25: serveFirst.
-/
import Derived.Test.YtlondjmklnehhaaTgFirst
import Derived.Test.YtlondjmklnehhaaTgServe
import Derived.Test.YtlondjmklnehhaaTgMem
import Derived.Deep.CutRange
import Derived.Deep.DeepCutAuto
namespace Go.Proofs.Ytlondjmklnehhaa
set_option linter.unusedSimpArgs false
set_option linter.unusedVariables false
open Go.RowKit

/-- A tag in a new variable. -/
def NewT (w : World) (T : TypeId) (z : Tg) (s : Value) (wx : World) : Prop := ∃ gy, s = .pointer (some ⟨gy, 0, none⟩) ∧ w.heap.size ≤ gy ∧ BlkIs wx gy T z.cs ∧ Below w.heap.size w wx
theorem own_keepT {w w' : World} {B n s : Nat} {e : TypeId} {v : Value} {xs : List Value} (h : w.ownsRow B e s v n xs) (hb : Below w.heap.size w w') : w'.ownsRow B e s v n xs := own_low h hb
theorem grown_of_below {w w' : World} {r : Option Nat} (h : Below w.heap.size w w') : w.grownBy w' r := ⟨h.os, h.tape, h.output, h.size, fun k hk _ => h.block k hk⟩
theorem grown_set {a w : World} {g : Nat} (h : a.grownBy w (some g)) (i j k m : Nat) (p q r s : Value) : a.grownBy ((((w.setCell ⟨g, i, none⟩ p).setCell ⟨g, j, none⟩ q).setCell ⟨g, k, none⟩ r).setCell ⟨g, m, none⟩ s) (some g) := by
  refine ⟨h.os, h.tape, h.output, by simpa [World.setCell] using h.size, fun b hb hne => ?_⟩
  have hbg : b ≠ g := fun e => hne (by rw [e])
  rw [Below.heap_setCell _ ⟨g, m, none⟩ _ _ hbg, Below.heap_setCell _ ⟨g, k, none⟩ _ _ hbg, Below.heap_setCell _ ⟨g, j, none⟩ _ _ hbg, Below.heap_setCell _ ⟨g, i, none⟩ _ _ hbg]
  exact h.block b hb hne
theorem grown_trans {a w w' : World} {r : Option Nat} (h : a.grownBy w r) (k : w.grownBy w' r) : a.grownBy w' r :=
  ⟨k.os.trans h.os, k.tape.trans h.tape, k.output.trans h.output, Nat.le_trans h.size k.size, fun b hb hn => (k.block b (Nat.lt_of_lt_of_le hb h.size) hn).trans (h.block b hb hn)⟩

set_option maxRecDepth 100000 in
set_option maxHeartbeats 3200000 in
theorem tg_turn (A : Option Addr) (n c B : Nat) (l : List Tg) (cost : Int) (w : World) (ho : w.ownsRow B 24 4 (.slice A n c) n (flc tgF l)) (hn : (n : Int) ≤ 1000) :
    Calls Try.prog 33 #[.slice A n c, .int .i64 cost] w fun e w' => e = .returned (.int .i64 (turnT l cost).2) ∧ w'.ownsRow B 24 4 (.slice A n c) n (flc tgF (turnT l cost).1) ∧ w.grownBy w' (Value.slice A n c).ownBlock := by
  have HO := hide ho
  have HLN := hide (own_lenS (F := tgF) ho)
  have HF := hide (tg_First A n c l w (SL.of_own (F := tgF) ho) hn)
  clear ho
  rcases Nat.eq_zero_or_pos n with h0 | h0
  · have HT := hide (turn_no (l := l) (c := cost) (.inl (by rw [HLN.out]; exact h0)))
    have HN1 : l.length = 0 := by rw [HLN.out]; exact h0
    rw [show fstI l = -1 from by rw [fstI, HN1]; rfl] at HF
    clear HN1 h0
    go_enter Try.func33, Try.ntmps33
    go_wp2_with fail
    refine HF.out.mono ?_
    rintro e w1 ⟨rfl, hb⟩
    have HO1 := hide (own_keepT HO.out hb)
    have HG1 := hide (grown_of_below (r := (Value.slice A n c).ownBlock) hb)
    clear hb HF
    go_wp2_with fail
    go_ret
    exact ⟨by rw [HT.out]; rfl, by rw [HT.out]; exact HO1.out, HG1.out⟩
  · obtain ⟨m, hm⟩ : ∃ m, fsN l l.length = m := ⟨_, rfl⟩
    have hmn : m < n := by rw [← hm, ← HLN.out]; exact fsN_lt l l.length (by rw [HLN.out]; exact h0)
    rw [show fstI l = (m : Int) from by rw [fstI_pos (by rw [HLN.out]; exact h0), hm]] at HF
    have hmn1 : (m : Int) < (n : Int) := by omega
    have hmz : decide ((m : Int) < 0) = false := decide_eq_false (by omega)
    by_cases h1 : cost < 1
    · have HT := hide (turn_no (l := l) (c := cost) (.inr h1))
      have k1 : decide (cost < 1) = true := decide_eq_true h1
      clear h1 h0 hm
      go_enter Try.func33, Try.ntmps33
      go_wp2_with fail
      refine HF.out.mono ?_
      rintro e w1 ⟨rfl, hb⟩
      have HO1 := hide (own_keepT HO.out hb)
      have HG1 := hide (grown_of_below (r := (Value.slice A n c).ownBlock) hb)
      clear hb HF
      go_wp2_with fail
      go_ret
      exact ⟨by rw [HT.out]; rfl, by rw [HT.out]; exact HO1.out, HG1.out⟩
    · have k1 : decide (cost < 1) = false := decide_eq_false h1
      have HNO := hide (show ¬ (l.length = 0 ∨ cost < 1) from fun q => by rw [HLN.out] at q; omega)
      obtain ⟨x, hx⟩ : ∃ x, gtT l m = x := ⟨_, rfl⟩
      have HX := hide hx
      have HM := hide hm
      obtain ⟨g, rfl⟩ := own_someS HO.out h0
      have HLT := hide (own_ltS HO.out)
      have HS := hide (fun w => tg_Serve x.s x cost w)
      obtain ⟨v9, hv⟩ : ∃ v, v = (srvT x.s x cost).1 := ⟨_, rfl⟩
      obtain ⟨y, hy⟩ : ∃ y, y = (srvT x.s x cost).2.1 := ⟨_, rfl⟩
      obtain ⟨er, he⟩ : ∃ e, e = (srvT x.s x cost).2.2 := ⟨_, rfl⟩
      rw [← hv, ← hy, ← he] at HS
      have HTE := hide (show ¬ er = 0 → turnT l cost = (l, -1) from fun q => turn_err HNO.out x.s (by rw [hm, hx, ← he]; exact q))
      have HTY := hide (show er = 0 → turnT l cost = (l.set m y, (m : Int)) from fun q => by rw [turn_yes HNO.out x.s (by rw [hm, hx, ← he]; exact q), hm, hx, ← hy])
      clear h1 h0 hx hm hv hy he HNO
      go_enter Try.func33, Try.ntmps33
      go_wp2_with fail
      refine HF.out.mono ?_
      rintro e w1 ⟨rfl, hb⟩
      have HO1 := hide (own_keepT HO.out hb)
      have HG1 := hide (grown_of_below (r := (Value.slice (some ⟨g, 0, none⟩) n c).ownBlock) hb)
      clear hb HF
      obtain ⟨c0, c1, c2, c3⟩ := tg_cells HO1.out hmn HX.out
      have hbl : g < w1.heap.size := (own_ltS HO1.out).2
      have C0 := hide c0
      have C1 := hide c1
      have C2 := hide c2
      have C3 := hide c3
      clear c0 c1 c2 c3
      go_upto_region 4 with (fail)
      go_cut [6, 7, 8] from 17 to 32 (fun s6 s7 s8 wx => s8 = .int .i64 er ∧ NewT w1 24 y s7 wx)
      case first =>
        refine wp_region_noPanic ?_
        refine wp_region_held_drew (S := fun w' => Below w1.heap.size w1 w') (by kernel_rfl) (Below.refl _ _).drew (fun hS => ?_)
        generalize w1.drew = wd at hS  ⊢
        refine wpAnyH_take (i := 0) (v := ?_) (by simp only [List.getElem?_toArray, List.getElem?_cons_succ, List.getElem?_cons_zero] <;> exact rfl) (by kernel_rfl) (by kernel_rfl) (by kernel_rfl) (fun _ _ _ h => h) (Or.inl ⟨by rfl, ?_⟩) hS ?_
        rotate_left
        focus (intro w' hw'; go_simp; all_goals with_reducible rfl)
        try simp only [Act.put, List.setIfInBounds_toArray, List.set_cons_zero, List.set_cons_succ]
        refine wpAnyH_take (i := 1) (v := ?_) (by simp only [List.getElem?_toArray, List.getElem?_cons_succ, List.getElem?_cons_zero] <;> exact rfl) (by kernel_rfl) (by kernel_rfl) (by kernel_rfl) (fun _ _ _ h => h) (Or.inl ⟨by rfl, ?_⟩) hS ?_
        rotate_left
        focus (intro w' hw'; go_simp; all_goals with_reducible rfl)
        try simp only [Act.put, List.setIfInBounds_toArray, List.set_cons_zero, List.set_cons_succ]
        refine wpAnyH_take (i := 2) (v := ?_) (by simp only [List.getElem?_toArray, List.getElem?_cons_succ, List.getElem?_cons_zero] <;> exact rfl) (by kernel_rfl) (by kernel_rfl) (by kernel_rfl) (fun _ _ _ h => h) (Or.inl ⟨by rfl, ?_⟩) hS ?_
        rotate_left
        focus (intro w' hw'; go_simp; all_goals with_reducible rfl)
        try simp only [Act.put, List.setIfInBounds_toArray, List.set_cons_zero, List.set_cons_succ]
        refine wpAnyH_take (i := 3) (v := ?_) (by simp only [List.getElem?_toArray, List.getElem?_cons_succ, List.getElem?_cons_zero] <;> exact rfl) (by kernel_rfl) (by kernel_rfl) (by kernel_rfl) (fun _ _ _ h => h) (Or.inl ⟨by rfl, ?_⟩) hS ?_
        rotate_left
        focus (intro w' hw'; go_simp; all_goals with_reducible rfl)
        try simp only [Act.put, List.setIfInBounds_toArray, List.set_cons_zero, List.set_cons_succ]
        refine wpAnyH_take (i := 4) (v := ?_) (by simp only [List.getElem?_toArray, List.getElem?_cons_succ, List.getElem?_cons_zero] <;> exact rfl) (by kernel_rfl) (by kernel_rfl) (by kernel_rfl) (fun _ _ _ h => h) (Or.inl ⟨by rfl, ?_⟩) hS ?_
        rotate_left
        focus (intro w' hw'; have kk1 := (hw'.cell (p := ⟨g, _, none⟩) hbl).trans C1.out; go_simp; all_goals with_reducible rfl)
        try simp only [Act.put, List.setIfInBounds_toArray, List.set_cons_zero, List.set_cons_succ]
        refine wpAnyH_take (i := 5) (v := ?_) (by simp only [List.getElem?_toArray, List.getElem?_cons_succ, List.getElem?_cons_zero] <;> exact rfl) (by kernel_rfl) (by kernel_rfl) (by kernel_rfl) (fun _ _ _ h => h) (Or.inl ⟨by rfl, ?_⟩) hS ?_
        rotate_left
        focus (intro w' hw'; go_simp; all_goals with_reducible rfl)
        try simp only [Act.put, List.setIfInBounds_toArray, List.set_cons_zero, List.set_cons_succ]
        refine wpAnyH_take (i := 6) (v := ?_) (by simp only [List.getElem?_toArray, List.getElem?_cons_succ, List.getElem?_cons_zero] <;> exact rfl) (by kernel_rfl) (by kernel_rfl) (by kernel_rfl) (fun _ _ _ h => h) (Or.inl ⟨by rfl, ?_⟩) hS ?_
        rotate_left
        focus (intro w' hw'; go_simp; all_goals with_reducible rfl)
        try simp only [Act.put, List.setIfInBounds_toArray, List.set_cons_zero, List.set_cons_succ]
        refine wpAnyH_take (i := 7) (v := ?_) (by simp only [List.getElem?_toArray, List.getElem?_cons_succ, List.getElem?_cons_zero] <;> exact rfl) (by kernel_rfl) (by kernel_rfl) (by kernel_rfl) (fun _ _ _ h => h) (Or.inl ⟨by rfl, ?_⟩) hS ?_
        rotate_left
        focus (intro w' hw'; go_simp; all_goals with_reducible rfl)
        try simp only [Act.put, List.setIfInBounds_toArray, List.set_cons_zero, List.set_cons_succ]
        refine wpAnyH_take (i := 8) (v := .agg #[.int .i64 x.w, .int .i64 x.s, .int .i64 x.f, .int .i64 x.k]) (by simp only [List.getElem?_toArray, List.getElem?_cons_succ, List.getElem?_cons_zero] <;> exact rfl) (by kernel_rfl) (by kernel_rfl) (by kernel_rfl) (fun _ _ _ h => h) (Or.inl ⟨by rfl, ?_⟩) hS ?_
        focus (intro w' hw'; have kk0 := (hw'.cell (p := ⟨g, _, none⟩) hbl).trans C0.out; have kk1 := (hw'.cell (p := ⟨g, _, none⟩) hbl).trans C1.out; have kk2 := (hw'.cell (p := ⟨g, _, none⟩) hbl).trans C2.out; have kk3 := (hw'.cell (p := ⟨g, _, none⟩) hbl).trans C3.out; go_simp)
        try simp only [Act.put, List.setIfInBounds_toArray, List.set_cons_zero, List.set_cons_succ]
        refine wpAnyH_take (i := 9) (v := ?_) (by simp only [List.getElem?_toArray, List.getElem?_cons_succ, List.getElem?_cons_zero] <;> exact rfl) (by kernel_rfl) (by kernel_rfl) (by kernel_rfl) (fun _ _ _ h => h) (Or.inl ⟨by rfl, ?_⟩) hS ?_
        rotate_left
        focus (intro w' hw'; go_simp; all_goals with_reducible rfl)
        try simp only [Act.put, List.setIfInBounds_toArray, List.set_cons_zero, List.set_cons_succ]
        refine wpAnyH_ready (rs := [10, 15]) (by kernel_rfl) (by simp) ?_
        refine AllReadyH.cons (o := _) (by simp only [List.getElem?_toArray, List.getElem?_cons_succ, List.getElem?_cons_zero] <;> exact rfl) (fun K hK => ?_) ?_
        focus (
          go_simp
          go_at_call 7
          refine (HS.out _).mono ?_
          rintro e wr1 ⟨rfl, hb⟩
          have hS := hS.trans (hb.mono hS.size)
          clear hb
          go_wp2_with fail
          refine hK.out _ _ hS (fun _ => ?_)
          clear hK K
          try simp only [Act.put, List.setIfInBounds_toArray, List.set_cons_zero, List.set_cons_succ]
          refine wpAnyH_take (i := 11) (v := ?_) (by simp only [List.getElem?_toArray, List.getElem?_cons_succ, List.getElem?_cons_zero] <;> exact rfl) (by kernel_rfl) (by kernel_rfl) (by kernel_rfl) (fun _ _ _ h => h) (Or.inl ⟨by rfl, ?_⟩) hS ?_
          rotate_left
          focus (intro w' hw'; go_simp; all_goals with_reducible rfl)
          try simp only [Act.put, List.setIfInBounds_toArray, List.set_cons_zero, List.set_cons_succ]
          refine wpAnyH_take (i := 12) (v := ?_) (by simp only [List.getElem?_toArray, List.getElem?_cons_succ, List.getElem?_cons_zero] <;> exact rfl) (by kernel_rfl) (by kernel_rfl) (by kernel_rfl) (fun _ _ _ h => h) (Or.inl ⟨by rfl, ?_⟩) hS ?_
          rotate_left
          focus (intro w' hw'; go_simp; all_goals with_reducible rfl)
          try simp only [Act.put, List.setIfInBounds_toArray, List.set_cons_zero, List.set_cons_succ]
          refine wpAnyH_take (i := 13) (v := ?_) (by simp only [List.getElem?_toArray, List.getElem?_cons_succ, List.getElem?_cons_zero] <;> exact rfl) (by kernel_rfl) (by kernel_rfl) (by kernel_rfl) (fun _ _ _ h => h) (Or.inl ⟨by rfl, ?_⟩) hS ?_
          rotate_left
          focus (intro w' hw'; go_simp; all_goals with_reducible rfl)
          try simp only [Act.put, List.setIfInBounds_toArray, List.set_cons_zero, List.set_cons_succ]
          refine wpAnyH_take (i := 14) (v := ?_) (by simp only [List.getElem?_toArray, List.getElem?_cons_succ, List.getElem?_cons_zero] <;> exact rfl) (by kernel_rfl) (by kernel_rfl) (by kernel_rfl) (fun _ _ _ h => h) (Or.inl ⟨by rfl, ?_⟩) hS ?_
          rotate_left
          focus (intro w' hw'; go_simp; all_goals with_reducible rfl)
          try simp only [Act.put, List.setIfInBounds_toArray, List.set_cons_zero, List.set_cons_succ]
          refine wpAnyH_ready (rs := [15]) (by kernel_rfl) (by simp) ?_
          refine AllReadyH.cons (o := _) (by simp only [List.getElem?_toArray, List.getElem?_cons_succ, List.getElem?_cons_zero] <;> exact rfl) (fun K hK => ?_) ?_
          focus (
            go_simp
            have hz2 := hS.size
            have hS := hS.alloc hS.size (.cells #[.int .i64 0, .int .i64 0, .int .i64 0, .int .i64 0] 24)
            refine hK.out _ _ hS (fun _ => ?_)
            have Egy2 := BlkIs.new wr1 24 #[.int .i64 0, .int .i64 0, .int .i64 0, .int .i64 0]
            obtain ⟨gy, hgy⟩ : ∃ g, g = wr1.heap.size := ⟨_, rfl⟩
            have Mgy : w1.heap.size ≤ gy := by rw [hgy]; exact hz2
            rw [← hgy] at Egy2 ⊢
            generalize wr1.alloc (.cells #[.int .i64 0, .int .i64 0, .int .i64 0, .int .i64 0] 24) = wa2 at hS Egy2 ⊢
            clear hgy hz2
            clear hK K
            try simp only [Act.put, List.setIfInBounds_toArray, List.set_cons_zero, List.set_cons_succ]
            refine wpAnyH_take (i := 16) (v := ?_) (by simp only [List.getElem?_toArray, List.getElem?_cons_succ, List.getElem?_cons_zero] <;> exact rfl) (by kernel_rfl) (by kernel_rfl) (by kernel_rfl) (fun _ _ _ h => h) (Or.inl ⟨by rfl, ?_⟩) hS ?_
            rotate_left
            focus (intro w' hw'; go_simp; all_goals with_reducible rfl)
            try simp only [Act.put, List.setIfInBounds_toArray, List.set_cons_zero, List.set_cons_succ]
            refine wpAnyH_ready (rs := [17]) (by kernel_rfl) (by simp) ?_
            refine AllReadyH.cons (o := _) (by simp only [List.getElem?_toArray, List.getElem?_cons_succ, List.getElem?_cons_zero] <;> exact rfl) (fun K hK => ?_) ?_
            focus (
              refine rgs_store_blk (by rfl) 24 (.tmp 7) (.tmp 30) (by rfl) gy y.cs #[.int .i64 0, .int .i64 0, .int .i64 0, .int .i64 0] 24 (by rfl) (by rfl) Egy2 tg_size rfl (Tg.cs_one y) ?_
              have hS := below_setRow hS Mgy y.cs
              have Egy3 := Egy2.row y.cs
              refine hK.out _ _ hS (fun _ => ?_)
              generalize wa2.setRow gy y.cs = ws3 at hS Egy3 ⊢
              clear hK K
              try simp only [Act.put, List.setIfInBounds_toArray, List.set_cons_zero, List.set_cons_succ]
              refine wpAnyH_take (i := 18) (v := ?_) (by simp only [List.getElem?_toArray, List.getElem?_cons_succ, List.getElem?_cons_zero] <;> exact rfl) (by kernel_rfl) (by kernel_rfl) (by kernel_rfl) (fun _ _ _ h => h) (Or.inl ⟨by rfl, ?_⟩) hS ?_
              rotate_left
              focus (intro w' hw'; go_simp; all_goals with_reducible rfl)
              try simp only [Act.put, List.setIfInBounds_toArray, List.set_cons_zero, List.set_cons_succ]
              refine wpAnyH_done (by kernel_rfl) ?_ _
              refine NoPanic.normal ?_
              go_wp2_with fail
              go_meet
              exact ⟨rfl, gy, rfl, Mgy, Egy3, hS⟩)
            exact AllReadyH.nil)
          exact AllReadyH.nil)
        refine AllReadyH.cons (o := _) (by simp only [List.getElem?_toArray, List.getElem?_cons_succ, List.getElem?_cons_zero] <;> exact rfl) (fun K hK => ?_) ?_
        focus (
          go_simp
          have hz4 := hS.size
          have hS := hS.alloc hS.size (.cells #[.int .i64 0, .int .i64 0, .int .i64 0, .int .i64 0] 24)
          refine hK.out _ _ hS (fun _ => ?_)
          have Egy4 := BlkIs.new wd 24 #[.int .i64 0, .int .i64 0, .int .i64 0, .int .i64 0]
          obtain ⟨gy, hgy⟩ : ∃ g, g = wd.heap.size := ⟨_, rfl⟩
          have Mgy : w1.heap.size ≤ gy := by rw [hgy]; exact hz4
          rw [← hgy] at Egy4 ⊢
          generalize wd.alloc (.cells #[.int .i64 0, .int .i64 0, .int .i64 0, .int .i64 0] 24) = wa4 at hS Egy4 ⊢
          clear hgy hz4
          clear hK K
          try simp only [Act.put, List.setIfInBounds_toArray, List.set_cons_zero, List.set_cons_succ]
          refine wpAnyH_ready (rs := [10]) (by kernel_rfl) (by simp) ?_
          refine AllReadyH.cons (o := _) (by simp only [List.getElem?_toArray, List.getElem?_cons_succ, List.getElem?_cons_zero] <;> exact rfl) (fun K hK => ?_) ?_
          focus (
            go_simp
            go_at_call 7
            refine (HS.out _).mono ?_
            rintro e wr5 ⟨rfl, hb⟩
            have hS := hS.trans (hb.mono hS.size)
            have Egy5 := Egy4.keep hb
            clear hb
            go_wp2_with fail
            refine hK.out _ _ hS (fun _ => ?_)
            clear hK K
            try simp only [Act.put, List.setIfInBounds_toArray, List.set_cons_zero, List.set_cons_succ]
            refine wpAnyH_take (i := 11) (v := ?_) (by simp only [List.getElem?_toArray, List.getElem?_cons_succ, List.getElem?_cons_zero] <;> exact rfl) (by kernel_rfl) (by kernel_rfl) (by kernel_rfl) (fun _ _ _ h => h) (Or.inl ⟨by rfl, ?_⟩) hS ?_
            rotate_left
            focus (intro w' hw'; go_simp; all_goals with_reducible rfl)
            try simp only [Act.put, List.setIfInBounds_toArray, List.set_cons_zero, List.set_cons_succ]
            refine wpAnyH_take (i := 12) (v := ?_) (by simp only [List.getElem?_toArray, List.getElem?_cons_succ, List.getElem?_cons_zero] <;> exact rfl) (by kernel_rfl) (by kernel_rfl) (by kernel_rfl) (fun _ _ _ h => h) (Or.inl ⟨by rfl, ?_⟩) hS ?_
            rotate_left
            focus (intro w' hw'; go_simp; all_goals with_reducible rfl)
            try simp only [Act.put, List.setIfInBounds_toArray, List.set_cons_zero, List.set_cons_succ]
            refine wpAnyH_take (i := 13) (v := ?_) (by simp only [List.getElem?_toArray, List.getElem?_cons_succ, List.getElem?_cons_zero] <;> exact rfl) (by kernel_rfl) (by kernel_rfl) (by kernel_rfl) (fun _ _ _ h => h) (Or.inl ⟨by rfl, ?_⟩) hS ?_
            rotate_left
            focus (intro w' hw'; go_simp; all_goals with_reducible rfl)
            try simp only [Act.put, List.setIfInBounds_toArray, List.set_cons_zero, List.set_cons_succ]
            refine wpAnyH_take (i := 14) (v := ?_) (by simp only [List.getElem?_toArray, List.getElem?_cons_succ, List.getElem?_cons_zero] <;> exact rfl) (by kernel_rfl) (by kernel_rfl) (by kernel_rfl) (fun _ _ _ h => h) (Or.inl ⟨by rfl, ?_⟩) hS ?_
            rotate_left
            focus (intro w' hw'; go_simp; all_goals with_reducible rfl)
            try simp only [Act.put, List.setIfInBounds_toArray, List.set_cons_zero, List.set_cons_succ]
            refine wpAnyH_take (i := 16) (v := ?_) (by simp only [List.getElem?_toArray, List.getElem?_cons_succ, List.getElem?_cons_zero] <;> exact rfl) (by kernel_rfl) (by kernel_rfl) (by kernel_rfl) (fun _ _ _ h => h) (Or.inl ⟨by rfl, ?_⟩) hS ?_
            rotate_left
            focus (intro w' hw'; go_simp; all_goals with_reducible rfl)
            try simp only [Act.put, List.setIfInBounds_toArray, List.set_cons_zero, List.set_cons_succ]
            refine wpAnyH_ready (rs := [17]) (by kernel_rfl) (by simp) ?_
            refine AllReadyH.cons (o := _) (by simp only [List.getElem?_toArray, List.getElem?_cons_succ, List.getElem?_cons_zero] <;> exact rfl) (fun K hK => ?_) ?_
            focus (
              refine rgs_store_blk (by rfl) 24 (.tmp 7) (.tmp 30) (by rfl) gy y.cs #[.int .i64 0, .int .i64 0, .int .i64 0, .int .i64 0] 24 (by rfl) (by rfl) Egy5 tg_size rfl (Tg.cs_one y) ?_
              have hS := below_setRow hS Mgy y.cs
              have Egy6 := Egy5.row y.cs
              refine hK.out _ _ hS (fun _ => ?_)
              generalize wr5.setRow gy y.cs = ws6 at hS Egy6 ⊢
              clear hK K
              try simp only [Act.put, List.setIfInBounds_toArray, List.set_cons_zero, List.set_cons_succ]
              refine wpAnyH_take (i := 18) (v := ?_) (by simp only [List.getElem?_toArray, List.getElem?_cons_succ, List.getElem?_cons_zero] <;> exact rfl) (by kernel_rfl) (by kernel_rfl) (by kernel_rfl) (fun _ _ _ h => h) (Or.inl ⟨by rfl, ?_⟩) hS ?_
              rotate_left
              focus (intro w' hw'; go_simp; all_goals with_reducible rfl)
              try simp only [Act.put, List.setIfInBounds_toArray, List.set_cons_zero, List.set_cons_succ]
              refine wpAnyH_done (by kernel_rfl) ?_ _
              refine NoPanic.normal ?_
              go_wp2_with fail
              go_meet
              exact ⟨rfl, gy, rfl, Mgy, Egy6, hS⟩)
            exact AllReadyH.nil)
          exact AllReadyH.nil)
        exact AllReadyH.nil
      case rest =>
        obtain ⟨rfl, gy, rfl, hgy, hY, hb⟩ := hcut
        have HY := hide hY
        have HO2 := hide (own_keepT HO1.out hb)
        have HG2 := hide (grown_trans HG1.out (grown_of_below hb))
        clear hb hY HO1 HG1 HS C0 C1 C2 C3
        generalize wc = w2 at *
        by_cases hz : er = 0
        · have HT := hide (HTY.out hz)
          have HW := hide (tg_elem HO2.out m hmn y)
          have HGW := hide (grown_set (g := g) HG2.out (m * 4) (m * 4 + 1) (m * 4 + 2) (m * 4 + 3) (.int .i64 y.w) (.int .i64 y.s) (.int .i64 y.f) (.int .i64 y.k))
          subst hz
          obtain ⟨c0, c1, c2, c3⟩ := tg_cells HO2.out hmn HX.out
          have f0 := own_frozenS HO2.out (m * 4)
          have f1 := own_frozenS HO2.out (m * 4 + 1)
          have f2 := own_frozenS HO2.out (m * 4 + 2)
          have f3 := own_frozenS HO2.out (m * 4 + 3)
          clear HTE HTY HO2 HG2
          go_wp2_with (first | (refine wpList_load_blk rfl 24 (.tmp 7) rfl gy rfl 24 #[.int .i64 y.w, .int .i64 y.s, .int .i64 y.f, .int .i64 y.k] _ HY.out Try.underlying24 rfl tg_size ?_))
          go_ret
          exact ⟨by rw [HT.out]; rfl, by rw [HT.out]; exact HW.out, HGW.out⟩
        · have HT := hide (HTE.out hz)
          have hz1 : (er != 0) = true := by rw [bne_iff_ne]; exact hz
          clear HTE HTY hz
          go_wp2_with fail
          go_ret
          exact ⟨by rw [HT.out]; rfl, by rw [HT.out]; exact HO2.out, HG2.out⟩
end Go.Proofs.Ytlondjmklnehhaa
