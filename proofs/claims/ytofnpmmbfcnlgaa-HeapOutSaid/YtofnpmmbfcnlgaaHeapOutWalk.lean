/-
  HeapOut: its walk (written by gen24out.py).
-/
import Derived.Test.YtofnpmmbfcnlgaaHpN
import Derived.BigGuardPart
import Derived.Deep.CutRange
namespace Go.Proofs.Ytofnpmmbfcnlgaa.heapOut
set_option linter.unusedSimpArgs false
set_option linter.unusedVariables false
open Go.RowKit

/-- What is in, behind i items. -/
structure InJ (w wr : World) (A : Option Addr) (i c : Nat) (l hs : List It) : Prop where
  own : wr.ownsRow w.heap.size 38 2 (.slice A i c) i (ics hs)
  hp : Hp hs
  perm : hs.Perm (l.take i)
theorem in_next {l hs : List It} {i : Nat} {x : It} (h : hs.Perm (l.take i)) (hx : l[i]? = some x) : (pushL hs x).Perm (l.take (i + 1)) := by
  rw [List.take_add_one, hx]
  exact (push_perm hs x).trans (h.append_right _)
/-- What is still in, when i are out. -/
structure OutJ (w wr : World) (A : Option Addr) (m c : Nat) (l hs : List It) (i : Nat) : Prop where
  own : wr.ownsRow w.heap.size 38 2 (.slice A m c) m (ics hs)
  hp : Hp hs
  same : sortR hs = (sortR l).drop i
theorem out_next {l hs : List It} {i : Nat} (hp : Hp hs) (h0 : 0 < hs.length) (h : sortR hs = (sortR l).drop i) : (sortR l)[i]? = some (gt hs 0) ∧ sortR (takeL hs 0) = (sortR l).drop (i + 1) := by
  have e := sortR_hp hp h0
  rw [h] at e
  have h1 : ((sortR l).drop i)[0]? = some (gt hs 0) := by rw [e]; rfl
  have h2 := congrArg (List.drop 1) e
  rw [List.getElem?_drop] at h1
  refine ⟨h1, ?_⟩
  rw [List.drop_drop] at h2
  simpa using h2.symm

set_option maxRecDepth 100000 in
set_option maxHeartbeats 6400000 in
theorem walk (A : Option Addr) (n c : Nat) (l : List It) (w : World) (hl : IL w A n c l) :
    Calls Try.prog 5 #[.slice A n c] w fun e w' => e = .returned (.bool true) ∧ Below w.heap.size w w' := by
  have HMX := hide hl.max
  have HLE := hide hl.le
  by_cases hn : (n : Int) ≤ 60
  · have HL := hide hl
    have HLN := hide hl.len
    clear hl
    go_enter Try.func5, Try.ntmps5
    go_wp2_with fail
    go_loopw [3, 4] (fun s3 s4 wr => ∃ (i : Nat) (A3 : Option Addr) (c3 : Nat) (hs : List It), s4 = .int .i64 (i : Int) ∧ s3 = .slice A3 i c3 ∧ i ≤ n ∧ Hid (InJ w wr A3 i c3 l hs) ∧ Hid (Below w.heap.size w wr)) (fun _ s4 _ => n - (intOf s4).toNat)
    case atStart => exact ⟨0, none, 0, [], rfl, rfl, by omega, ⟨World.ownsRow_nil _ _ _ _, fun j hj => by simp at hj, by simp⟩, Below.refl _ _⟩
    case round =>
      obtain ⟨i, A3, c3, hs, rfl, rfl, hi, HJ, HB⟩ := hrel
      by_cases h2 : i < n
      · have h2' : (i : Int) < (n : Int) := by omega
        obtain ⟨x, b, off, hx, rfl, hbl, c0, c1⟩ := (HL.out.keep HB.out).round h2
        have HX := hide hx
        have HP := hide (n_Push A3 i c3 hs wr (own_ils HJ.out.own) (by omega) x)
        clear hx
        go_upto_region 8 with (go_at_call 17; (with_reducible refine HP.out.mono ?_); rintro e w3 ⟨A4, c4, rfl, ho, hb⟩; have HO4 := hide ho; have HB4 := hide (HB.out.trans (hb.mono HB.out.size)); have HZ := hide HB.out.size; clear ho hb)
        have HCK := hide (n_Check0 A4 (i + 1) c4 _ w3 (own_ils HO4.out) (by omega) (push_ok hs x))
        have HO5 := hide (own_base HO4.out HZ.out)
        go_wp2_with (go_at_call 13; (with_reducible refine HCK.out.mono ?_); rintro e w5 ⟨rfl, hb⟩; have HO6 := hide (own_low HO5.out hb); have HB6 := hide (HB4.out.trans (hb.mono HB4.out.size)); clear hb)
        go_roundw
        case rel => exact ⟨i + 1, A4, c4, pushL hs x, by go_num, rfl, h2, ⟨HO6.out, push_ok hs x, in_next HJ.out.perm HX.out⟩, HB6.out⟩
        case measure => simp [intOf]; omega
      · obtain rfl : i = n := by omega
        have h2' : ¬ (i : Int) < (i : Int) := by omega
        have HPM := hide (show sortR hs = sortR l by
          have := HJ.out.perm
          rw [List.take_of_length_le (by rw [HLN.out]; exact Nat.le_refl _)] at this
          exact sortR_one this)
        have HLW := hide (HL.out.keep HB.out)
        go_wp2_with fail
        refine (r_Sorted _ _ _ _ _ HLW.out (by omega)).mono ?_
        rintro e w2 ⟨AW, cW, rfl, ho, hb⟩
        have HOW := hide ho
        have HOH := hide (own_low HJ.out.own hb)
        have HB2 := hide (HB.out.trans (hb.mono HB.out.size))
        have HST := hide (show OutJ w w2 A3 i c3 l hs 0 from ⟨HOH.out, HJ.out.hp, HPM.out⟩)
        obtain ⟨n, hnn⟩ : ∃ n, i = n := ⟨_, rfl⟩
        subst hnn
        have HWL := hide (own_ils HOW.out)
        clear ho hb HB HJ HOH HPM HLW
        go_wp2_with fail
        go_loopw [3, 6] (fun s3 s6 wq => ∃ (k m : Nat) (A6 : Option Addr) (c6 : Nat) (hs : List It), s6 = .int .i64 (k : Int) ∧ s3 = .slice A6 m c6 ∧ k + m = i ∧ k ≤ i ∧ Hid (OutJ w wq A6 m c6 l hs k) ∧ Hid (Below w2.heap.size w2 wq)) (fun _ s6 _ => i - (intOf s6).toNat)
        case atStart => exact ⟨0, i, A3, c3, hs, rfl, rfl, by omega, by omega, HST.out, Below.refl _ _⟩
        case round =>
          clear HST
          obtain ⟨k, m, A6, c6, hs', rfl, rfl, hkm, hk, HJ, HBQ⟩ := hrel
          by_cases h3 : k < i
          · have h3' : (k : Int) < (i : Int) := by omega
            obtain ⟨p, hp⟩ : ∃ p, m = p + 1 := ⟨m - 1, by omega⟩
            have HM := hide hp
            have hme : (m : Int) - 1 = (p : Int) := by omega
            have hmw : IntKind.i64.wrap ((m : Int) - 1) = (p : Int) := by rw [hme]; exact IntWalk.i64_in _ (by omega)
            have hmp : IntKind.i64.wrap (p : Int) = (p : Int) := IntWalk.i64_in _ (by omega)
            have HLN' := hide (own_len HJ.out.own)
            obtain ⟨hnx, hdr⟩ := out_next HJ.out.hp (by rw [HLN'.out]; omega) HJ.out.same
            have HSX := hide hdr
            have HHP := hide (take_ok HJ.out.hp (i := 0) (by rw [HLN'.out]; omega))
            have HP := hide (n_Pop A6 m c6 hs' wr (own_ils HJ.out.own) (by omega) HJ.out.hp (by omega))
            rw [show m - 1 = p by omega] at HP
            obtain ⟨x, hx⟩ : ∃ x, gt hs' 0 = x := ⟨_, rfl⟩
            rw [hx] at HP hnx
            have HNX := hide hnx
            clear hx hp hnx hdr
            go_upto_region 15 with (go_at_call 18; (with_reducible refine HP.out.mono ?_); rintro e w3 ⟨A7, c7, rfl, ho, hb⟩; have HO3 := hide ho; have HB3 := hide (HBQ.out.trans (hb.mono HBQ.out.size)); have HZ := hide (Nat.le_trans HB2.out.size HBQ.out.size); clear ho hb)
            have KX := hide (BlkIs.new w3 38 #[.int .i64 x.k, .int .i64 x.d])
            have HOk := hide (own_base (HO3.out.alloc (.cells #[.int .i64 x.k, .int .i64 x.d] 38)) HZ.out)
            have HBk := hide (HB3.out.alloc HB3.out.size (.cells #[.int .i64 x.k, .int .i64 x.d] 38))
            have HWk := hide (HWL.out.keep HBk.out)
            obtain ⟨gx, hgx⟩ : ∃ g, w3.heap.size = g := ⟨_, rfl⟩
            rw [hgx] at KX ⊢
            clear hgx HO3 HB3 HP HBQ HJ
            generalize (w3.alloc (.cells #[.int .i64 x.k, .int .i64 x.d] 38)) = wk at KX HOk HBk HWk ⊢
            have HGk := hide (own_ils HOk.out)
            obtain ⟨x', bw, ow, hx', rfl, hbw, q0, q1⟩ := HWk.out.round h3
            obtain rfl : x' = x := Option.some.inj (hx'.symm.trans HNX.out)
            have HQ0 := hide (fun (w' : World) (hw' : Below wk.heap.size wk w') => (hw'.cell (p := ⟨bw, ow + k * 2, none⟩) hbw).trans q0)
            have HQ1 := hide (fun (w' : World) (hw' : Below wk.heap.size wk w') => (hw'.cell (p := ⟨bw, ow + k * 2 + 1, none⟩) hbw).trans q1)
            clear q0 q1 hx'
            refine wp_region_noPanic ?_
            refine wp_region_held_drew (S := fun w' => Below wk.heap.size wk w') (by kernel_rfl) (Below.refl _ _).drew (fun hS => ?_)
            generalize wk.drew = wd at hS ⊢
            refine wpAnyH_take (i := 0) (v := ?_) (by simp only [List.getElem?_toArray, List.getElem?_cons_succ, List.getElem?_cons_zero] <;> exact rfl) (by kernel_rfl) (by kernel_rfl) (by kernel_rfl) (fun _ _ _ h => h) (Or.inl ⟨by rfl, ?_⟩) hS ?_
            rotate_left
            focus (intro w' hw'; go_simp; all_goals with_reducible rfl)
            try simp only [Act.put, List.setIfInBounds_toArray, List.set_cons_zero, List.set_cons_succ]
            refine wpAnyH_take (i := 1) (v := ?_) (by simp only [List.getElem?_toArray, List.getElem?_cons_succ, List.getElem?_cons_zero] <;> exact rfl) (by kernel_rfl) (by kernel_rfl) (by kernel_rfl) (fun _ _ _ h => h) (Or.inl ⟨by rfl, ?_⟩) hS ?_
            rotate_left
            focus (intro w' hw'; go_simp; all_goals with_reducible rfl)
            try simp only [Act.put, List.setIfInBounds_toArray, List.set_cons_zero, List.set_cons_succ]
            refine wpAnyH_take (i := 2) (v := ?_) (by simp only [List.getElem?_toArray, List.getElem?_cons_succ, List.getElem?_cons_zero] <;> exact rfl) (by kernel_rfl) (by kernel_rfl) (by kernel_rfl) (fun _ _ _ h => h) (Or.inl ⟨by rfl, ?_⟩) hS ?_
            rotate_left
            focus (intro w' hw'; go_simp; all_goals with_reducible rfl)
            try simp only [Act.put, List.setIfInBounds_toArray, List.set_cons_zero, List.set_cons_succ]
            refine wpAnyH_take (i := 3) (v := ?_) (by simp only [List.getElem?_toArray, List.getElem?_cons_succ, List.getElem?_cons_zero] <;> exact rfl) (by kernel_rfl) (by kernel_rfl) (by kernel_rfl) (fun _ _ _ h => h) (Or.inl ⟨by rfl, ?_⟩) hS ?_
            rotate_left
            focus (intro w' hw'; obtain ⟨p0, p1⟩ := it_two (KX.out.keep hw'); go_simp; all_goals with_reducible rfl)
            try simp only [Act.put, List.setIfInBounds_toArray, List.set_cons_zero, List.set_cons_succ]
            refine wpAnyH_take (i := 4) (v := ?_) (by simp only [List.getElem?_toArray, List.getElem?_cons_succ, List.getElem?_cons_zero] <;> exact rfl) (by kernel_rfl) (by kernel_rfl) (by kernel_rfl) (fun _ _ _ h => h) (Or.inl ⟨by rfl, ?_⟩) hS ?_
            rotate_left
            focus (intro w' hw'; go_simp; all_goals with_reducible rfl)
            try simp only [Act.put, List.setIfInBounds_toArray, List.set_cons_zero, List.set_cons_succ]
            refine wpAnyH_take (i := 5) (v := ?_) (by simp only [List.getElem?_toArray, List.getElem?_cons_succ, List.getElem?_cons_zero] <;> exact rfl) (by kernel_rfl) (by kernel_rfl) (by kernel_rfl) (fun _ _ _ h => h) (Or.inl ⟨by rfl, ?_⟩) hS ?_
            rotate_left
            focus (intro w' hw'; go_simp; all_goals with_reducible rfl)
            try simp only [Act.put, List.setIfInBounds_toArray, List.set_cons_zero, List.set_cons_succ]
            refine wpAnyH_take (i := 6) (v := ?_) (by simp only [List.getElem?_toArray, List.getElem?_cons_succ, List.getElem?_cons_zero] <;> exact rfl) (by kernel_rfl) (by kernel_rfl) (by kernel_rfl) (fun _ _ _ h => h) (Or.inl ⟨by rfl, ?_⟩) hS ?_
            rotate_left
            focus (intro w' hw'; go_simp; all_goals with_reducible rfl)
            try simp only [Act.put, List.setIfInBounds_toArray, List.set_cons_zero, List.set_cons_succ]
            refine wpAnyH_take (i := 7) (v := ?_) (by simp only [List.getElem?_toArray, List.getElem?_cons_succ, List.getElem?_cons_zero] <;> exact rfl) (by kernel_rfl) (by kernel_rfl) (by kernel_rfl) (fun _ _ _ h => h) (Or.inl ⟨by rfl, ?_⟩) hS ?_
            rotate_left
            focus (intro w' hw'; have q0 := HQ0.out w' hw'; have q1 := HQ1.out w' hw'; go_simp; all_goals with_reducible rfl)
            try simp only [Act.put, List.setIfInBounds_toArray, List.set_cons_zero, List.set_cons_succ]
            refine wpAnyH_take (i := 8) (v := ?_) (by simp only [List.getElem?_toArray, List.getElem?_cons_succ, List.getElem?_cons_zero] <;> exact rfl) (by kernel_rfl) (by kernel_rfl) (by kernel_rfl) (fun _ _ _ h => h) (Or.inl ⟨by rfl, ?_⟩) hS ?_
            rotate_left
            focus (intro w' hw'; go_simp; all_goals with_reducible rfl)
            try simp only [Act.put, List.setIfInBounds_toArray, List.set_cons_zero, List.set_cons_succ]
            refine wpAnyH_take (i := 9) (v := ?_) (by simp only [List.getElem?_toArray, List.getElem?_cons_succ, List.getElem?_cons_zero] <;> exact rfl) (by kernel_rfl) (by kernel_rfl) (by kernel_rfl) (fun _ _ _ h => h) (Or.inl ⟨by rfl, ?_⟩) hS ?_
            rotate_left
            focus (intro w' hw'; go_simp; all_goals with_reducible rfl)
            try simp only [Act.put, List.setIfInBounds_toArray, List.set_cons_zero, List.set_cons_succ]
            refine wpAnyH_take (i := 10) (v := ?_) (by simp only [List.getElem?_toArray, List.getElem?_cons_succ, List.getElem?_cons_zero] <;> exact rfl) (by kernel_rfl) (by kernel_rfl) (by kernel_rfl) (fun _ _ _ h => h) (Or.inl ⟨by rfl, ?_⟩) hS ?_
            rotate_left
            focus (intro w' hw'; go_simp; all_goals with_reducible rfl)
            try simp only [Act.put, List.setIfInBounds_toArray, List.set_cons_zero, List.set_cons_succ]
            refine wpAnyH_take (i := 11) (v := ?_) (by simp only [List.getElem?_toArray, List.getElem?_cons_succ, List.getElem?_cons_zero] <;> exact rfl) (by kernel_rfl) (by kernel_rfl) (by kernel_rfl) (fun _ _ _ h => h) (Or.inl ⟨by rfl, ?_⟩) hS ?_
            rotate_left
            focus (intro w' hw'; go_simp; all_goals with_reducible rfl)
            try simp only [Act.put, List.setIfInBounds_toArray, List.set_cons_zero, List.set_cons_succ]
            refine wpAnyH_ready (rs := [12]) (by kernel_rfl) (by simp) ?_
            refine AllReadyH.cons (o := _) (by simp only [List.getElem?_toArray, List.getElem?_cons_succ, List.getElem?_cons_zero] <;> exact rfl) (fun K hK => ?_) ?_
            focus (
              go_simp
              go_at_call 13
              refine (n_Check0 _ _ _ _ _ (HGk.out.keep hS) (by omega) HHP.out).mono ?_
              rintro e wc1 ⟨rfl, hb⟩
              have hS := hS.trans (hb.mono hS.size)
              clear hb
              go_wp2_with fail
              refine hK.out _ _ hS (fun _ => ?_)
              clear hK K
              try simp only [Act.put, List.setIfInBounds_toArray, List.set_cons_zero, List.set_cons_succ]
              refine wpAnyH_take (i := 13) (v := ?_) (by simp only [List.getElem?_toArray, List.getElem?_cons_succ, List.getElem?_cons_zero] <;> exact rfl) (by kernel_rfl) (by kernel_rfl) (by kernel_rfl) (fun _ _ _ h => h) (Or.inl ⟨by rfl, ?_⟩) hS ?_
              rotate_left
              focus (intro w' hw'; go_simp; all_goals with_reducible rfl)
              try simp only [Act.put, List.setIfInBounds_toArray, List.set_cons_zero, List.set_cons_succ]
              refine wpAnyH_take (i := 14) (v := ?_) (by simp only [List.getElem?_toArray, List.getElem?_cons_succ, List.getElem?_cons_zero] <;> exact rfl) (by kernel_rfl) (by kernel_rfl) (by kernel_rfl) (fun _ _ _ h => h) (Or.inl ⟨by rfl, ?_⟩) hS ?_
              rotate_left
              focus (intro w' hw'; go_simp; all_goals with_reducible rfl)
              try simp only [Act.put, List.setIfInBounds_toArray, List.set_cons_zero, List.set_cons_succ]
              refine wpAnyH_take (i := 15) (v := ?_) (by simp only [List.getElem?_toArray, List.getElem?_cons_succ, List.getElem?_cons_zero] <;> exact rfl) (by kernel_rfl) (by kernel_rfl) (by kernel_rfl) (fun _ _ _ h => h) (Or.inl ⟨by rfl, ?_⟩) hS ?_
              rotate_left
              focus (intro w' hw'; go_simp; all_goals with_reducible rfl)
              try simp only [Act.put, List.setIfInBounds_toArray, List.set_cons_zero, List.set_cons_succ]
              refine wpAnyH_take (i := 16) (v := ?_) (by simp only [List.getElem?_toArray, List.getElem?_cons_succ, List.getElem?_cons_zero] <;> exact rfl) (by kernel_rfl) (by kernel_rfl) (by kernel_rfl) (fun _ _ _ h => h) (Or.inl ⟨by rfl, ?_⟩) hS ?_
              rotate_left
              focus (intro w' hw'; go_simp; all_goals with_reducible rfl)
              try simp only [Act.put, List.setIfInBounds_toArray, List.set_cons_zero, List.set_cons_succ]
              refine wpAnyH_take (i := 17) (v := ?_) (by simp only [List.getElem?_toArray, List.getElem?_cons_succ, List.getElem?_cons_zero] <;> exact rfl) (by kernel_rfl) (by kernel_rfl) (by kernel_rfl) (fun _ _ _ h => h) (Or.inl ⟨by rfl, ?_⟩) hS ?_
              rotate_left
              focus (intro w' hw'; go_simp; all_goals with_reducible rfl)
              try simp only [Act.put, List.setIfInBounds_toArray, List.set_cons_zero, List.set_cons_succ]
              refine wpAnyH_take (i := 18) (v := ?_) (by simp only [List.getElem?_toArray, List.getElem?_cons_succ, List.getElem?_cons_zero] <;> exact rfl) (by kernel_rfl) (by kernel_rfl) (by kernel_rfl) (fun _ _ _ h => h) (Or.inl ⟨by rfl, ?_⟩) hS ?_
              rotate_left
              focus (intro w' hw'; go_simp; all_goals with_reducible rfl)
              try simp only [Act.put, List.setIfInBounds_toArray, List.set_cons_zero, List.set_cons_succ]
              refine wpAnyH_take (i := 19) (v := ?_) (by simp only [List.getElem?_toArray, List.getElem?_cons_succ, List.getElem?_cons_zero] <;> exact rfl) (by kernel_rfl) (by kernel_rfl) (by kernel_rfl) (fun _ _ _ h => h) (Or.inl ⟨by rfl, ?_⟩) hS ?_
              rotate_left
              focus (intro w' hw'; go_simp; all_goals with_reducible rfl)
              try simp only [Act.put, List.setIfInBounds_toArray, List.set_cons_zero, List.set_cons_succ]
              refine wpAnyH_take (i := 20) (v := ?_) (by simp only [List.getElem?_toArray, List.getElem?_cons_succ, List.getElem?_cons_zero] <;> exact rfl) (by kernel_rfl) (by kernel_rfl) (by kernel_rfl) (fun _ _ _ h => h) (Or.inl ⟨by rfl, ?_⟩) hS ?_
              rotate_left
              focus (intro w' hw'; go_simp; all_goals with_reducible rfl)
              try simp only [Act.put, List.setIfInBounds_toArray, List.set_cons_zero, List.set_cons_succ]
              refine wpAnyH_take (i := 21) (v := ?_) (by simp only [List.getElem?_toArray, List.getElem?_cons_succ, List.getElem?_cons_zero] <;> exact rfl) (by kernel_rfl) (by kernel_rfl) (by kernel_rfl) (fun _ _ _ h => h) (Or.inl ⟨by rfl, ?_⟩) hS ?_
              rotate_left
              focus (intro w' hw'; go_simp; all_goals with_reducible rfl)
              try simp only [Act.put, List.setIfInBounds_toArray, List.set_cons_zero, List.set_cons_succ]
              refine wpAnyH_take (i := 22) (v := ?_) (by simp only [List.getElem?_toArray, List.getElem?_cons_succ, List.getElem?_cons_zero] <;> exact rfl) (by kernel_rfl) (by kernel_rfl) (by kernel_rfl) (fun _ _ _ h => h) (Or.inl ⟨by rfl, ?_⟩) hS ?_
              rotate_left
              focus (intro w' hw'; go_simp; all_goals with_reducible rfl)
              try simp only [Act.put, List.setIfInBounds_toArray, List.set_cons_zero, List.set_cons_succ]
              refine wpAnyH_done (by kernel_rfl) ?_ _
              refine NoPanic.normal ?_
              have HBE := hide (HBk.out.trans (hS.mono HBk.out.size))
              have HGE := hide (own_low HOk.out hS)
              clear hS hme hmw hmp
              go_wp2_with fail
              go_roundw
              case rel => exact ⟨k + 1, p, A7, c7, takeL hs' 0, by go_num, rfl, by have := HM.out; omega, by omega, ⟨HGE.out, HHP.out, HSX.out⟩, HBE.out⟩
              case measure => simp [intOf]; omega)
            exact AllReadyH.nil
          · obtain rfl : k = i := by omega
            obtain rfl : m = 0 := by omega
            have h3' : ¬ (k : Int) < (k : Int) := by omega
            go_wp2_with fail
            refine (aw_heap _).mono ?_
            rintro e w5 ⟨rfl, hb⟩
            have HB5 := hide (HB2.out.trans ((HBQ.out.trans (hb.mono HBQ.out.size)).mono HB2.out.size))
            clear hb
            go_wp2_with fail
            go_ret
            exact ⟨rfl, HB5.out⟩
  · have hn' : (60 : Int) < (n : Int) := by omega
    clear hl hn
    go_enter Try.func5, Try.ntmps5
    go_wp2_with fail
    refine (aw_heap _).mono ?_
    rintro e w2 ⟨rfl, hb⟩
    have HB2 := hide hb
    clear hb
    go_wp2_with fail
    go_ret
    exact ⟨rfl, HB2.out⟩
end Go.Proofs.Ytofnpmmbfcnlgaa.heapOut
