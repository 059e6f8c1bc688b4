/-
  Layer 13: queues of the one kind as queues of the other kind.
-/
import Derived.Test.YtjfdlgmdlfbeoaaUkSmall
namespace Go.Proofs.Ytjfdlgmdlfbeoaa
set_option linter.unusedSimpArgs false
set_option linter.unusedVariables false
open Go.RowKit

/-- A call that answers a row of items of its own. -/
def GivesOQ (t : TypeId) (l : List It) (w : World) (e : Ending) (w' : World) : Prop := ∃ v, e = .returned v ∧ OwnQ w' w.heap.size t v l.length l ∧ Below w.heap.size w w'
/-- A call that answers a queue. -/
def GivesQ (l : List It) (w : World) (e : Ending) (w' : World) : Prop := ∃ A c, e = .returned (.slice A l.length c) ∧ IL w' A l.length c l ∧ Below w.heap.size w w'
theorem GivesOQ.q {t : TypeId} {l : List It} {w : World} {e : Ending} {w' : World} (h : GivesOQ t l w e w') : GivesQ l w e w' := by
  obtain ⟨v, rfl, h, hb⟩ := h
  obtain ⟨A, c, rfl, hi⟩ := h.il
  exact ⟨A, c, rfl, hi, hb⟩
theorem pl_lt {w : World} {A : Option Addr} {n c b off : Nat} {l : List Pr} (h : PL w A n c l) (e : A = some ⟨b, off, none⟩) (hn : l ≠ []) : b < w.heap.size := by
  obtain ⟨p, r, rfl⟩ := List.exists_cons_of_ne_nil hn
  obtain ⟨b', off', e', hlt, _⟩ := h.at_ 0 p rfl
  rw [e] at e'
  injection e' with e'
  injection e' with e1
  subst e1
  exact hlt

set_option maxRecDepth 100000 in
set_option maxHeartbeats 1600000 in
theorem law_own (A : Option Addr) (n c : Nat) (l : List It) (w : World) (hl : IL w A n c l) (hn : (n : Int) ≤ 4398046511104) :
    Calls Try.prog 9 #[.slice A n c] w (GivesOQ 61 l w) := by
  obtain ⟨i0, hi0, hz0, hz1, hz2⟩ := info_parts uk_info
  have HIL := hide hl
  have HN := hide (show n * 32 ≤ 140737488355328 by omega)
  have HW := hide hn
  have HM := hide (show n ≤ maxLen from Nat.le_trans hl.le hl.max)
  clear hl
  go_enter Try.func9, Try.ntmps9
  go_wp2_with fail
  go_loopw [3, 4] (fun s3 s4 wr => ∃ i : Nat, i ≤ n ∧ s4 = .int .i64 (i : Int) ∧ OwnQ wr w.heap.size 61 s3 i (l.take i) ∧ Below w.heap.size w wr) (fun _ s4 _ => n - (intOf s4).toNat)
  case atStart => exact ⟨0, by omega, rfl, OwnQ.nil_ _ _ _, Below.refl _ _⟩
  case round =>
    obtain ⟨i, hi, rfl, ho, hb⟩ := hrel
    have HO := hide ho
    have HB := hide hb
    clear ho hb
    by_cases hlt : i < n
    · have hlt' : (i : Int) < (n : Int) := by omega
      obtain ⟨x, A', c', b, off, hx, rfl, hbl0, e0, e1, hp0⟩ := HIL.out.round hlt
      have HX := hide hx
      have HP := hide (hp0.keep HB.out)
      have HLT := hide (fun (b' off' : Nat) (e : A' = some ⟨b', off', none⟩) (hn : x.ps ≠ []) => pl_lt hp0 e hn)
      have c0 := (HB.out.cell (p := ⟨b, off + i * 2, none⟩) hbl0).trans e0
      have c1 := (HB.out.cell (p := ⟨b, off + i * 2 + 1, none⟩) hbl0).trans e1
      have hbl : b < wr.heap.size := by have := HB.out.size; omega
      have HBK := hide (BlkIs.new wr 61 (Ix.cs ⟨A', c', x⟩))
      have HO2 := hide (HO.out.alloc (.cells (Ix.cs ⟨A', c', x⟩) 61))
      have HY := hide (show AllX (wr.alloc (.cells (Ix.cs ⟨A', c', x⟩) 61)) [⟨A', c', x⟩] from fun y hy => by
        rw [List.mem_singleton] at hy; subst hy; exact HP.out.alloc _)
      have HAP := hide (show ApartX u3.ownBlock [⟨A', c', x⟩] from fun y hy b' off' e hn hh => by
        rw [List.mem_singleton] at hy; subst hy
        have h1 := HLT.out b' off' e hn
        have h2 := (HO.out.lt hh).1
        omega)
      have HTK := hide (show l.take i ++ [x] = l.take (i + 1) by rw [List.take_add_one, HX.out]; rfl)
      have HB2 := hide (HB.out.alloc HB.out.size (.cells (Ix.cs ⟨A', c', x⟩) 61))
      have HSZ := hide HB.out.size
      clear hx e0 e1 hp0 hbl0 HP HLT HX HO
      simp only [Ix.cs] at HBK HO2 HY HB2
      go_wp2_with (at_builtin; refine wpList_append_q _ rfl (.tmp 11) (.tmp 16) _ rfl w.heap.size 61 i0 _ 32 Try.underlying27 hi0 hz0 hz1 hz2 rfl _ i (l.take i) rfl HO2.out (some ⟨wr.heap.size, 0, none⟩) 1 1 [⟨A', c', x⟩] rfl (xl_blk HBK.out) HY.out HAP.out (by have := HM.out; omega) (by have := HN.out; omega) (by have := HSZ.out; simp; omega) ?_; intro v1 w1 hown1 hg1; have HO1 := hide hown1; have HG1 := hide hg1; clear hown1 hg1)
      go_roundw
      case rel => have hw := HW.out; exact ⟨i + 1, by omega, by go_num, by have h := HO1.out; simp only [List.map_cons, List.map_nil] at h; rw [HTK.out] at h; exact h, HO2.out.below HB2.out (Nat.le_refl _) (Nat.le_refl _) HG1.out⟩
      case measure => have hw := HW.out; simp [intOf]; omega
    · have hge : ¬ (i : Int) < (n : Int) := by omega
      obtain rfl : i = n := by omega
      have HE := hide (show l.take i = l by rw [← HIL.out.len, List.take_length])
      go_wp2
      go_ret
      exact ⟨_, rfl, by have h := HO.out; rw [HE.out] at h; rw [HIL.out.len]; exact h, HB.out⟩

set_option maxRecDepth 100000 in
set_option maxHeartbeats 1600000 in
theorem law_back (A : Option Addr) (n c : Nat) (l : List It) (w : World) (hl : IL w A n c l) (hn : (n : Int) ≤ 4398046511104) :
    Calls Try.prog 15 #[.slice A n c] w (GivesOQ 58 l w) := by
  obtain ⟨i0, hi0, hz0, hz1, hz2⟩ := info_parts rk_info
  have HIL := hide hl
  have HN := hide (show n * 32 ≤ 140737488355328 by omega)
  have HW := hide hn
  have HM := hide (show n ≤ maxLen from Nat.le_trans hl.le hl.max)
  clear hl
  go_enter Try.func15, Try.ntmps15
  go_wp2_with fail
  go_loopw [3, 4] (fun s3 s4 wr => ∃ i : Nat, i ≤ n ∧ s4 = .int .i64 (i : Int) ∧ OwnQ wr w.heap.size 58 s3 i (l.take i) ∧ Below w.heap.size w wr) (fun _ s4 _ => n - (intOf s4).toNat)
  case atStart => exact ⟨0, by omega, rfl, OwnQ.nil_ _ _ _, Below.refl _ _⟩
  case round =>
    obtain ⟨i, hi, rfl, ho, hb⟩ := hrel
    have HO := hide ho
    have HB := hide hb
    clear ho hb
    by_cases hlt : i < n
    · have hlt' : (i : Int) < (n : Int) := by omega
      obtain ⟨x, A', c', b, off, hx, rfl, hbl0, e0, e1, hp0⟩ := HIL.out.round hlt
      have HX := hide hx
      have HP := hide (hp0.keep HB.out)
      have HLT := hide (fun (b' off' : Nat) (e : A' = some ⟨b', off', none⟩) (hn : x.ps ≠ []) => pl_lt hp0 e hn)
      have c0 := (HB.out.cell (p := ⟨b, off + i * 2, none⟩) hbl0).trans e0
      have c1 := (HB.out.cell (p := ⟨b, off + i * 2 + 1, none⟩) hbl0).trans e1
      have hbl : b < wr.heap.size := by have := HB.out.size; omega
      have HBK := hide (BlkIs.new wr 58 (Ix.cs ⟨A', c', x⟩))
      have HO2 := hide (HO.out.alloc (.cells (Ix.cs ⟨A', c', x⟩) 58))
      have HY := hide (show AllX (wr.alloc (.cells (Ix.cs ⟨A', c', x⟩) 58)) [⟨A', c', x⟩] from fun y hy => by
        rw [List.mem_singleton] at hy; subst hy; exact HP.out.alloc _)
      have HAP := hide (show ApartX u3.ownBlock [⟨A', c', x⟩] from fun y hy b' off' e hn hh => by
        rw [List.mem_singleton] at hy; subst hy
        have h1 := HLT.out b' off' e hn
        have h2 := (HO.out.lt hh).1
        omega)
      have HTK := hide (show l.take i ++ [x] = l.take (i + 1) by rw [List.take_add_one, HX.out]; rfl)
      have HB2 := hide (HB.out.alloc HB.out.size (.cells (Ix.cs ⟨A', c', x⟩) 58))
      have HSZ := hide HB.out.size
      clear hx e0 e1 hp0 hbl0 HP HLT HX HO
      simp only [Ix.cs] at HBK HO2 HY HB2
      go_wp2_with (at_builtin; refine wpList_append_q _ rfl (.tmp 11) (.tmp 16) _ rfl w.heap.size 58 i0 _ 32 Try.underlying22 hi0 hz0 hz1 hz2 rfl _ i (l.take i) rfl HO2.out (some ⟨wr.heap.size, 0, none⟩) 1 1 [⟨A', c', x⟩] rfl (xl_blk HBK.out) HY.out HAP.out (by have := HM.out; omega) (by have := HN.out; omega) (by have := HSZ.out; simp; omega) ?_; intro v1 w1 hown1 hg1; have HO1 := hide hown1; have HG1 := hide hg1; clear hown1 hg1)
      go_roundw
      case rel => have hw := HW.out; exact ⟨i + 1, by omega, by go_num, by have h := HO1.out; simp only [List.map_cons, List.map_nil] at h; rw [HTK.out] at h; exact h, HO2.out.below HB2.out (Nat.le_refl _) (Nat.le_refl _) HG1.out⟩
      case measure => have hw := HW.out; simp [intOf]; omega
    · have hge : ¬ (i : Int) < (n : Int) := by omega
      obtain rfl : i = n := by omega
      have HE := hide (show l.take i = l by rw [← HIL.out.len, List.take_length])
      go_wp2
      go_ret
      exact ⟨_, rfl, by have h := HO.out; rw [HE.out] at h; rw [HIL.out.len]; exact h, HB.out⟩
end Go.Proofs.Ytjfdlgmdlfbeoaa
