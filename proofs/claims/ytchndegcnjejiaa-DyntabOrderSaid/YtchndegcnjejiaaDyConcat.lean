/-
  Layer 4: two lists put together; the table's changes.
-/
import Derived.Test.YtchndegcnjejiaaDyNew
namespace Go.Proofs.Ytchndegcnjejiaa
open Go.RowKit

def pre2 (a b : Nat) : Nat → Nat
  | 0 => 0
  | 1 => a
  | _ => a + b
def cat2 (a b : List Fd) : Nat → List Fd
  | 0 => []
  | 1 => a
  | _ => a ++ b

set_option maxRecDepth 100000 in
set_option maxHeartbeats 1600000 in
theorem sl_Concat (g : Nat) (A0 A1 : Option Addr) (n0 n1 c0 c1 : Nat) (l0 l1 : List Fd) (w : World) (hk : BlkIs w g 22 #[.slice A0 n0 c0, .slice A1 n1 c1]) (h0 : FL w A0 n0 c0 l0) (h1 : FL w A1 n1 c1 l1) (hp : 0 < n0) (hn : (n0 : Int) + (n1 : Int) ≤ 1000000000) :
    Calls Try.prog 41 #[.slice (some ⟨g, 0, none⟩) 2 2] w (ListIs (l0 ++ l1) w) := by
  have HK := hide hk
  have H0 := hide h0
  have H1 := hide h1
  have HN := hide hn
  have hb0 : (n0 : Int) ≤ 1000000000 := by omega
  have hb1 : (n1 : Int) ≤ 1000000000 := by omega
  have q0 := hk.cell 0
  have q1 := hk.cell 1
  simp only [List.getElem?_toArray, List.getElem?_cons_zero, List.getElem?_cons_succ] at q0 q1
  have HG := hide (sl_Grow (n0 + n1) (by omega) (by omega) w)
  clear hk h0 h1 hn
  go_enter Try.func41, Try.ntmps41
  go_wp2_with fail
  go_loop [3, 11] (fun s k => ∃ i : Nat, i ≤ 2 ∧ k = .int .i64 (i : Int) ∧ s = .int .i64 (pre2 n0 n1 i : Nat)) (fun _ k => 2 - (intOf k).toNat)
  case atStart => exact ⟨0, by omega, rfl, rfl⟩
  case round =>
    obtain ⟨i, hi, rfl, rfl⟩ := hrel
    obtain rfl | rfl | rfl : i = 0 ∨ i = 1 ∨ i = 2 := by omega
    · show Code.wp _ _ _ _ _
      have e0 : ((pre2 n0 n1 0 : Nat) : Int) = 0 := rfl
      have HE := hide (show ((pre2 n0 n1 1 : Nat) : Int) = (n0 : Int) from rfl)
      rw [e0]
      clear e0
      go_wp2
      go_round
      case rel => exact ⟨1, by omega, by go_num, by rw [HE.out]⟩
      case measure => simp [intOf]
    · have e0 : ((pre2 n0 n1 1 : Nat) : Int) = (n0 : Int) := rfl
      have HE := hide (show ((pre2 n0 n1 2 : Nat) : Int) = (n0 : Int) + (n1 : Int) from Int.natCast_add _ _)
      rw [e0]
      clear e0
      have hs0 : (0 : Int) ≤ (n0 : Int) + (n1 : Int) := by omega
      have hs1 : (n0 : Int) + (n1 : Int) ≤ 1000000000 := HN.out
      go_wp2
      go_round
      case rel => exact ⟨2, by omega, by go_num, by rw [HE.out]⟩
      case measure => simp [intOf]
    · have e0 : ((pre2 n0 n1 2 : Nat) : Int) = ((n0 + n1 : Nat) : Int) := rfl
      rw [e0]
      clear e0
      go_wp2_with fail
      refine HG.out.mono ?_
      rintro e w1 ⟨g1, C, rfl, hown, hb⟩
      have HO := hide hown
      have HB := hide hb
      have r0 := (HK.out.keep hb).cell 0
      have r1 := (HK.out.keep hb).cell 1
      clear hown hb HG
      go_wp2_with fail
      go_loopw [6, 27] (fun v k wr => ∃ i : Nat, i ≤ 2 ∧ k = .int .i64 (i : Int) ∧ wr.ownsRow w.heap.size 29 3 v (pre2 n0 n1 i) (fcs (cat2 l0 l1 i)) ∧ Below w.heap.size w wr) (fun _ k _ => 2 - (intOf k).toNat)
      case atStart => exact ⟨0, by omega, rfl, HO.out, HB.out⟩
      case round =>
        obtain ⟨j, hj, rfl, hown2, hb2⟩ := hrel
        have HB2 := hide hb2
        have s0 := (HK.out.keep hb2).cell 0
        have s1 := (HK.out.keep hb2).cell 1
        simp only [List.getElem?_toArray, List.getElem?_cons_zero, List.getElem?_cons_succ] at s0 s1
        have F0 := hide (H0.out.keep hb2)
        have F1 := hide (H1.out.keep hb2)
        obtain rfl | rfl | rfl : j = 0 ∨ j = 1 ∨ j = 2 := by omega
        · have HO2 := hide (show wr.ownsRow w.heap.size 29 3 u6 0 (fcs []) from hown2)
          clear hown2 hb2
          go_wp2_with (at_builtin; refine wpList_append_fl _ rfl (.tmp 31) (.tmp 32) rfl w.heap.size _ 0 [] rfl HO2.out A0 n0 c0 l0 rfl F0.out (by have := HN.out; omega) HB2.out.size ?_; intro v1 w3 hown3 hg3; have HO3 := hide hown3; have HG3 := hide hg3; clear hown3 hg3)
          go_roundw
          case rel => exact ⟨1, by omega, by go_num, by have := HO3.out; rw [Nat.zero_add] at this; exact this, own_below_f HO2.out HB2.out (Nat.le_refl _) (Nat.le_refl _) HG3.out⟩
          case measure => simp [intOf]
        · have HO2 := hide (show wr.ownsRow w.heap.size 29 3 u6 n0 (fcs l0) from hown2)
          clear hown2 hb2
          go_wp2_with (at_builtin; refine wpList_append_fl _ rfl (.tmp 31) (.tmp 32) rfl w.heap.size _ n0 l0 rfl HO2.out A1 n1 c1 l1 rfl F1.out (by have := HN.out; omega) HB2.out.size ?_; intro v1 w3 hown3 hg3; have HO3 := hide hown3; have HG3 := hide hg3; clear hown3 hg3)
          go_roundw
          case rel => exact ⟨2, by omega, by go_num, HO3.out, own_below_f HO2.out HB2.out (Nat.le_refl _) (Nat.le_refl _) HG3.out⟩
          case measure => simp [intOf]
        · have HO2 := hide (show wr.ownsRow w.heap.size 29 3 u6 (n0 + n1) (fcs (l0 ++ l1)) from hown2)
          clear hown2 hb2
          go_wp2
          go_ret
          obtain ⟨A, c, rfl, hf⟩ := own_fields HO2.out
          exact ⟨A, n0 + n1, c, rfl, hf, HB2.out⟩
end Go.Proofs.Ytchndegcnjejiaa
