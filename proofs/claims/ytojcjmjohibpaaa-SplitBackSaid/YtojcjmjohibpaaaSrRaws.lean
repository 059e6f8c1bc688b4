/-
  Layer 10: raw frames as the document's (the law's raws).
-/
import Derived.Test.YtojcjmjohibpaaaSrSame
namespace Go.Proofs.Ytojcjmjohibpaaa
set_option linter.unusedSimpArgs false
set_option linter.unusedVariables false
open Go.RowKit

theorem rrow_snoc {w : World} {B : Nat} {t : TypeId} {v : Value} {pre : List Rw} {r : Rw} {n : Nat} (hn : pre.length = n) (h : w.ownsRow B t 5 v (n + 1) (rcs pre ++ [.int .i64 r.l, .int .u8 r.t, .int .u8 r.f, .int .i64 r.s, .string r.d])) : w.ownsRow B t 5 v (n + 1) (rcs (pre ++ [r])) := by
  rw [rcs_append]; exact h

set_option maxRecDepth 100000 in
set_option maxHeartbeats 1600000 in
theorem lw_raws (A : Option Addr) (n c : Nat) (l : List Rw) (w : World) (hfl : ZL w A n c l) (hn : (n : Int) ≤ 100000) :
    Calls Try.prog 10 #[.slice A n c] w fun e w' => ∃ A' c', e = .returned (.slice A' n c') ∧ ZL w' A' n c' l ∧ Below w.heap.size w w' := by
  have HPL := hide hfl
  have HN := hide hn
  clear hfl
  obtain ⟨i0, hi0, hz0, hz1, hz2⟩ := info_parts zr_info
  go_enter Try.func10, Try.ntmps10
  go_wp2_with fail
  go_loopw [3, 4] (fun v k wr => ∃ i : Nat, i ≤ n ∧ k = .int .i64 (i : Int) ∧ wr.ownsRow w.heap.size 48 5 v i (rcs (l.take i)) ∧ Below w.heap.size w wr) (fun _ k _ => n - (intOf k).toNat)
  case atStart => exact ⟨0, by omega, rfl, World.ownsRow_nil _ _ _ _, Below.refl _ _⟩
  case round =>
    obtain ⟨i, hi, rfl, hown, hb⟩ := hrel
    have HO := hide hown
    have HB := hide hb
    clear hown hb
    by_cases hlt : i < n
    · have hlt' : (i : Int) < (n : Int) := by omega
      obtain ⟨f, b, off, hf, rfl, hbl, q0, q1, q2, q3, q4⟩ := HPL.out.round hlt
      have HCE := hide (fun (w' : World) (hb' : Below w.heap.size w w') => (⟨(hb'.cell hbl).trans q0, (hb'.cell hbl).trans q1, (hb'.cell hbl).trans q2, (hb'.cell hbl).trans q3, (hb'.cell hbl).trans q4⟩ :
        w'.cell? ⟨b, off + i * 5, none⟩ = some (.int .i64 f.l) ∧ w'.cell? ⟨b, off + i * 5 + 1, none⟩ = some (.int .u8 f.t) ∧ w'.cell? ⟨b, off + i * 5 + 2, none⟩ = some (.int .u8 f.f) ∧ w'.cell? ⟨b, off + i * 5 + 3, none⟩ = some (.int .i64 f.s) ∧ w'.cell? ⟨b, off + i * 5 + 4, none⟩ = some (.string f.d)))
      have HTK := hide (show l.take (i + 1) = l.take i ++ [f] by rw [List.take_add_one, hf]; rfl)
      have HTL := hide (show (l.take i).length = i by rw [List.length_take, HPL.out.len]; omega)
      have hl2 : (rcs (l.take i)).length = i * 5 := by rw [rcs_len, HTL.out]
      have HI := hide (show (i : Int) ≤ 100000 by have := HN.out; omega)
      clear hf q0 q1 q2 q3 q4
      obtain ⟨q0, q1, q2, q3, q4⟩ := HCE.out _ HB.out.drew
      go_wp2_with fail
      go_region_held3 (fun w' => w'.cell? ⟨b, off + i * 5, none⟩ = some (.int .i64 f.l) ∧ w'.cell? ⟨b, off + i * 5 + 1, none⟩ = some (.int .u8 f.t) ∧ w'.cell? ⟨b, off + i * 5 + 2, none⟩ = some (.int .u8 f.f) ∧ w'.cell? ⟨b, off + i * 5 + 3, none⟩ = some (.int .i64 f.s) ∧ w'.cell? ⟨b, off + i * 5 + 4, none⟩ = some (.string f.d))
        (first | exact ⟨q0, q1, q2, q3, q4⟩ | exact HCE.out _ (HB.out.drew.alloc HB.out.size _) | exact HCE.out _ B7.out)
        ((refine step_append_lies _ (by rfl) (.tmp 11) (.tmp 23) 32 (by rfl) w.heap.size 48 i0 _ 5 40 Try.underlying32 hi0 hz0 hz1 hz2 rfl (by decide) u3 i (rcs (l.take i)) (by rfl) (HO.out.alloc _).drew ⟨wr.heap.size, 0, none⟩ 1 1 [.int .i64 f.l, .int .u8 f.t, .int .u8 f.f, .int .i64 f.s, .string f.d] (by rfl) (by rfl) (World.news_of_block (cs := #[.int .i64 f.l, .int .u8 f.t, .int .u8 f.f, .int .i64 f.s, .string f.d]) (t := 48) (fr := (0, 0)) (heap_alloc_new wr _)) (by simp [Value.oneCell']) (by omega) (by have := HI.out; unfold maxLen; omega) (by have := HI.out; omega) (Nat.le_trans HB.out.size (by simp)) _ rfl ?_; intro gg cap7 w7 hown7 hgrow7 hat7 hlt7; have O7 := hide hown7; have B7 := hide (own_below' (HO.out.alloc _).drew (HB.out.alloc HB.out.size _).drew (Nat.le_refl _) (Nat.le_refl _) hgrow7); clear hown7 hgrow7 hat7 hlt7))
      all_goals
        go_wp2_with fail
        go_roundw
        case rel => exact ⟨i + 1, by omega, by go_num, by rw [HTK.out]; exact rrow_snoc HTL.out O7.out, B7.out⟩
        case measure => simp [intOf]; omega
    · have hge : ¬ (i : Int) < (n : Int) := by omega
      obtain rfl : i = n := by omega
      go_wp2
      have ho := HO.out
      rw [← HPL.out.len, List.take_length, HPL.out.len] at ho
      obtain ⟨A', c', rfl, hz⟩ := own_zl ho
      go_ret
      exact ⟨A', c', rfl, hz, HB.out⟩
end Go.Proofs.Ytojcjmjohibpaaa
