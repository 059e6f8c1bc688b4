/-
  Layer 10: cut (the whole frames off a text, and what is left of it).
-/
import Derived.Test.YtojcjmjohibpaaaSpBegun
import Derived.Test.YtojcjmjohibpaaaClone
import Derived.Deep.RegionHeld3
import Derived.Deep.AppendLies
namespace Go.Proofs.Ytojcjmjohibpaaa
set_option linter.unusedSimpArgs false
set_option linter.unusedVariables false
open Go.RowKit

def cutT (r : Option (List Int)) : ByteArray := match r with | none => ⟨#[]⟩ | some t => strOfNums t
def cutC (r : Option (List Int)) : Int := match r with | none => 6 | some _ => 0
/-- What cut answers. -/
def GivesCut (r : List Rw × Option (List Int)) (w : World) (e : Ending) (w' : World) : Prop :=
  ∃ v, e = .returned (.tuple #[v, .string (cutT r.2), .int .u32 (cutC r.2)]) ∧ w'.ownsRow w.heap.size 53 5 v r.1.length (rcs r.1) ∧ Below w.heap.size w w'
theorem cutC_bd (r : Option (List Int)) : 0 ≤ cutC r ∧ cutC r ≤ 6 := by cases r <;> simp [cutC]
theorem gives_bad {xs : List Int} {pre : List Rw} {ts : List Int} (hc : cutS xs = (pre ++ (cutS ts).1, (cutS ts).2)) (h : 16384 < gL ts) : cutS xs = (pre, none) := by
  rw [hc, cutS_bad h]; simp
theorem gives_end {xs : List Int} {pre : List Rw} {ts : List Int} (hc : cutS xs = (pre ++ (cutS ts).1, (cutS ts).2)) (h1 : ¬ 16384 < gL ts) (h2 : (ts.length : Int) < 9 + gL ts) : cutS xs = (pre, some ts) := by
  rw [hc, cutS_short h1 h2]; simp
theorem gives_go {xs : List Int} {pre : List Rw} {ts : List Int} (hc : cutS xs = (pre ++ (cutS ts).1, (cutS ts).2)) (h1 : ¬ 16384 < gL ts) (h2 : ¬ (ts.length : Int) < 9 + gL ts) {us : List Int} (hu : us = ts.drop (9 + (gL ts).toNat)) :
    cutS xs = ((pre ++ [rwOf ts]) ++ (cutS us).1, (cutS us).2) := by
  rw [hc, cutS_next h1 h2, hu]; simp
theorem own_keep5 {w w' : World} {B : Nat} {e : TypeId} {s n : Nat} {v : Value} {xs : List Value} (h : w.ownsRow B e s v n xs) (hb : Below w.heap.size w w') : w'.ownsRow B e s v n xs :=
  h.kept (row := none) ⟨hb.os, hb.tape, hb.output, hb.size, fun i hi _ => hb.block i hi⟩ (by cases v.ownBlock <;> simp)
theorem own_drew5 {w : World} {B : Nat} {e : TypeId} {s n : Nat} {v : Value} {xs : List Value} (h : w.ownsRow B e s v n xs) : w.drew.ownsRow B e s v n xs := h
theorem ext_size (T : ByteArray) (M : Nat) : (T.extract M T.size).size = T.size - M := by
  rw [← bts_len, bts_drop, List.length_drop, bts_len]
theorem len_snoc {pre : List Rw} {r : Rw} {T : ByteArray} {M N : Nat} (h : 9 * pre.length + T.size ≤ N) (h9 : 9 ≤ M) (hM : M ≤ T.size) : 9 * (pre ++ [r]).length + (T.extract M T.size).size ≤ N := by
  rw [ext_size, List.length_append, List.length_singleton]; omega
theorem row_snoc {w : World} {B : Nat} {t : TypeId} {v : Value} {pre : List Rw} {r : Rw} (h : w.ownsRow B t 5 v (pre.length + 1) (rcs pre ++ [.int .i64 r.l, .int .u8 r.t, .int .u8 r.f, .int .i64 r.s, .string r.d])) : w.ownsRow B t 5 v (pre ++ [r]).length (rcs (pre ++ [r])) := by
  rw [rcs_append, List.length_append, List.length_singleton]; exact h
theorem rw_eq {T : ByteArray} {M : Nat} (hM : (M : Int) = 9 + gL (bts T)) : rwOf (bts T) = ⟨gL (bts T), gT (bts T), gF (bts T), gS (bts T), T.extract 9 M⟩ := by
  have : T.extract 9 M = strOfNums (((bts T).drop 9).take (gL (bts T)).toNat) := by
    rw [← str_bts (T.extract 9 M), bts_extract, show M - 9 = (gL (bts T)).toNat by omega]
  rw [rwOf, this]

set_option maxRecDepth 100000 in
set_option maxHeartbeats 1600000 in
theorem sp_cut (S : ByteArray) (hS : (S.size : Int) ≤ 5000) (w : World) :
    Calls Try.prog 19 #[.string S] w (GivesCut (cutS (bts S)) w) := by
  have hz := run_zero_is hd_zero
  obtain ⟨i0, hi0, hz0, hz1, hz2⟩ := info_parts zw_info
  go_enter Try.func19, Try.ntmps19
  go_wp2_with fail
  go_loopw [0, 5] (fun s l wr => ∃ (T : ByteArray) (pre : List Rw), s = .string T ∧ 9 * pre.length + T.size ≤ S.size ∧ cutS (bts S) = (pre ++ (cutS (bts T)).1, (cutS (bts T)).2) ∧ wr.ownsRow w.heap.size 53 5 l pre.length (rcs pre) ∧ Below w.heap.size w wr) (fun s _ _ => (match s with | .string T => T.size | _ => 0))
  case atStart => exact ⟨S, [], rfl, by simp, by simp, World.ownsRow_nil _ _ _ _, Below.refl _ _⟩
  case round =>
    obtain ⟨T, pre, rfl, hlen, hcut, hown, hb⟩ := hrel
    have HC := hide (sp_begun T wr)
    rw [hdOf] at HC
    have hbd := gL_bd (bts_all T)
    have HRW := hide (fun M hM => rw_eq (T := T) (M := M) hM)
    have HTL := hide (bts_len T)
    obtain ⟨L, hL⟩ : ∃ L, L = gL (bts T) := ⟨_, rfl⟩
    obtain ⟨ty, hty⟩ : ∃ L, L = gT (bts T) := ⟨_, rfl⟩
    obtain ⟨fl, hfl⟩ : ∃ L, L = gF (bts T) := ⟨_, rfl⟩
    obtain ⟨sr, hsr⟩ : ∃ L, L = gS (bts T) := ⟨_, rfl⟩
    rw [← hL, ← hty, ← hfl, ← hsr] at HC HRW
    rw [← hL] at hbd
    have l0 := hbd.1
    have l1 := hbd.2
    obtain ⟨M, hM⟩ : ∃ M : Nat, (M : Int) = 9 + L := ⟨(9 + L).toNat, by omega⟩
    rw [← hM] at HC
    have HL := hide hL
    have HM := hide hM
    have m9 : 9 ≤ (M : Int) := by omega
    have m9' : 9 ≤ M := by omega
    have HCUT := hide hcut
    have HOWN := hide hown
    have HB := hide hb
    have HLEN := hide hlen
    clear hbd hL hty hfl hsr hcut hown hb hlen hM
    have hts : (T.size : Int) ≤ 5000 := by have := HLEN.out; omega
    go_wp2_with fail
    refine HC.out.mono ?_
    rintro e w1 ⟨rfl, hb1⟩
    have B1 := hide (HB.out.trans (hb1.mono HB.out.size))
    have O1 := hide (HOWN.out.kept (row := none) ⟨hb1.os, hb1.tape, hb1.output, hb1.size, fun i hi _ => hb1.block i hi⟩ (by cases u5.ownBlock <;> simp))
    clear hb1 HC HB HOWN
    by_cases h1 : 16384 < L
    · have h1' : 16393 < (M : Int) := by have := HM.out; omega
      have HG := hide (gives_bad HCUT.out (by rw [← HL.out]; exact h1))
      go_wp2_with fail
      go_ret3
      rw [HG.out]
      exact ⟨_, rfl, O1.out.alloc _, B1.out.alloc B1.out.size _⟩
    · have h1' : ¬ 16393 < (M : Int) := by have := HM.out; omega
      by_cases h2 : T.size < M
      · have HG := hide (gives_end HCUT.out (by rw [← HL.out]; exact h1) (by rw [← HL.out, HTL.out]; have := HM.out; omega))
        go_wp2_with fail
        go_ret3
        rw [HG.out]
        exact ⟨_, by rw [cutT, str_bts]; rfl, O1.out.alloc _, B1.out.alloc B1.out.size _⟩
      · have h2' : (M : Int) ≤ (T.size : Int) := by omega
        have h2'' : M ≤ T.size := by omega
        have HRR := hide (HRW.out M HM.out)
        have HG := hide (gives_go HCUT.out (by rw [← HL.out]; exact h1) (by rw [← HL.out, HTL.out]; have := HM.out; omega) (us := bts (T.extract M T.size)) (by rw [bts_drop, ← HL.out]; congr 1; have := HM.out; omega))
        have HCL := hide (fr_clone (T.extract 9 M) (by have := HLEN.out; simp; omega))
        have HPL := hide (show (pre.length : Int) ≤ 5000 by have := HLEN.out; omega)
        have K1 := hide (BlkIs.new w1 49 #[.int .i64 L, .int .u8 ty, .int .u8 fl, .int .i64 sr])
        have B2 := hide (B1.out.alloc B1.out.size (.cells #[.int .i64 L, .int .u8 ty, .int .u8 fl, .int .i64 sr] 49))
        have O2 := hide (O1.out.alloc (.cells #[.int .i64 L, .int .u8 ty, .int .u8 fl, .int .i64 sr] 49))
        obtain ⟨g, hg⟩ : ∃ g, g = w1.heap.size := ⟨_, rfl⟩
        have NG := hide (show some g ≠ u5.ownBlock by intro he; have := (O1.out.lt g he.symm).2; omega)
        rw [← hg] at K1
        have HGG := hide hg
        clear hg HRW HCUT HTL
        obtain ⟨q0, q1, q2, q3⟩ := hd_cells K1.out.drew
        go_wp2_with fail
        rw [← HGG.out]
        generalize w1.alloc (.cells #[.int .i64 L, .int .u8 ty, .int .u8 fl, .int .i64 sr] 49) = w2 at K1 B2 O2 q0 q1 q2 q3 ⊢
        clear O1 B1
        go_region_held3 (fun w' => w'.cell? ⟨g, 0, none⟩ = some (.int .i64 L) ∧ w'.cell? ⟨g, 1, none⟩ = some (.int .u8 ty) ∧ w'.cell? ⟨g, 2, none⟩ = some (.int .u8 fl) ∧ w'.cell? ⟨g, 3, none⟩ = some (.int .i64 sr))
          (first | exact ⟨q0, q1, q2, q3⟩ | exact hd_cells K3.out | exact hd_cells (K3.out.alloc _) | exact hd_cells K4.out)
          (first
            | (go_at_call 20; ((with_reducible refine (HCL.out _).mono ?_); rintro e w3 ⟨rfl, hb3⟩; have HB3 := hide (B2.out.drew.trans (hb3.mono B2.out.size)); have HO3 := hide (own_keep5 (w := w2.drew) (w' := w3) (own_drew5 O2.out) hb3); have K3 := hide (K1.out.drew.keep hb3); clear hb3))
            | (refine step_append_lies _ (by rfl) (.tmp 22) (.tmp 29) 27 (by rfl) w.heap.size 53 i0 _ 5 40 Try.underlying27 hi0 hz0 hz1 hz2 rfl (by decide) u5 pre.length (rcs pre) (by rfl) (HO3.out.alloc _) ⟨w3.heap.size, 0, none⟩ 1 1 [.int .i64 L, .int .u8 ty, .int .u8 fl, .int .i64 sr, .string (T.extract 9 M)] (by rfl) (by rfl) (World.news_of_block (cs := #[.int .i64 L, .int .u8 ty, .int .u8 fl, .int .i64 sr, .string (T.extract 9 M)]) (t := 53) (fr := (0, 0)) (heap_alloc_new w3 _)) (by simp [Value.oneCell']) (by omega) (by have := HPL.out; unfold maxLen; omega) (by have := HPL.out; omega) (Nat.le_trans HB3.out.size (by simp)) _ rfl ?_; intro gg cap w4 hown4 hgrow4 hat4 hlt4; have K4 := hide ((K3.out.alloc _).grown hgrow4 NG.out); have HO4 := hide hown4; have HB4 := hide (own_below' (HO3.out.alloc _) (HB3.out.alloc HB3.out.size _) (Nat.le_refl _) (Nat.le_refl _) hgrow4); clear hown4 hgrow4 hat4 hlt4))
        all_goals
          go_wp2_with fail
          go_roundw
          case rel => exact ⟨T.extract M T.size, pre ++ [⟨L, ty, fl, sr, T.extract 9 M⟩], rfl, len_snoc HLEN.out m9' h2'', by rw [← HRR.out]; exact HG.out, row_snoc HO4.out, HB4.out⟩
          case measure => show (T.extract M T.size).size < T.size; rw [ext_size]; omega
end Go.Proofs.Ytojcjmjohibpaaa
