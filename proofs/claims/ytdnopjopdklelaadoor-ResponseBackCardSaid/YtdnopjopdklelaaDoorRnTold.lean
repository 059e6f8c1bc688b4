/-
  Layer 18: the document's Wait; told, hasColon; the document's show.
-/
import Derived.Test.YtdnopjopdklelaaDoorRnSmall
import Derived.Test.YtdnopjopdklelaaDoorRqFind
import Derived.Deep.QuietTactic
import Derived.BigQuiet
import Derived.Lib.ItoaLen
namespace Go.Proofs.YtdnopjopdklelaaDoor
set_option linter.unusedSimpArgs false
set_option linter.unusedVariables false
open Go.RowKit

theorem rm_Wait (t p : Int) (ht : t ≤ 9223372036854775807) (w : World) :
    Calls Tryd.prog 12 #[.int .i64 t, .int .i64 p] w fun e w' => e = .returned (.int .i64 (waitI t p)) ∧ w = w' := by
  obtain ⟨C, hC⟩ : ∃ C, C = waitI t p := ⟨_, rfl⟩
  rw [← hC]
  have HC := hide hC
  clear hC
  rcases Int.lt_or_le t 1 with h1 | h1
  · go_enter Tryd.func12, Tryd.ntmps12
    clear ht
    go_wp2
    go_ret
    exact ⟨by rw [HC.out, waitI_no (by omega)]; rfl, rfl⟩
  · rcases Int.lt_or_le p 1 with h2 | h2
    · go_enter Tryd.func12, Tryd.ntmps12
      clear ht
      go_wp2
      all_goals first | (exfalso; omega) | (go_ret; exact ⟨by rw [HC.out, waitI_no (by omega)]; rfl, rfl⟩)
    · have hb := waitI_bd h1 h2
      have HE := hide (wait_doc h1 h2)
      obtain ⟨q, hq⟩ : ∃ q, q = t / p := ⟨_, rfl⟩
      obtain ⟨m, hm⟩ : ∃ m, m = t % p := ⟨_, rfl⟩
      have hd : t / p = q := hq.symm
      have hd2 : t.tdiv p = q := by rw [Int.tdiv_eq_ediv_of_nonneg (by omega)]; exact hd
      have hr : t % p = m := hm.symm
      have hr2 : t.tmod p = m := by rw [Int.tmod_eq_emod_of_nonneg (by omega)]; exact hr
      have hq9 := Int.ediv_le_self p (show 0 ≤ t by omega)
      have hq0 := Int.ediv_nonneg (show 0 ≤ t by omega) (show 0 ≤ p by omega)
      rw [hd] at hq9 hq0
      rw [hd, hr] at HE
      have hp0 : ¬ p = 0 := by omega
      have hp1 : ¬ p = -1 := by omega
      have hw0 : wrap64 q = q := by unfold wrap64; omega
      by_cases hm0 : m = 0
      · have HF := hide (show waitI t p = q by rw [HE.out, if_pos hm0])
        subst hm0
        clear hb hq hm HE
        go_enter Tryd.func12, Tryd.ntmps12
        go_wp2
        all_goals first | (exfalso; omega) | (go_ret; exact ⟨by rw [HC.out, HF.out]; first | rfl | simp_all, rfl⟩)
      · have HF := hide (show waitI t p = q + 1 by rw [HE.out, if_neg hm0])
        have d1 : (m == 0) = false := by simpa using hm0
        have d2 : (m != 0) = true := by simpa using hm0
        have hq1 : q + 1 ≤ t := by have := hb.2.1; rw [HF.out] at this; exact this
        have hw2 : wrap64 (q + 1) = q + 1 := by unfold wrap64; omega
        clear hb hq hm HE hm0
        go_enter Tryd.func12, Tryd.ntmps12
        go_wp2
        all_goals first | (exfalso; omega) | (go_ret; exact ⟨by rw [HC.out, HF.out]; first | rfl | simp_all, rfl⟩)

theorem rn_hasColon (f : Fd) (w : World) (h : (f.n.size : Int) ≤ 100000) :
    Calls Tryd.prog 24 #[.agg #[.string f.n, .string f.v, .bool f.x]] w fun e w' => e = .returned (.bool (psF f)) ∧ Below w.heap.size w w' := by
  have HC := hide (fun w => rq_HasPrefix bColon f.n (by omega) (by decide) w)
  obtain ⟨v, hv⟩ : ∃ v, v = psF f := ⟨_, rfl⟩
  rw [show prefB bColon f.n = v from hv.symm] at HC
  rw [← hv]
  clear hv h
  go_enter Tryd.func24, Tryd.ntmps24
  go_wp2_with (go_at_call 32; refine (HC.out _).mono ?_; rintro e w2 ⟨rfl, rfl⟩)
  go_ret
  exact ⟨rfl, (Below.refl _ _).alloc (Nat.le_refl _) _⟩
theorem find_colon : FindIs 24 #[] psF (fun _ => True) where
  ent := rq_enters Tryd.func24 (by kernel_rfl) (by kernel_rfl)
  step := fun f w h1 _ _ => rn_hasColon f w h1
  keep := fun _ _ _ _ => trivial

theorem fd_siz : (Tryd.prog.info? 51).map (·.size) = some 3 := by kernel_rfl
theorem rn_told (nm : ByteArray) (n : Int) (h0 : -9223372036854775808 ≤ n) (h1 : n ≤ 9223372036854775807) (w : World) (ht : TabOk w) :
    Calls Tryd.prog 20 #[.string nm, .int .i64 n] w fun e w' => e = .returned (.agg #[.string nm, .string (itoaB n), .bool false]) ∧ Below w.heap.size w w' := by
  have hbt := fd_built
  have HC := hide (fun w' (hb : Below w.heap.size w w') => lb_Itoa n h0 h1 w' (ht.keep hb))
  have HB := hide (bel1 w (.cells #[.string ⟨#[]⟩, .string ⟨#[]⟩, .bool false] 51))
  have HN := hide (BlkIs.new w 51 #[.string ⟨#[]⟩, .string ⟨#[]⟩, .bool false])
  go_enter Tryd.func20, Tryd.ntmps20
  clear h0 h1 ht
  go_wp2_with fail
  refine (HC.out _ HB.out).mono ?_
  rintro e w2 ⟨rfl, hb2⟩
  rw [show (⟨(Lib.itoa n).toArray⟩ : ByteArray) = itoaB n from rfl]
  obtain ⟨X, hX⟩ : ∃ X, X = itoaB n := ⟨_, rfl⟩
  rw [← hX]
  have HX := hide hX
  have HN2 := hide (HN.out.keep hb2)
  have HB2 := hide (HB.out.trans (hb2.mono HB.out.size))
  have HG := hide (show w.heap.size ≤ w.heap.size by omega)
  clear hX hb2
  go_wp2_with (refine wpList_store_blk rfl 51 (.tmp 4) (.tmp 8) rfl w.heap.size #[.string nm, .string X, .bool false] #[.string ⟨#[]⟩, .string ⟨#[]⟩, .bool false] 51 rfl rfl HN2.out fd_siz rfl (by simp [Value.oneCell']) ?_)
  exact bodyPost_ret (results_cell_blk rfl _ _ w.heap.size 51 #[.string nm, .string X, .bool false] _ rfl (HN2.out.row _) Tryd.underlying51 rfl fd_siz) rfl ⟨by rw [← HX.out], below_setRow HB2.out HG.out _⟩

set_option maxRecDepth 100000 in
set_option maxHeartbeats 1600000 in
theorem rm_show (k : Nat) : ∀ (n : Nat) (w : World), n < 10 ^ (k + 1) → (n : Int) ≤ 1099511627776 → Calls Tryd.prog 21 #[.int .i64 (n : Int)] w fun e w' => e = .returned (.string (itoaB n)) ∧ Below w.heap.size w w' := by
  have small : ∀ (n : Nat) (w : World), n < 10 → Calls Tryd.prog 21 #[.int .i64 (n : Int)] w fun e w' => e = .returned (.string (itoaB n)) ∧ Below w.heap.size w w' := by
    intro n w h
    have hle : ¬ (9 : Int) < (n : Int) := by omega
    have hw8 : IntKind.u8.wrap (n : Int) = (n : Int) := IntWalk.u8_in _ (by omega)
    have hlt : (n : Int) ≤ 9 := by omega
    have HI := hide (itoa_small h)
    have hst := rb_string (w := w.alloc (.cells (u8s [48 + (n : Int)]).toArray 5)) 1 (rb_new w 5 [48 + (n : Int)] 1 rfl (fun i => by
      match i with
      | 0 => simp; omega
      | i + 1 => simp))
    simp only [u8s, List.map_cons, List.map_nil] at hst
    rw [HI.out]
    obtain ⟨S, hS⟩ : ∃ S, S = strOfNums [48 + (n : Int)] := ⟨_, rfl⟩
    rw [← hS] at hst ⊢
    clear hS
    go_enter Tryd.func21, Tryd.ntmps21
    go_wp2
    go_ret
    exact ⟨rfl, bel1 _ _⟩
  induction k with
  | zero => intro n w h _; exact small n w (by simpa using h)
  | succ k ih =>
    intro n w h hb
    by_cases h10 : n < 10
    · exact small n w h10
    · have hlt : (9 : Int) < (n : Int) := by omega
      obtain ⟨m, hme⟩ : ∃ m, m = n / 10 := ⟨_, rfl⟩
      obtain ⟨d, hde⟩ : ∃ d, d = n % 10 := ⟨_, rfl⟩
      have hd : (n : Int) / 10 = (m : Int) := by omega
      have hm : (n : Int) % 10 = (d : Int) := by omega
      have hd2 : (n : Int).tdiv 10 = (m : Int) := by rw [Int.tdiv_eq_ediv_of_nonneg (by omega)]; exact hd
      have hm2 : (n : Int).tmod 10 = (d : Int) := by rw [Int.tmod_eq_emod_of_nonneg (by omega)]; exact hm
      have h00 : (0 : Int) ≤ (n : Int) := by omega
      have hn10 : n / 10 < 10 ^ (k + 1) := by
        rw [Nat.pow_succ] at h
        exact Nat.div_lt_of_lt_mul (by rw [Nat.mul_comm]; exact h)
      have HC1 := hide (fun w => ih (n / 10) w hn10 (by omega))
      have HC2 := hide (fun w => small (n % 10) w (Nat.mod_lt _ (by omega)))
      have HI := hide (itoa_big h10)
      have hs1 : (itoaB (n / 10 : Nat)).size ≤ 20 := by
        have := itoa_len 12 (n / 10) (by omega)
        omega
      have hs2 : (itoaB (n % 10 : Nat)).size ≤ 20 := by
        have := itoa_len 12 (n % 10) (by omega)
        omega
      rw [HI.out]
      obtain ⟨S1, hS1⟩ : ∃ S, S = itoaB (n / 10 : Nat) := ⟨_, rfl⟩
      obtain ⟨S2, hS2⟩ : ∃ S, S = itoaB (n % 10 : Nat) := ⟨_, rfl⟩
      rw [← hS1] at HC1 hs1 ⊢
      rw [← hS2] at HC2 hs2 ⊢
      have hsz : ¬ 9223372036854775807 < S1.size + S2.size := by omega
      rw [← hme] at HC1
      rw [← hde] at HC2
      clear hS1 hS2 h small ih hn10 hme hde
      go_enter Tryd.func21, Tryd.ntmps21
      go_wp2_with fail
      refine (HC1.out _).mono ?_
      rintro e w1 ⟨rfl, hb1⟩
      have HB1 := hide hb1
      clear hb1
      go_wp2_with fail
      refine (HC2.out _).mono ?_
      rintro e w2 ⟨rfl, hb2⟩
      have HB2 := hide (HB1.out.trans (hb2.mono HB1.out.size))
      clear hb2
      go_wp2_with fail
      go_ret
      exact ⟨rfl, HB2.out⟩

end Go.Proofs.YtdnopjopdklelaaDoor
