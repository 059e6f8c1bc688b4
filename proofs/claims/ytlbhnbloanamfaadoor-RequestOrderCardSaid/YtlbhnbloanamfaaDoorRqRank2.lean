/-
  Layer 17: Rank, the program's and the document's.
-/
import Derived.Test.YtlbhnbloanamfaaDoorRqRank
namespace Go.Proofs.YtlbhnbloanamfaaDoor
set_option linter.unusedSimpArgs false
set_option linter.unusedVariables false
open Go.RowKit

theorem pref_bts (p s : ByteArray) : prefB p s = decide ((bts s).take p.size = bts p) := by
  unfold prefB
  by_cases h : p.size ≤ s.size
  · rw [decide_eq_true h, Bool.true_and, Bool.eq_iff_iff, decide_eq_true_eq, decide_eq_true_eq]
    have := bts_extract s 0 p.size
    rw [List.drop_zero, Nat.sub_zero] at this
    rw [← this]
    exact ⟨fun e => by rw [e], fun e => bts_inj e⟩
  · rw [decide_eq_false h, Bool.false_and, eq_comm, decide_eq_false_iff_not]
    intro e
    have := congrArg List.length e
    rw [List.length_take, bts_len, bts_len] at this
    omega
theorem pref_u (T : ByteArray) : prefB uEq T = (decide (2 ≤ T.size) && (decide ((bts T).getD 0 0 = 117) && decide ((bts T).getD 1 0 = 61))) := by
  rw [pref_bts, ← bts_len T, show bts uEq = [117, 61] by decide, show uEq.size = 2 from rfl]
  match bts T with
  | [] => rfl
  | [a] => simp
  | a :: b :: l => simp [Bool.eq_iff_iff]
theorem rankT_no {T : ByteArray} (h : prefB uEq T = false) : rankT (bts T) = 3 := by
  rw [pref_u] at h
  unfold rankT
  rw [if_neg]
  rintro ⟨h1, h2, h3, _⟩
  rw [bts_len] at h1
  rw [h2, h3, decide_eq_true (by omega)] at h
  simp at h
theorem rankT_len {l : List Int} (h : l.length ≠ 3) : rankT l = 3 := by
  unfold rankT
  rw [if_neg (fun e => h e.1)]
theorem rankT_c {T : ByteArray} {c : Int} (h : prefB uEq T = true) (hl : T.size = 3) (hc : (bts T).getD 2 0 = c) : rankT (bts T) = if 48 ≤ c ∧ c ≤ 55 then c - 48 else 3 := by
  rw [pref_u] at h
  simp only [Bool.and_eq_true, decide_eq_true_eq] at h
  unfold rankT
  rw [hc, bts_len]
  by_cases e : 48 ≤ c ∧ c ≤ 55
  · rw [if_pos ⟨hl, h.2.1, h.2.2, e⟩, if_pos e]
  · rw [if_neg (fun q => e q.2.2.2), if_neg e]

set_option maxRecDepth 100000 in
set_option maxHeartbeats 1600000 in
theorem rq_Rank (s : ByteArray) (hs : (s.size : Int) ≤ 1000000) (w : World) :
    Calls Tryd.prog 18 #[.string s] w fun e w' => e = .returned (.int .i64 (rankI s)) ∧ Below w.heap.size w w' := by
  have HC := hide (rq_Cut s hs w)
  obtain ⟨C, hC⟩ : ∃ C, C = rankI s := ⟨_, rfl⟩
  rw [← hC]
  have HK := hide hC
  clear hC
  go_enter Tryd.func18, Tryd.ntmps18
  go_wp2_with fail
  refine HC.out.mono ?_
  rintro e w2 ⟨T, R, b, rfl, ht, hb⟩
  have HB := hide hb
  have HR := hide (HK.out.trans (rankI_t s T ht))
  have hts : (T.size : Int) ≤ 1000000 := by
    have h1 := bts_len T
    have h2 := bts_len s
    have h3 : (bts T).length ≤ (bts s).length := by rw [ht]; exact (List.takeWhile_prefix noC).length_le
    omega
  clear ht hb HC HK
  by_cases hp : prefB uEq T = true
  · have HP := hide hp
    have HQ := hide (fun w => rq_CutP_yes uEq T hp hts (by decide) w)
    have hle : 2 ≤ T.size := by
      rw [pref_u] at hp
      simp at hp
      exact hp.1
    rw [show uEq.size = 2 from rfl] at HQ
    obtain ⟨N, hN⟩ : ∃ N, N = T.extract 2 T.size := ⟨_, rfl⟩
    rw [← hN] at HQ
    have HN := hide hN
    have hnl : N.size = T.size - 2 := by rw [hN]; simp [ByteArray.size_extract]
    clear hN hp
    by_cases h3 : T.size = 3
    · have hn1 : ((N.size : Int) == 1) = true := by simp; omega
      have hn1' : 0 < N.size := by omega
      have HZ := bts_get N 0 hn1'
      obtain ⟨c, hc⟩ : ∃ c, c = ((N[0].toNat : Nat) : Int) := ⟨_, rfl⟩
      rw [← hc] at HZ
      have hc' := hc.symm
      have HCC := hide (rankT_c (c := c) HP.out h3 (by
        rw [← HZ, HN.out, bts_drop]
        simp [List.getD]))
      have hbd : 0 ≤ c ∧ c ≤ 255 := by rw [← HZ]; exact (bts_all N).getD 0
      obtain ⟨hb0, hb1⟩ := hbd
      have hsz : (N.size : Int) = 1 := by omega
      clear hc HZ hnl h3 hts
      by_cases h48 : 48 ≤ c
      · by_cases h55 : c ≤ 55
        · go_wp2_with (go_at_call 43; refine (HQ.out _).mono ?_; rintro e w3 ⟨rfl, rfl⟩)
          go_ret
          exact ⟨by rw [HR.out, HCC.out, if_pos ⟨h48, h55⟩]; rfl, HB.out⟩
        · go_wp2_with (go_at_call 43; refine (HQ.out _).mono ?_; rintro e w3 ⟨rfl, rfl⟩)
          go_ret
          exact ⟨by rw [HR.out, HCC.out, if_neg (by omega)]; rfl, HB.out⟩
      · go_wp2_with (go_at_call 43; refine (HQ.out _).mono ?_; rintro e w3 ⟨rfl, rfl⟩)
        go_ret
        exact ⟨by rw [HR.out, HCC.out, if_neg (by omega)]; rfl, HB.out⟩
    · have hn1 : ((N.size : Int) == 1) = false := by simp; omega
      have hn2 : ((N.size : Int) != 1) = true := by simp; omega
      have hn3 : ¬ (N.size : Int) = 1 := by omega
      have HT := hide (rankT_len (l := bts T) (by rw [bts_len]; exact h3))
      clear h3 hnl
      go_wp2_with (go_at_call 43; refine (HQ.out _).mono ?_; rintro e w3 ⟨rfl, rfl⟩)
      go_ret
      exact ⟨by rw [HR.out, HT.out]; rfl, HB.out⟩
  · have hp' : prefB uEq T = false := by simpa using hp
    have HT := hide (rankT_no hp')
    have HQ := hide (fun w => rq_CutP_no uEq T hp' hts (by decide) w)
    clear hp hp'
    go_wp2_with (go_at_call 43; refine (HQ.out _).mono ?_; rintro e w3 ⟨rfl, rfl⟩)
    go_ret
    exact ⟨by rw [HR.out, HT.out]; rfl, HB.out⟩

theorem rank_no {s : ByteArray} (h : rankB (bts s) = false) : rankI s = 3 := if_neg (by rw [h]; simp)
set_option maxRecDepth 100000 in
set_option maxHeartbeats 3200000 in
theorem rg_Rank (s : ByteArray) (hs : (s.size : Int) ≤ 1000000) (w : World) :
    Calls Tryd.prog 19 #[.string s] w fun e w' => e = .returned (.int .i64 (rankI s)) ∧ w = w' := by
  obtain ⟨C, hC⟩ : ∃ C, C = rankI s := ⟨_, rfl⟩
  rw [← hC]
  have HC := hide hC
  have HL := hide (bts_len s)
  clear hC
  by_cases h3 : (3 : Int) ≤ (s.size : Int)
  · have h0 : 0 < s.size := by omega
    have h1 : 1 < s.size := by omega
    have h2 : 2 < s.size := by omega
    have HA := bts_get s 0 h0
    have HB := bts_get s 1 h1
    have HD := bts_get s 2 h2
    obtain ⟨a, ha⟩ : ∃ a, a = ((s[0].toNat : Nat) : Int) := ⟨_, rfl⟩
    obtain ⟨b, hb⟩ : ∃ b, b = ((s[1].toNat : Nat) : Int) := ⟨_, rfl⟩
    obtain ⟨c, hc⟩ : ∃ c, c = ((s[2].toNat : Nat) : Int) := ⟨_, rfl⟩
    rw [← ha] at HA
    rw [← hb] at HB
    rw [← hc] at HD
    have ha' := ha.symm
    have hb' := hb.symm
    have hc' := hc.symm
    have HR : rankB (bts s) = (decide (a = 117) && (decide (b = 61) && (decide (48 ≤ c) && (decide (c ≤ 55) && (decide ((bts s).length = 3) || decide ((bts s).getD 3 0 = 44)))))) := by
      unfold rankB
      rw [HA, HB, HD, HL.out, decide_eq_true (show 3 ≤ s.size by omega)]
      rfl
    have HI : rankI s = if rankB (bts s) = true then c - 48 else 3 := by unfold rankI; rw [HD]
    rw [HL.out] at HR
    clear ha hb hc HA HB HD
    have hcases : (a ≠ 117) ∨ (a = 117 ∧ b ≠ 61) ∨ (a = 117 ∧ b = 61 ∧ ¬ 48 ≤ c) ∨ (a = 117 ∧ b = 61 ∧ 48 ≤ c ∧ ¬ c ≤ 55) ∨ (a = 117 ∧ b = 61 ∧ 48 ≤ c ∧ c ≤ 55) := by omega
    rcases hcases with e0 | ⟨e0, e1⟩ | ⟨e0, e1, e2⟩ | ⟨e0, e1, e2, e3⟩ | ⟨e0, e1, e2, e3⟩
    · have HT := hide (show rankI s = 3 by rw [HI, HR, decide_eq_false e0]; rfl)
      have d0 : (a == 117) = false := by simpa using e0
      have d0n : (a != 117) = true := by simpa using e0
      clear e0 HI HR
      go_enter Tryd.func19, Tryd.ntmps19
      go_wp2
      go_ret
      exact ⟨by rw [HC.out, HT.out]; rfl, rfl⟩
    · have HT := hide (show rankI s = 3 by rw [HI, HR, decide_eq_true e0, decide_eq_false e1]; rfl)
      have d0 : (a == 117) = true := by simpa using e0
      have d0n : (a != 117) = false := by simpa using e0
      have d1 : (b == 61) = false := by simpa using e1
      have d1n : (b != 61) = true := by simpa using e1
      clear e0 e1 HI HR
      go_enter Tryd.func19, Tryd.ntmps19
      go_wp2
      go_ret
      exact ⟨by rw [HC.out, HT.out]; rfl, rfl⟩
    · have HT := hide (show rankI s = 3 by rw [HI, HR, decide_eq_true e0, decide_eq_true e1, decide_eq_false e2]; rfl)
      have d0 : (a == 117) = true := by simpa using e0
      have d0n : (a != 117) = false := by simpa using e0
      have d1 : (b == 61) = true := by simpa using e1
      have d1n : (b != 61) = false := by simpa using e1
      clear e0 e1 HI HR
      go_enter Tryd.func19, Tryd.ntmps19
      go_wp2
      go_ret
      exact ⟨by rw [HC.out, HT.out]; rfl, rfl⟩
    · have HT := hide (show rankI s = 3 by rw [HI, HR, decide_eq_true e0, decide_eq_true e1, decide_eq_true e2, decide_eq_false e3]; rfl)
      have d0 : (a == 117) = true := by simpa using e0
      have d0n : (a != 117) = false := by simpa using e0
      have d1 : (b == 61) = true := by simpa using e1
      have d1n : (b != 61) = false := by simpa using e1
      clear e0 e1 HI HR
      go_enter Tryd.func19, Tryd.ntmps19
      go_wp2
      go_ret
      exact ⟨by rw [HC.out, HT.out]; rfl, rfl⟩
    · rw [decide_eq_true e0, decide_eq_true e1, decide_eq_true e2, decide_eq_true e3] at HR
      simp only [Bool.true_and] at HR
      have d0 : (a == 117) = true := by simpa using e0
      have d0n : (a != 117) = false := by simpa using e0
      have d1 : (b == 61) = true := by simpa using e1
      have d1n : (b != 61) = false := by simpa using e1
      clear e0 e1
      by_cases h4 : (3 : Int) < (s.size : Int)
      · have h4' : 3 < s.size := by omega
        have HE := bts_get s 3 h4'
        obtain ⟨d, hd⟩ : ∃ d, d = ((s[3].toNat : Nat) : Int) := ⟨_, rfl⟩
        rw [← hd] at HE
        have hd' := hd.symm
        rw [HE, decide_eq_false (show ¬ s.size = 3 by omega), Bool.false_or] at HR
        clear hd HE
        by_cases e4 : d = 44
        · have HT := hide (show rankI s = c - 48 by rw [HI, HR, decide_eq_true e4]; rfl)
          have d4 : (d == 44) = true := by simpa using e4
          have d4n : (d != 44) = false := by simpa using e4
          clear e4 HI HR
          go_enter Tryd.func19, Tryd.ntmps19
          go_wp2
          go_ret
          exact ⟨by rw [HC.out, HT.out]; rfl, rfl⟩
        · have HT := hide (show rankI s = 3 by rw [HI, HR, decide_eq_false e4]; rfl)
          have d4 : (d == 44) = false := by simpa using e4
          have d4n : (d != 44) = true := by simpa using e4
          clear e4 HI HR
          go_enter Tryd.func19, Tryd.ntmps19
          go_wp2
          go_ret
          exact ⟨by rw [HC.out, HT.out]; rfl, rfl⟩
      · have HT := hide (show rankI s = c - 48 by rw [HI, HR, decide_eq_true (show s.size = 3 by omega)]; rfl)
        clear HI HR
        go_enter Tryd.func19, Tryd.ntmps19
        go_wp2
        go_ret
        exact ⟨by rw [HC.out, HT.out]; rfl, rfl⟩
  · have HT := hide (show rankI s = 3 from rank_no (by
      unfold rankB
      rw [HL.out, decide_eq_false (by omega)]
      rfl))
    go_enter Tryd.func19, Tryd.ntmps19
    go_wp2
    go_ret
    exact ⟨by rw [HC.out, HT.out]; rfl, rfl⟩
end Go.Proofs.YtlbhnbloanamfaaDoor
