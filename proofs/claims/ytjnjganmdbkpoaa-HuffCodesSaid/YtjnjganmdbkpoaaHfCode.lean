/-
  Layer 2: codes and Code.
-/
import Derived.Test.YtjnjganmdbkpoaaHfCodes
import Derived.Deep.QuietTactic
import Derived.BigQuiet
namespace Go.Proofs.Ytjnjganmdbkpoaa
open Go.RowKit

theorem firstV_one : firstV.all (·.oneCell') = true := u32v_one _
theorem nxt_lt : ∀ k, k < 256 → (nxtL k).getD (lensL.getD k 0) 0 < 1073741824 := fun k h => by rw [nxt_bits k h]; exact bits_bd k h

theorem hf_size_firstV : (Try.prog.info? 80).map (·.size) = some firstV.size := by rw [hf_size_first, firstV, u32v_size, fstL_len]
theorem firstZ_size : (u32v (cntL 0)).size = firstV.size := by rw [firstV, u32v_size, u32v_size, fstL_len, cntL_len]

set_option maxRecDepth 100000 in
set_option maxHeartbeats 1600000 in
theorem hf_codes (w : World) : Calls Try.prog 18 #[] w fun e w' => e = .returned (.agg codesV) ∧ Below w.heap.size w w' := by
  have hz1 := run_zero_is hf_zero_codes
  have hz2 := run_zero_is hf_zero_lens
  have hz3 := run_zero_is hf_zero_first
  go_enter Try.func18, Try.ntmps18
  go_wp2_with fail
  refine (hf_lengths _).mono ?_
  rintro e w1 ⟨rfl, hb1⟩
  have s1 := hb1.size
  rw [World.size_alloc] at s1
  have HB1 := hide (((Below.refl w.heap.size w).alloc (Nat.le_refl _) (.cells (codesA 0) 46)).trans (hb1.mono (by simp)))
  have K0 := hide ((BlkIs.new w 46 (codesA 0)).keep hb1)
  clear hb1
  go_wp2_with (first
    | (with_reducible refine wpList_store_new rfl 50 _ _ rfl lensV lensZ 50 rfl rfl hf_size_lens rfl lensV_one ?_)
    | (with_reducible refine wpList_load_blk rfl 50 (.tmp 1) rfl _ rfl 50 lensV _ (BlkIs.new _ _ _) Try.underlying50 rfl hf_size_lens ?_))
  refine (hf_firsts _).mono ?_
  rintro e w2 ⟨rfl, hb2⟩
  have s2 := hb2.size
  rw [World.size_alloc] at s2
  have HB2 := hide (HB1.out.trans (((Below.refl w1.heap.size w1).alloc (Nat.le_refl _) (.cells lensV 50) |>.trans (hb2.mono (by simp))).mono (by omega)))
  have KA := hide (((BlkIs.new w1 50 lensV).keep hb2))
  have K0' := hide ((K0.out.alloc (.cells lensV 50)).keep hb2)
  clear hb2 K0 HB1
  go_wp2_with (first
    | (with_reducible refine wpList_store_new rfl 80 _ _ rfl firstV _ 80 rfl rfl hf_size_firstV firstZ_size firstV_one ?_)
    | (with_reducible refine wpList_load_blk rfl 50 (.tmp 1) rfl _ rfl 50 lensV _ ((KA.out.alloc _).alloc _) Try.underlying50 rfl hf_size_lens ?_))
  have k0 := hide ((K0'.out.alloc (.cells firstV 80)).alloc (.cells (codesA 0) 46))
  have k2 := hide ((BlkIs.new w2 80 firstV).alloc (.cells (codesA 0) 46))
  have k3 : BlkIs ((w2.alloc (.cells firstV 80)).alloc (.cells (codesA 0) 46)) (w2.heap.size + 1) 46 (codesA 0) := by
    have h := BlkIs.new (w2.alloc (.cells firstV 80)) 46 (codesA 0)
    simpa using h
  have hb3 : Below w.heap.size w ((w2.alloc (.cells firstV 80)).alloc (.cells (codesA 0) 46)) :=
    (HB2.out.alloc (by have := HB2.out.size; omega) _).alloc (by rw [World.size_alloc]; have := HB2.out.size; omega) _
  have hg := K0'.out.lt
  obtain ⟨g0, hg0⟩ : ∃ g, g = w.heap.size := ⟨_, rfl⟩
  obtain ⟨g2, hg2⟩ : ∃ g, g = w2.heap.size := ⟨_, rfl⟩
  generalize ((w2.alloc (.cells firstV 80)).alloc (.cells (codesA 0) 46)) = w3 at k0 k2 k3 hb3 ⊢
  have K3 := hide k3
  have HB3 := hide hb3
  have HG := hide hg
  clear k3 hb3 hg hz1 hz2 hz3 HB2 KA K0' s1 s2
  rw [← hg0] at k0 HG ⊢
  rw [← hg2] at k2 K3 HG ⊢
  have HG0 := hide hg0
  clear hg0 hg2
  obtain ⟨N, hN⟩ : ∃ N, N = nxtL := ⟨_, rfl⟩
  have HN := hide hN
  have k2' : Hid (BlkIs w3 g2 80 (u32v (N 0))) := by rw [hN]; exact k2
  clear hN k2
  go_loopw [4, 5, 10] (fun x y i wr => ∃ k : Nat, k ≤ 256 ∧ i = .int .i64 (k : Int) ∧ BlkIs wr g0 46 (codesA 0) ∧ BlkIs wr g2 80 (u32v (N k)) ∧ BlkIs wr (g2 + 1) 46 (codesA k) ∧ Below g0 w wr)
    (fun _ _ i _ => 256 - (intOf i).toNat)
  case atStart => exact ⟨0, by omega, rfl, k0.out, k2'.out, K3.out, by rw [HG0.out]; exact HB3.out⟩
  case round =>
    clear k0 k2' K3 HB3
    obtain ⟨k, hk, rfl, h1, h2, h3, hbel⟩ := hrel
    have H1 := hide h1
    have H2 := hide h2
    have H3 := hide h3
    have HBEL := hide hbel
    clear h1 h2 h3 hbel
    by_cases hlt : k < 256
    · have hlt' : (k : Int) < 256 := by omega
      have hidx := lens_index k hlt .i64
      have ⟨l1, l2⟩ := lens_le k hlt
      have hb := nxt_bits k hlt
      have hbd := bits_bd k hlt
      have hst := codesA_step k
      rw [← HN.out] at hb
      obtain ⟨n, hn⟩ : ∃ n, n = lensL.getD k 0 := ⟨_, rfl⟩
      obtain ⟨x, hx⟩ : ∃ x, x = bitsL.getD k 0 := ⟨_, rfl⟩
      rw [← hn] at hidx l1 l2 hb hst
      rw [← hx] at hb hbd hst
      have hc1 : wr.cell? ⟨g2, n, none⟩ = some (.int .u32 (x : Nat)) := by
        rw [H2.out.cell, u32v_get _ _ (by rw [HN.out, nxtL_len]; omega), hb]
      have hf1 := H2.out.frozen n
      have hc2 : ∃ v, wr.cell? ⟨g2 + 1, k * 2, none⟩ = some v := by rw [H3.out.cell]; exact ⟨_, codesA_get k _ (by omega)⟩
      have hc3 : ∃ v, wr.cell? ⟨g2 + 1, k * 2 + 1, none⟩ = some v := by rw [H3.out.cell]; exact ⟨_, codesA_get k _ (by omega)⟩
      obtain ⟨v2, hc2⟩ := hc2
      obtain ⟨v3, hc3⟩ := hc3
      have hf2 := H3.out.frozen (k * 2)
      have hf3 := H3.out.frozen (k * 2 + 1)
      have HST := hide hst
      have HBB := hide hb
      have HNN := hide hn
      clear hn hx hb hst
      go_wp2
      go_roundw
      case rel =>
        have hgl := HG.out
        refine ⟨k + 1, by omega, by go_num, ((H1.out.far (by show g0 ≠ g2 + 1; omega) _).far (by show g0 ≠ g2 + 1; omega) _).far (by show g0 ≠ g2; omega) _, ?_, ?_,
          ((HBEL.out.setCell (by show g0 ≤ g2 + 1; omega) _).setCell (by show g0 ≤ g2 + 1; omega) _).setCell (by show g0 ≤ g2; omega) _⟩
        · have := ((H2.out.far (p := ⟨g2 + 1, k * 2, none⟩) (by show g2 ≠ g2 + 1; omega) (.int .u32 (x : Nat))).far (p := ⟨g2 + 1, k * 2 + 1, none⟩) (by show g2 ≠ g2 + 1; omega) (.int .i64 (n : Nat))).put n (.int .u32 ((x + 1 : Nat) : Int))
          rw [u32v_set] at this
          rw [HN.out] at this ⊢
          rw [show nxtL (k + 1) = (nxtL k).set n (x + 1) by rw [nxtL, ← HNN.out, ← HN.out, HBB.out]]
          exact this
        · have := ((H3.out.put (k * 2) (.int .u32 (x : Nat))).put (k * 2 + 1) (.int .i64 (n : Nat))).far (p := ⟨g2, n, none⟩) (by show g2 + 1 ≠ g2; omega) (.int .u32 ((x : Int) + 1))
          rw [HST.out] at this
          exact this
      case measure => simp [intOf]; omega
    · have hge : ¬ (k : Int) < 256 := by omega
      have HK := hide (show k = 256 by omega)
      clear hk hlt
      have hs0 := codesA_size 0
      have hsk := codesA_size k
      have H0 := hide hs0
      have HS := hide hsk
      clear hs0 hsk
      go_wp2_with (first
        | (with_reducible refine wpList_load_blk rfl 46 (.tmp 3) rfl _ rfl 46 _ _ H3.out Try.underlying46 rfl (by rw [hf_size_codes, HS.out]) ?_)
        | (with_reducible refine wpList_store_blk rfl 46 (.tmp 0) _ rfl g0 (codesA k) _ 46 rfl rfl H1.out (by rw [hf_size_codes, HS.out]) (by rw [H0.out, HS.out]) (codesA_one _) ?_))
      have e : codesA k = codesV := by rw [HK.out]; rfl
      exact bodyPost_ret (results_cell_blk rfl _ _ g0 46 (codesA k) _ rfl (H1.out.row _) Try.underlying46 rfl (by rw [hf_size_codes, HS.out])) rfl ⟨by rw [e], by have := below_setRow HBEL.out (Nat.le_refl g0) (codesA k); rw [HG0.out] at this ⊢; exact this⟩

theorem codes_index (k : Nat) (hk : k < 256) (kd : IntKind) (w : World) : (Instr.index 46 (.agg codesV) (.int kd (k : Int))).run Try.prog w = .ok (.agg #[.int .u32 (bitsL.getD k 0 : Nat), .int .i64 (lensL.getD k 0 : Nat)]) w := by
  rw [run_index_agg Try.underlying46 hf_size_code Try.underlying45 rfl codesV kd k hk w, codesA_extract k hk]

theorem hf_Code (c : Nat) (hc : c < 256) (w : World) : Calls Try.prog 8 #[.int .u8 (c : Nat)] w fun e w' => e = .returned (.tuple #[.int .u32 (bitsL.getD c 0 : Nat), .int .i64 (lensL.getD c 0 : Nat)]) ∧ Below w.heap.size w w' := by
  have hidx := codes_index c hc .u8
  go_enter Try.func8, Try.ntmps8
  go_wp2_with fail
  refine (hf_codes _).mono ?_
  rintro e w1 ⟨rfl, hb1⟩
  have HB1 := hide hb1
  clear hb1
  go_wp2_with fail
  go_quiet (fail)
  go_wp2
  go_ret2
  exact ⟨rfl, below_drewN (HB1.out.alloc HB1.out.size _) _⟩
end Go.Proofs.Ytjnjganmdbkpoaa
