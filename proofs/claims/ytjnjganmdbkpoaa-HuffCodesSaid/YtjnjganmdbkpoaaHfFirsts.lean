/-
  Layer 2: the first code of each length.
-/
import Derived.Test.YtjnjganmdbkpoaaHfTab
import Derived.StillTailTactics
import Derived.BigRegion
namespace Go.Proofs.Ytjnjganmdbkpoaa
open Go.RowKit

/-- How many of the first k bytes have each length. -/
def cntL : Nat → List Nat
  | 0 => List.replicate 31 0
  | k + 1 => let c := cntL k; let n := lensL.getD k 0; c.set n (c.getD n 0 + 1)
/-- The first codes of the lengths up to k. -/
def fstL : Nat → List Nat
  | 0 => List.replicate 31 0
  | k + 1 => let f := fstL k; f.set (k + 1) ((f.getD k 0 + (cntL 256).getD k 0) * 2)

theorem cntL_len (k : Nat) : (cntL k).length = 31 := by
  induction k with
  | zero => rfl
  | succ k ih => simp [cntL, ih]
theorem fstL_len (k : Nat) : (fstL k).length = 31 := by
  induction k with
  | zero => rfl
  | succ k ih => simp [fstL, ih]
theorem cntL_le (k : Nat) : ∀ j, (cntL k).getD j 0 ≤ k := by
  induction k with
  | zero =>
    intro j
    simp only [cntL, List.getD, List.getElem?_replicate]
    split <;> simp
  | succ k ih =>
    intro j
    have h1 := ih j
    have h2 := ih (lensL.getD k 0)
    simp only [cntL, List.getD, List.getElem?_set] at *
    split
    · split <;> simp <;> omega
    · omega
theorem lens_le : ∀ k, k < 256 → 1 ≤ lensL.getD k 0 ∧ lensL.getD k 0 ≤ 30 := by decide +kernel
theorem fst_bd : ∀ k, k < 30 → (fstL k).getD k 0 + (cntL 256).getD k 0 < 2147483648 := by decide +kernel

theorem u32v_get (l : List Nat) (i : Nat) (h : i < l.length) : (u32v l)[i]? = some (.int .u32 (l.getD i 0 : Nat)) := by
  simp [u32v, List.getD, h]
theorem u8v_get (l : List Nat) (i : Nat) (h : i < l.length) : (u8v l)[i]? = some (.int .u8 (l.getD i 0 : Nat)) := by
  simp [u8v, List.getD, h]
theorem u32v_set (l : List Nat) (i n : Nat) : (u32v l).setIfInBounds i (.int .u32 (n : Nat)) = u32v (l.set i n) := by
  simp [u32v, List.map_set]
theorem u32v_size (l : List Nat) : (u32v l).size = l.length := by simp [u32v]

theorem hf_zero_first : (Try.prog.info? 80).bind (·.zero) = some (.agg (u32v (cntL 0))) := by kernel_rfl
theorem hf_size_first : (Try.prog.info? 80).map (·.size) = some 31 := by kernel_rfl
theorem hf_size_u8 : (Try.prog.info? 5).map (·.size) = some 1 := by kernel_rfl
theorem u32v_one (l : List Nat) : (u32v l).all (·.oneCell') = true := by simp [u32v, Value.oneCell']

theorem lensL_len : lensL.length = 256 := by decide +kernel
theorem lens_index (k : Nat) (hk : k < 256) (kd : IntKind) (w : World) : (Instr.index 50 (.agg lensV) (.int kd (k : Int))).run Try.prog w = .ok (.int .u8 (lensL.getD k 0 : Nat)) w :=
  run_index_one Try.underlying50 hf_size_u8 Try.underlying5 rfl lensV kd k hk _ (u8v_get lensL k (by rw [lensL_len]; exact hk)) w

def firstV : Array Value := u32v (fstL 30)

set_option maxRecDepth 100000 in
set_option maxHeartbeats 800000 in
theorem hf_firsts (w : World) : Calls Try.prog 30 #[.agg lensV] w fun e w' => e = .returned (.agg firstV) ∧ Below w.heap.size w w' := by
  have hz := run_zero_is hf_zero_first
  obtain ⟨C, hC⟩ : ∃ C, C = cntL := ⟨_, rfl⟩
  rw [← hC] at hz
  have HC := hide hC
  clear hC
  go_enter Try.func30, Try.ntmps30
  go_wp2_with (first
    | (with_reducible refine wpList_load_blk rfl 50 (.tmp 1) rfl _ rfl 50 lensV _ (((BlkIs.new _ _ _).alloc _).alloc _ |>.alloc _) Try.underlying50 rfl hf_size_lens ?_))
  obtain ⟨B, hB⟩ : ∃ B, B = w.heap.size := ⟨_, rfl⟩
  have hb0 : Below w.heap.size w ((((w.alloc (.cells lensV 50)).alloc (.cells (u32v (C 0)) 80)).alloc (.cells (u32v (C 0)) 80)).alloc (.cells (u32v (C 0)) 80)) :=
    ((((Below.refl _ _).alloc (Nat.le_refl _) _).alloc (by simp) _).alloc (by simp; omega) _).alloc (by simp; omega) _
  have k1 : BlkIs ((((w.alloc (.cells lensV 50)).alloc (.cells (u32v (C 0)) 80)).alloc (.cells (u32v (C 0)) 80)).alloc (.cells (u32v (C 0)) 80)) (w.heap.size + 1) 80 (u32v (C 0)) := by
    have h := ((BlkIs.new (w.alloc (.cells lensV 50)) 80 (u32v (C 0))).alloc (.cells (u32v (C 0)) 80)).alloc (.cells (u32v (C 0)) 80)
    simpa using h
  have k2 : BlkIs ((((w.alloc (.cells lensV 50)).alloc (.cells (u32v (C 0)) 80)).alloc (.cells (u32v (C 0)) 80)).alloc (.cells (u32v (C 0)) 80)) (w.heap.size + 1 + 1) 80 (u32v (C 0)) := by
    have h := ((BlkIs.new ((w.alloc (.cells lensV 50)).alloc (.cells (u32v (C 0)) 80)) 80 (u32v (C 0))).alloc (.cells (u32v (C 0)) 80))
    simpa using h
  have k3 : BlkIs ((((w.alloc (.cells lensV 50)).alloc (.cells (u32v (C 0)) 80)).alloc (.cells (u32v (C 0)) 80)).alloc (.cells (u32v (C 0)) 80)) (w.heap.size + 1 + 1 + 1) 80 (u32v (C 0)) := by
    have h := (BlkIs.new (((w.alloc (.cells lensV 50)).alloc (.cells (u32v (C 0)) 80)).alloc (.cells (u32v (C 0)) 80)) 80 (u32v (C 0)))
    simpa using h
  generalize ((((w.alloc (.cells lensV 50)).alloc (.cells (u32v (C 0)) 80)).alloc (.cells (u32v (C 0)) 80)).alloc (.cells (u32v (C 0)) 80)) = w0 at hb0 k1 k2 k3 ⊢
  have HB0 := hide hb0
  have K1 := hide k1
  have K2 := hide k2
  have K3 := hide k3
  clear hb0 k1 k2 k3 hz
  rw [← hB] at K1 K2 K3 ⊢
  have HB := hide hB
  clear hB
  go_loopw [6, 9] (fun x i wr => ∃ k : Nat, k ≤ 256 ∧ i = .int .i64 (k : Int) ∧ BlkIs wr (B + 1) 80 (u32v (C 0)) ∧ BlkIs wr (B + 1 + 1) 80 (u32v (C k)) ∧ BlkIs wr (B + 1 + 1 + 1) 80 (u32v (C 0)) ∧ Below B w wr)
    (fun _ i _ => 256 - (intOf i).toNat)
  case atStart => exact ⟨0, by omega, rfl, K1.out, K2.out, K3.out, by rw [HB.out]; exact HB0.out⟩
  case round =>
    obtain ⟨k, hk, rfl, h1, h2, h3, hbel⟩ := hrel
    have H1 := hide h1
    have H2 := hide h2
    have H3 := hide h3
    have HBEL := hide hbel
    clear h1 h2 h3 hbel
    by_cases hlt : k < 256
    · have hlt' : (k : Int) < 256 := by omega
      have hidx := lens_index k hlt .i64
      have ⟨l1, l2⟩ := lens_le k hlt
      obtain ⟨n, hn⟩ : ∃ n, n = lensL.getD k 0 := ⟨_, rfl⟩
      rw [← hn] at hidx l1 l2
      have hcell : wr.cell? ⟨B + 1 + 1, n, none⟩ = some (.int .u32 ((C k).getD n 0 : Nat)) := by
        rw [H2.out.cell, u32v_get]; rw [HC.out, cntL_len]; omega
      have hfro := H2.out.frozen n
      have hc := cntL_le k n
      rw [← HC.out] at hc
      obtain ⟨c, hcc⟩ : ∃ c, c = (C k).getD n 0 := ⟨_, rfl⟩
      rw [← hcc] at hcell hc
      have HN := hide hn
      have HCC := hide hcc
      clear hn hcc
      go_wp2
      go_roundw
      case rel =>
        refine ⟨k + 1, by omega, by go_num, H1.out.far (by show B + 1 ≠ B + 1 + 1; omega) _, ?_, H3.out.far (by show B + 1 + 1 + 1 ≠ B + 1 + 1; omega) _, HBEL.out.setCell (by show B ≤ B + 1 + 1; omega) _⟩
        have := H2.out.put n (.int .u32 ((c + 1 : Nat) : Int))
        rw [u32v_set] at this
        rw [HC.out] at this ⊢
        rw [show cntL (k + 1) = (cntL k).set n (c + 1) by rw [cntL, ← HN.out, ← HC.out, ← HCC.out]]
        exact this
      case measure => simp [intOf]; omega
    · obtain rfl : k = 256 := by omega
      go_wp2
      obtain ⟨F, hF⟩ : ∃ F, F = fstL := ⟨_, rfl⟩
      have HF := hide hF
      have H3' : BlkIs wr (B + 1 + 1 + 1) 80 (u32v (F 0)) := by
        have := H3.out; rw [HC.out] at this; rw [hF]; exact this
      have K3' := hide H3'
      clear hF H3' H3
      obtain ⟨wo, hwo⟩ : ∃ wo : World, wo = wr := ⟨_, rfl⟩
      subst hwo
      go_loopw [7] (fun i wr => ∃ k : Nat, k ≤ 30 ∧ i = .int .i64 ((k : Int) + 1) ∧ BlkIs wr (B + 1) 80 (u32v (C 0)) ∧ BlkIs wr (B + 1 + 1) 80 (u32v (C 256)) ∧ BlkIs wr (B + 1 + 1 + 1) 80 (u32v (F k)) ∧ Below B w wr)
        (fun i _ => 32 - (intOf i).toNat)
      case atStart => exact ⟨0, by omega, rfl, H1.out, H2.out, K3'.out, HBEL.out⟩
      case round =>
        clear H1 H2 K3' HBEL
        obtain ⟨k, hk, rfl, h1, h2, h3, hbel⟩ := hrel
        have H1 := hide h1
        have H2 := hide h2
        have H3 := hide h3
        have HBEL := hide hbel
        clear h1 h2 h3 hbel
        by_cases hlt : k < 30
        · have hlt' : (k : Int) + 1 ≤ 30 := by omega
          have c2 : wr.cell? ⟨B + 1 + 1, k, none⟩ = some (.int .u32 ((C 256).getD k 0 : Nat)) := by
            rw [H2.out.cell, u32v_get]; rw [HC.out, cntL_len]; omega
          have c3 : wr.cell? ⟨B + 1 + 1 + 1, k, none⟩ = some (.int .u32 ((F k).getD k 0 : Nat)) := by
            rw [H3.out.cell, u32v_get]; rw [HF.out, fstL_len]; omega
          have c4 : wr.cell? ⟨B + 1 + 1 + 1, k + 1, none⟩ = some (.int .u32 ((F k).getD (k + 1) 0 : Nat)) := by
            rw [H3.out.cell, u32v_get]; rw [HF.out, fstL_len]; omega
          have f4 := H3.out.frozen (k + 1)
          have bd := fst_bd k hlt
          rw [← HF.out, ← HC.out] at bd
          obtain ⟨x, hx⟩ : ∃ x, x = (C 256).getD k 0 := ⟨_, rfl⟩
          obtain ⟨y, hy⟩ : ∃ y, y = (F k).getD k 0 := ⟨_, rfl⟩
          obtain ⟨z, hz⟩ : ∃ z, z = (F k).getD (k + 1) 0 := ⟨_, rfl⟩
          rw [← hx] at c2 bd
          rw [← hy] at c3 bd
          rw [← hz] at c4
          have HX := hide hx
          have HY := hide hy
          clear hx hy hz
          go_wp2
          go_region
          go_wp2
          go_roundw
          case rel =>
            refine ⟨k + 1, by omega, by go_num, (H1.out.far (by show B + 1 ≠ B + 1 + 1 + 1; omega) _).drew, (H2.out.far (by show B + 1 + 1 ≠ B + 1 + 1 + 1; omega) _).drew, ?_, (HBEL.out.setCell (by show B ≤ B + 1 + 1 + 1; omega) _).drew⟩
            have := H3.out.put (k + 1) (.int .u32 (((y + x) * 2 : Nat) : Int))
            rw [u32v_set] at this
            rw [show F (k + 1) = (F k).set (k + 1) ((y + x) * 2) by rw [HX.out, HY.out, HC.out, HF.out]; rfl]
            rw [show (((y + x) * 2 : Nat) : Int) = ((y : Int) + x) * 2 by omega] at this
            exact this
          case measure => simp [intOf]; omega
        · have h30 : ¬ (k : Int) + 1 ≤ 30 := by omega
          have HK := hide (show k = 30 by omega)
          clear hk hlt
          go_wp2_with (first
            | (with_reducible refine wpList_load_blk rfl 80 (.tmp 4) rfl _ rfl 80 _ _ H3.out Try.underlying80 rfl (by rw [hf_size_first, u32v_size, HF.out, fstL_len]) ?_)
            | (with_reducible refine wpList_store_blk rfl 80 (.tmp 2) _ rfl (B + 1) (u32v (F k)) _ 80 rfl rfl H1.out (by rw [hf_size_first, u32v_size, HF.out, fstL_len]) (by rw [u32v_size, u32v_size, HF.out, HC.out, fstL_len, cntL_len]) (u32v_one _) ?_))
          have e : u32v (F k) = firstV := by rw [HK.out, HF.out]; rfl
          exact bodyPost_ret (results_cell_blk rfl _ _ (B + 1) 80 (u32v (F k)) _ rfl (H1.out.row _) Try.underlying80 rfl (by rw [hf_size_first, u32v_size, HF.out, fstL_len])) rfl ⟨by rw [e], by have := below_setRow HBEL.out (show B ≤ B + 1 by omega) (u32v (F k)); rw [HB.out] at this; rw [HB.out]; exact this⟩
end Go.Proofs.Ytjnjganmdbkpoaa
