/-
  Layer 2: build.
-/
import Derived.Test.YtjnjganmdbkpoaaHfPlantWalk
import Derived.Test.YtjnjganmdbkpoaaHfBuilt
import Derived.Test.YtjnjganmdbkpoaaHfEnc
import Derived.Test.YtjnjganmdbkpoaaSync
namespace Go.Proofs.Ytjnjganmdbkpoaa
open Go.RowKit

theorem runP_some {x k p n : Nat} {t : List (Int × Int)} {r : Nat × Nat × List (Int × Int)} (h : runP x k p n t = some r) (ht : t.length = 256) (hn : n ≤ 256) :
    r.2.2.length = 256 ∧ r.2.1 ≤ 256 ∧ n ≤ r.2.1 := by
  induction k generalizing p n t with
  | zero => simp only [runP, Option.some.injEq] at h; subst h; exact ⟨ht, hn, Nat.le_refl _⟩
  | succ k ih =>
    simp only [runP] at h
    obtain ⟨s, h1, h2⟩ := Option.bind_eq_some_iff.1 h
    have h3 := stepP_some h1 ht hn
    have h4 := ih h2 h3.1 h3.2.1
    exact ⟨h4.1, h4.2.1, by omega⟩
theorem plantF_some {c x l n : Nat} {t : List (Int × Int)} {r : Nat × List (Int × Int)} (h : plantF c x l n t = some r) (ht : t.length = 256) (hn : n ≤ 256) :
    r.2.length = 256 ∧ r.1 ≤ 256 ∧ n ≤ r.1 := by
  unfold plantF at h
  cases hr : runP x (l - 1) 0 n t with
  | none => rw [hr] at h; cases h
  | some s =>
    rw [hr] at h
    have := runP_some hr ht hn
    simp only [Option.map_some, Option.some.injEq] at h
    subst h
    exact ⟨by rw [setBit_len]; exact this.1, this.2.1, this.2.2⟩

/-- What build leaves. -/
def Builds (w : World) (g : Nat) (m : Int) (e : Ending) (w' : World) : Prop :=
  ∃ T, e = .returned (.tuple #[]) ∧ BlkIs w' g 68 (coderA 0 m 1 (.slice (some ⟨T, 0, none⟩) 256 256)) ∧ BlkIs w' T 72 (treeA treeL) ∧ w.heap.size ≤ T ∧ KB (· = g) w w'

theorem made_tree : madeCells #[Value.int .i16 0, Value.int .i16 0] 512 = treeA (List.replicate 256 (0, 0)) := by kernel_rfl

set_option maxRecDepth 100000 in
set_option maxHeartbeats 1600000 in
theorem hf_build (g : Nat) (m : Int) (w : World) (hg : BlkIs w g 68 (coderA 0 m 0 (.slice none 0 0))) :
    Calls Try.prog 24 #[.pointer (some ⟨g, 0, none⟩)] w (Builds w g m) := by
  obtain ⟨i0, hi0, hz0, hz1, hz2⟩ := info_parts hf_zero_node
  have hmk := fun W => @run_make Try.prog W 66 72 i0 _ Try.underlying66 hi0 hz0 .i64 .i64 1 256 (by omega) (by omega) (by rw [hz2]; omega) (by omega)
  simp only [hz1, show (256 : Int).toNat * 2 = 512 from rfl, show (1 : Int).toNat = 1 from rfl, show (256 : Int).toNat = 256 from rfl] at hmk
  have hmk' : ∀ W : World, (Instr.makeSlice 66 (.int .i64 1) (.int .i64 256)).run Try.prog W = .ok (.slice (some ⟨W.heap.size, 0, none⟩) 1 256) (W.alloc (.cells (treeA (List.replicate 256 (0, 0))) 72)) := by
    intro W; rw [hmk W, ← made_tree]; rfl
  obtain ⟨t0, ht0⟩ : ∃ t0 : List (Int × Int), t0 = List.replicate 256 (0, 0) := ⟨_, rfl⟩
  rw [← ht0] at hmk'
  have hb0 : buildP 256 0 1 t0 = some (256, treeL) := by rw [ht0]; exact build_is
  have hl0 : t0.length = 256 := by rw [ht0]; simp
  have HB0 := hide hb0
  have HL0 := hide hl0
  have gl := hg.lt
  have c4 : (w.alloc (.cells (treeA t0) 72)).cell? ⟨g, 4, none⟩ = some (.slice none 0 0) := (hg.alloc _).cell 4
  have f4 := (hg.alloc (.cells (treeA t0) 72)).frozen 4
  have G1 := hide ((hg.alloc (.cells (treeA t0) 72)).put 4 (.slice (some ⟨w.heap.size, 0, none⟩) 1 256))
  have T1 := hide ((BlkIs.new w 72 (treeA t0)).far (p := ⟨g, 4, none⟩) (by show w.heap.size ≠ g; omega) (.slice (some ⟨w.heap.size, 0, none⟩) 1 256))
  have K1 := hide (((KB.refl (· = g) w).alloc (.cells (treeA t0) 72)).setCell (p := ⟨g, 4, none⟩) (fun _ => rfl) (.slice (some ⟨w.heap.size, 0, none⟩) 1 256))
  have GL := hide gl
  clear hmk hb0 hl0 ht0 hi0 hz0 hz1 hz2 hg gl
  go_enter Try.func24, Try.ntmps24
  go_wp2_with fail
  refine (hf_codes _).mono ?_
  rintro e w2 ⟨rfl, hb2⟩
  have G2 := hide (G1.out.keep hb2)
  have T2 := hide (T1.out.keep hb2)
  have K2 := hide (K1.out.trans (KB.of_below _ hb2))
  clear hb2 G1 T1 K1 c4 f4
  go_wp2_with fail
  obtain ⟨T, hT⟩ : ∃ T, T = w.heap.size := ⟨_, rfl⟩
  have HTT := hide hT
  have G2' : Hid (BlkIs w2 g 68 (coderA 0 m 0 (.slice (some ⟨T, 0, none⟩) 1 256))) := by rw [hT]; exact G2
  rw [← hT] at T2
  clear hT G2 hmk'
  go_loopw [2, 3, 9] (fun cc xx i wr => ∃ (k n : Nat) (t : List (Int × Int)), i = .int .i64 (k : Int) ∧ k ≤ 256 ∧ 1 ≤ n ∧ n ≤ 256 ∧ t.length = 256 ∧ buildP (256 - k) k n t = some (256, treeL) ∧
      BlkIs wr g 68 (coderA 0 m 0 (.slice (some ⟨T, 0, none⟩) n 256)) ∧ BlkIs wr T 72 (treeA t) ∧ KB (· = g) w wr)
    (fun _ _ i _ => 256 - (intOf i).toNat)
  case atStart => exact ⟨0, 1, t0, rfl, by omega, by omega, by omega, HL0.out, HB0.out, G2'.out, T2.out, K2.out⟩
  case round =>
    clear G2' T2 K2 HB0 HL0
    obtain ⟨k, n, t, rfl, hk, hn1, hn, ht, hb, hg, hT, hK⟩ := hrel
    have HN1 := hide hn1
    have HN := hide hn
    have HT := hide ht
    have HB := hide hb
    have HG := hide hg
    have HTB := hide hT
    have HK := hide hK
    clear hn1 hn ht hb hg hT hK
    by_cases hlt : k < 256
    · have hlt' : (k : Int) < 256 := by omega
      have hidx := codes_index k hlt .i64
      have ⟨l1, l2⟩ := lens_le k hlt
      have hbd := bits_bd k hlt
      have hb := HB.out
      rw [show 256 - k = (256 - (k + 1)) + 1 by omega] at hb
      obtain ⟨r, hr1, hr2⟩ := Option.bind_eq_some_iff.1 (show (plantF k (bitsL.getD k 0) (lensL.getD k 0) n t).bind (fun r => buildP (256 - (k + 1)) (k + 1) r.1 r.2) = some (256, treeL) from hb)
      have hr3 := plantF_some hr1 HT.out HN.out
      obtain ⟨x, hx⟩ : ∃ x, x = bitsL.getD k 0 := ⟨_, rfl⟩
      obtain ⟨l, hl⟩ : ∃ l, l = lensL.getD k 0 := ⟨_, rfl⟩
      rw [← hx] at hidx hr1 hbd
      rw [← hl] at hidx hr1 l1 l2
      have HP := hide (fun w => hf_plant g T 0 m 0 n t k x l hlt l1 l2 hbd HN1.out HN.out HT.out r.1 r.2 hr1 w)
      have HR2 := hide hr2
      have HR3 := hide hr3
      have HG1 := hide (HG.out.alloc (.cells #[.int .u32 (x : Nat), .int .i64 (l : Nat)] 45))
      have HT1 := hide (HTB.out.alloc (.cells #[.int .u32 (x : Nat), .int .i64 (l : Nat)] 45))
      have HK1 := hide (HK.out.alloc (.cells #[.int .u32 (x : Nat), .int .i64 (l : Nat)] 45))
      clear hb hr1 hr2 hr3 hx hl hbd l1 l2
      go_wp2_with (go_at_call 34; refine (HP.out _ HG1.out HT1.out).mono ?_; rintro e w5 ⟨rfl, hg5, hT5, hK5⟩)
      have HG5 := hide hg5
      have HT5 := hide hT5
      have HK5 := hide (HK1.out.trans' hK5 (fun i hi e => by rcases e with e | e; exact e; have := HTT.out; omega))
      clear hg5 hT5 hK5
      go_wp2
      go_roundw
      case rel => exact ⟨k + 1, r.1, r.2, by go_num, by omega, by have := HR3.out.2.2; have := HN1.out; omega, HR3.out.2.1, HR3.out.1, HR2.out, HG5.out, HT5.out, HK5.out⟩
      case measure => simp [intOf]; omega
    · have hge : ¬ (k : Int) < 256 := by omega
      have hb := HB.out
      rw [show 256 - k = 0 by omega] at hb
      have e : (n, t) = (256, treeL) := by simpa [buildP] using hb
      have HE := hide e
      have c3 : wr.cell? ⟨g, 3, none⟩ = some (.int .i64 0) := HG.out.cell 3
      have f3 := HG.out.frozen 3
      clear hb e hlt
      go_wp2_with (go_at_call 35; refine (sy_add64 _ _ c3 f3).mono ?_; rintro e w5 ⟨rfl, rfl⟩)
      go_end0
      have e1 := congrArg Prod.fst HE.out
      have e2 := congrArg Prod.snd HE.out
      simp only [] at e1 e2
      subst e1 e2
      have HTle : w.heap.size ≤ T := by rw [HTT.out]; exact Nat.le_refl _
      have hne : T ≠ g := by have := GL.out; omega
      exact ⟨T, rfl, HG.out.put 3 _, HTB.out.far (p := ⟨g, 3, none⟩) hne _, HTle, HK.out.setCell (fun _ => rfl) _⟩
end Go.Proofs.Ytjnjganmdbkpoaa
