/-
  Layer 2: plant.
-/
import Derived.Test.YtjnjganmdbkpoaaHfPlant
import Derived.StillTailTactics
import Derived.Laws.BitsAllLaws
import Derived.Deep.AppendLies
namespace Go.Proofs.Ytjnjganmdbkpoaa
open Go.RowKit

theorem hf_not : ∀ c : Fin 256, bits .xor .i64 (-1) (c.val : Int) = -(c.val : Int) - 1 := by decide +kernel

theorem hf_leaf (c : Nat) (hc : c < 256) (w : World) : Calls Try.prog 41 #[.int .i64 (c : Nat)] w fun e w' => e = .returned (.int .i16 (-(c : Int) - 1)) ∧ w = w' := by
  have hx : bits .xor .i64 (-1) (c : Int) = -(c : Int) - 1 := hf_not ⟨c, hc⟩
  have hw : IntKind.i16.wrap (-(c : Int) - 1) = -(c : Int) - 1 := IntWalk.i16_in _ (by omega)
  go_enter Try.func41, Try.ntmps41
  go_wp2
  go_ret
  exact ⟨rfl, rfl⟩

/-- What plant leaves. -/
def Plants (w : World) (g T : Nat) (d m b : Int) (n : Nat) (t : List (Int × Int)) (e : Ending) (w' : World) : Prop :=
  e = .returned (.tuple #[]) ∧ BlkIs w' g 68 (coderA d m b (.slice (some ⟨T, 0, none⟩) n 256)) ∧ BlkIs w' T 72 (treeA t) ∧ KB (fun k => k = g ∨ k = T) w w'

set_option maxRecDepth 100000 in
set_option maxHeartbeats 1600000 in
theorem hf_plant (g T : Nat) (d m b : Int) (n : Nat) (t : List (Int × Int)) (c x l : Nat) (hc : c < 256) (hl : 1 ≤ l) (hl2 : l ≤ 30) (hx : x < 1073741824) (hn1 : 1 ≤ n) (hn : n ≤ 256) (ht : t.length = 256)
    (n' : Nat) (t' : List (Int × Int)) (hp : plantF c x l n t = some (n', t')) (w : World) (hg : BlkIs w g 68 (coderA d m b (.slice (some ⟨T, 0, none⟩) n 256))) (hT : BlkIs w T 72 (treeA t)) :
    Calls Try.prog 34 #[.pointer (some ⟨g, 0, none⟩), .int .i64 (c : Nat), .agg #[.int .u32 (x : Nat), .int .i64 (l : Nat)]] w (Plants w g T d m b n' t') := by
  obtain ⟨i0, hi0, hz0, hz1, hz2⟩ := info_parts hf_zero_node
  obtain ⟨r, hr, hr2⟩ : ∃ r, runP x (l - 1) 0 n t = some r ∧ (r.2.1, setBit r.2.2 r.1 (x % 2) (-(c : Int) - 1)) = (n', t') := by
    unfold plantF at hp
    cases h : runP x (l - 1) 0 n t with
    | none => rw [h] at hp; cases hp
    | some r => rw [h] at hp; exact ⟨r, rfl, by simpa using hp⟩
  have hne : g ≠ T := hg.ne_ hT (by decide)
  have hl' : (l : Int) - 1 = ((l - 1 : Nat) : Int) := by omega
  obtain ⟨sh, hsh⟩ : ∃ sh, sh = l - 1 := ⟨_, rfl⟩
  rw [← hsh] at hr hl'
  have hsh29 : (sh : Int) ≤ 29 := by omega
  have gB := hg.lt
  have TB := hT.lt
  have G0 := hide (hg.alloc (.cells #[.int .u32 (x : Nat), .int .i64 (l : Nat)] 45))
  have T0 := hide (hT.alloc (.cells #[.int .u32 (x : Nat), .int .i64 (l : Nat)] 45))
  have X0 := hide (BlkIs.new w 45 #[.int .u32 (x : Nat), .int .i64 (l : Nat)])
  have K0 := hide ((KB.refl (fun k => k = g ∨ k = T) w).alloc (.cells #[.int .u32 (x : Nat), .int .i64 (l : Nat)] 45))
  have HNE := hide hne
  have HR := hide hr
  have HR2 := hide hr2
  have HN1 := hide hn1
  have HN := hide hn
  have HT := hide ht
  have GB := hide gB
  have TBB := hide TB
  clear hr hr2 hsh hl hl2 hg hT hp hne hn1 hn ht gB TB
  go_enter Try.func34, Try.ntmps34
  go_wp2
  obtain ⟨gx, hgx⟩ : ∃ gx, gx = w.heap.size := ⟨_, rfl⟩
  generalize (w.alloc (.cells #[.int .u32 (x : Int), .int .i64 (l : Int)] 45)) = w0 at G0 T0 X0 K0 ⊢
  have HGX := hide hgx
  rw [← hgx] at X0 ⊢
  clear hgx
  go_loopw [6, 7, 8] (fun p i bb wr => ∃ (sh pl n : Nat) (t : List (Int × Int)), i = .int .i64 (sh : Int) ∧ (sh : Int) ≤ 29 ∧ p = .int .i16 (pl : Int) ∧ pl < n ∧ n ≤ 256 ∧ t.length = 256 ∧ runP x sh pl n t = some r ∧
      BlkIs wr g 68 (coderA d m b (.slice (some ⟨T, 0, none⟩) n 256)) ∧ BlkIs wr T 72 (treeA t) ∧ BlkIs wr gx 45 #[.int .u32 (x : Nat), .int .i64 (l : Nat)] ∧ KB (fun k => k = g ∨ k = T) w wr)
    (fun _ i _ _ => (intOf i).toNat)
  case atStart => exact ⟨sh, 0, n, t, rfl, hsh29, rfl, HN1.out, HN.out, HT.out, HR.out, G0.out, T0.out, X0.out, K0.out⟩
  case round =>
    clear G0 T0 X0 K0 HR HT HN hsh29 hl'
    obtain ⟨sh, pl, n, t, rfl, hsh29, rfl, hpl, hn, ht, hr, hg, hT, hX, hK⟩ := hrel
    have HPL := hide hpl
    have HN := hide hn
    have HT := hide ht
    have HR := hide hr
    have HG := hide hg
    have HTT := hide hT
    have HX := hide hX
    have HK := hide hK
    have hpi : (pl : Int) < (n : Int) := by omega
    have hni : (n : Int) ≤ 256 := by omega
    have c0 : wr.cell? ⟨gx, 0, none⟩ = some (.int .u32 (x : Nat)) := hX.cell 0
    have c4 : wr.cell? ⟨g, 4, none⟩ = some (.slice (some ⟨T, 0, none⟩) n 256) := hg.cell 4
    have f4 := hg.frozen 4
    clear hpl hn ht hr hg hT hX hK
    by_cases h0 : sh = 0
    · have hz : ¬ (0 : Int) < (sh : Int) := by omega
      have hr0 := HR.out
      rw [h0] at hr0
      have e : (pl, n, t) = r := by simpa [runP] using hr0
      have H0 := hide h0
      have hand : bits .and .u32 (x : Int) 1 = ((x % 2 : Nat) : Int) := by
        have := u32_and_nat x 1 (by omega) (by omega)
        rw [Nat.and_one_is_mod] at this
        exact this
      obtain ⟨bb, hbb⟩ : ∃ bb, bb = x % 2 := ⟨_, rfl⟩
      have hb2 : bb < 2 := by omega
      have hp256 : pl < 256 := by omega
      rw [← hbb] at hand
      have HTG := HNE.out
      have hbi : (bb : Int) < 2 := by omega
      have hbj : (0 : Int) ≤ (bb : Int) := by omega
      have hq := treeA_at t pl bb hp256 hb2
      have cq : wr.cell? ⟨T, pl * 2 + bb, none⟩ = some (.int .i16 (bitGet (t.getD pl (0, 0)) bb)) := (HTT.out.cell _).trans hq
      have fq := HTT.out.frozen (pl * 2 + bb)
      have HBB := hide hbb
      have HE := hide e
      obtain ⟨q, hqq⟩ : ∃ q, q = bitGet (t.getD pl (0, 0)) bb := ⟨_, rfl⟩
      rw [← hqq] at cq
      clear hr0 h0 hq hbb e hqq
      go_wp2
      refine wp_region_still_tail 12 (by kernel_rfl) (by kernel_rfl) ?_
      simp only [List.take_succ_cons, List.take_zero, List.drop_succ_cons, List.drop_zero]
      have Q1 := (hf_leaf c hc wr.drew).mono (fun _ _ (h : _ ∧ _) => (⟨h.1, h.2.symm⟩ : _ ∧ _))
      have HQ1 := hide Q1
      clear Q1
      repeat still_step
      still_call (HQ1.out)
      repeat still_step
      refine wpStill_nil ?_
      change wpList _ _ _ _ _ wr.drew
      go_wp2
      go_end0
      have h2 := HR2.out
      rw [← HE.out, ← HBB.out] at h2
      have e1 : n = n' := congrArg Prod.fst h2
      have e2 : setBit t pl bb (-(c : Int) - 1) = t' := congrArg Prod.snd h2
      unfold Plants
      rw [← e1, ← e2, ← treeA_set t pl bb _ HT.out hp256 hb2]
      exact ⟨rfl, (HG.out.far HTG _).drew, (HTT.out.put _ _).drew, (HK.out.setCell (fun _ => .inr rfl) _).drew⟩
    · obtain ⟨sh, rfl⟩ : ∃ k, sh = k + 1 := ⟨sh - 1, by omega⟩
      have hpos : (0 : Int) < ((sh + 1 : Nat) : Int) := by omega
      obtain ⟨bb, hbb⟩ : ∃ bb, bb = x / 2 ^ (sh + 1) % 2 := ⟨_, rfl⟩
      have hb2 : bb < 2 := by rw [hbb]; exact Nat.mod_lt _ (by omega)
      have hand : bits .and .u32 ((x : Int) / 2 ^ (sh + 1)) 1 = (bb : Int) := by
        have := u32_and_nat (x / 2 ^ (sh + 1)) 1 (by have := Nat.div_le_self x (2 ^ (sh + 1)); omega) (by omega)
        rw [Nat.and_one_is_mod, ← hbb] at this
        rw [← this]; simp
      have hp256 : pl < 256 := by omega
      have hq := treeA_at t pl bb hp256 hb2
      have hst : (stepP bb pl n t).bind (fun r => runP x sh r.1 r.2.1 r.2.2) = some r := by rw [hbb]; exact HR.out
      obtain ⟨st, hs1, hs2⟩ := Option.bind_eq_some_iff.1 hst
      have hs3 := stepP_some hs1 HT.out HN.out
      unfold stepP at hs1
      simp only [] at hs1
      obtain ⟨q, hqq⟩ : ∃ q, q = bitGet (t.getD pl (0, 0)) bb := ⟨_, rfl⟩
      rw [← hqq] at hq hs1
      have cq : wr.cell? ⟨T, pl * 2 + bb, none⟩ = some (.int .i16 q) := (HTT.out.cell _).trans hq
      have fq := HTT.out.frozen (pl * 2 + bb)
      have HS2 := hide hs2
      have HS3 := hide hs3
      have HTG := HNE.out
      have HTG' := HNE.out.symm
      clear hbb hq hst hs2 hs3 hqq
      by_cases hq0 : q = 0
      · subst hq0
        rw [if_pos rfl] at hs1
        split at hs1
        · rename_i hroom
          have HROOM := hide hroom.2
          have hn255 : (n : Int) < 256 := by have := hroom.1; omega
          have hwn : IntKind.i16.wrap (n : Int) = (n : Int) := IntWalk.i16_in _ (by omega)
          have HST := hide hs1
          clear hroom hs1
          go_wp2
          go_region
          have ht1 : (setBit t pl bb (n : Int)).getD n (0, 0) = (0, 0) := by
            have hne : pl ≠ n := by have := HPL.out; omega
            have e : (setBit t pl bb (n : Int)).getD n (0, 0) = t.getD n (0, 0) := by simp [setBit, List.getD, hne]
            rw [e]; exact HROOM.out
          have HT1 := hide ht1
          have HG1 := hide ((HG.out.far (p := ⟨T, pl * 2 + bb, none⟩) HTG (.int .i16 (n : Int))).drew)
          have HX1 := hide ((HX.out.far (p := ⟨T, pl * 2 + bb, none⟩) (by have := HGX.out; have := TBB.out; show gx ≠ T; omega) (.int .i16 (n : Int))).drew)
          have HTa := (HTT.out.put (pl * 2 + bb) (.int .i16 (n : Int))).drew
          rw [treeA_set t pl bb _ HT.out hp256 hb2] at HTa
          have HT2 := hide HTa
          have HK1 := hide ((HK.out.setCell (p := ⟨T, pl * 2 + bb, none⟩) (fun _ => .inr rfl) (.int .i16 (n : Int))).drew)
          clear ht1 HTa cq fq c0 c4 f4 HG HX HTT HK HROOM
          obtain ⟨t1, htt⟩ : ∃ t1, t1 = setBit t pl bb (n : Int) := ⟨_, rfl⟩
          have HTE := hide htt
          rw [← htt] at HT1 HT2
          clear htt
          generalize (wr.setCell ⟨T, pl * 2 + bb, none⟩ (.int .i16 (n : Int))).drew = wb at HG1 HX1 HT2 HK1 ⊢
          have c4 : wb.cell? ⟨g, 4, none⟩ = some (.slice (some ⟨T, 0, none⟩) n 256) := HG1.out.cell 4
          have gw := HG1.out.lt
          go_wp2_with (at_builtin; refine wpList_append_row rfl (.tmp 49) (.tmp 51) 66 rfl 72 i0 Try.underlying66 hi0 T n 256 (treeA t1) rfl (HT2.out.alloc _) ⟨wb.heap.size, 0, none⟩ 1 1 [.int .i16 0, .int .i16 0] rfl (by rw [hz1]; rfl) (World.news_of_block (cs := #[.int .i16 0, .int .i16 0]) (t := 72) (fr := (0, 0)) (heap_alloc_new wb _)) (by simp [Value.oneCell']) (by omega) (by rw [hz1, treeA_size]; simp; omega) (treeA t1) (by rw [hz1]; exact treeA_room t1 n (by omega) HT1.out) ?_; intro w5 hT5 hK5; have HT5 := hide hT5; have HG5 := hide (hK5.blk (HG1.out.alloc _) HTG); have HX5 := hide (hK5.blk (HX1.out.alloc _) (by have := HGX.out; have := TBB.out; show ¬ gx = T; omega)); have HK5 := hide ((HK1.out.alloc _).trans' hK5 (fun i _ e => .inr e)); clear hT5 hK5 c4 HT2; have c4 : w5.cell? ⟨g, 4, none⟩ = some (.slice (some ⟨T, 0, none⟩) n 256) := HG5.out.cell 4; have f4 := HG5.out.frozen 4; have cq : w5.cell? ⟨T, pl * 2 + bb, none⟩ = some (.int .i16 (n : Int)) := ((HT5.out.cell _).trans ((treeA_at t1 pl bb hp256 hb2).trans (by rw [HTE.out, bitGet_set t pl bb pl bb _ (by rw [HT.out]; exact hp256) hb2 hb2, if_pos ⟨rfl, rfl⟩]))))
          have e : (n, n + 1, t1) = st := by rw [HTE.out]; simpa using HST.out
          have h2 := HS2.out
          rw [← e] at h2
          have HH2 := hide h2
          clear h2 e
          go_roundw
          case rel => exact ⟨sh, n, n + 1, t1, rfl, by omega, rfl, by omega, by omega, by rw [HTE.out, setBit_len]; exact HT.out, HH2.out, HG5.out.put 4 _, HT5.out.far HTG' _, HX5.out.far (p := ⟨g, 4, none⟩) (by have := HGX.out; have := GB.out; show gx ≠ g; omega) _, HK5.out.setCell (fun _ => .inl rfl) _⟩
          case measure => simp [intOf]
        · cases hs1
      · rw [if_neg hq0] at hs1
        split at hs1
        · rename_i hq
          have HST := hide hs1
          clear hs1
          have hqb : (q == 0) = false := by simp [hq0]
          go_wp2
          obtain ⟨q', rfl⟩ : ∃ q' : Nat, q = (q' : Int) := ⟨q.toNat, by omega⟩
          have e : (q', n, t) = st := by simpa using HST.out
          have h2 := HS2.out
          rw [← e] at h2
          go_roundw
          case rel => exact ⟨sh, q', n, t, rfl, by omega, rfl, by omega, HN.out, HT.out, h2, HG.out, HTT.out, HX.out, HK.out⟩
          case measure => simp [intOf]
        · cases hs1
end Go.Proofs.Ytjnjganmdbkpoaa
