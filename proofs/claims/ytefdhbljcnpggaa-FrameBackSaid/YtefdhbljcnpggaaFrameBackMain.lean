/-
  FrameBack: its walk, with all that it asks.
-/
import Derived.Test.YtefdhbljcnpggaaFrameBackWalk
namespace Go.Proofs.Ytefdhbljcnpggaa.frameBack
open Go.RowKit Go.Proofs.Ytefdhbljcnpggaa

theorem light_bd {F : Fr} {n : Nat} (h : F.light n = true) : (F.data.size : Int) ≤ 400 ∧ (n : Int) ≤ 40 := by
  unfold Fr.light at h
  simpa using h
theorem mid_all (F : Fr) (l : List Pr) (hw0 : 0 ≤ F.wt) (hw1 : F.wt ≤ 255) : AllB (F.mid l) := by
  intro x hx
  unfold Fr.mid at hx
  simp only [List.mem_append] at hx
  have hif : ∀ (b : Bool) (l : List Int), AllB l → x ∈ ifB b l → 0 ≤ x ∧ x ≤ 255 := fun b l h hx => by
    cases b
    · cases hx
    · exact h x hx
  rcases hx with hx | hx | hx | hx | hx | hx
  · refine hif _ _ (fun y hy => ?_) hx
    rcases List.mem_append.1 hy with hy | hy
    · exact num4_all _ y hy
    · simp at hy; omega
  · exact hif _ _ (num4_all _) hx
  · exact hif _ _ (num4_all _) hx
  · exact hif _ _ (num4_all _) hx
  · exact prB_all _ x hx
  · exact bts_all _ x hx

theorem main_of {F : Fr} {A : Option Addr} {n c : Nat} {l : List Pr} (hl : l.length = n) (FO : FrOk F) (hp : AllP l) (hli : F.light n = true) (hchk : F.chk n = 0) : Main F A n c l (F.cs A n c) := by
  obtain ⟨t0, t1⟩ := bounds_u8 FO.ty
  obtain ⟨f0, f1⟩ := bounds_u8 FO.fl
  obtain ⟨w0, w1⟩ := bounds_u8 FO.wt
  obtain ⟨c0, c1⟩ := bounds_u32 FO.code
  obtain ⟨hs, hn⟩ := light_bd hli
  obtain ⟨hin, hfit, _, hsz⟩ := chk_zero hchk
  have hi := (inB_iff F).1 hin
  subst hl
  have hlm := payB_len F l hi.2.2.2.2.2.2.2.2.1
  have hlay : F.lay l [] = F.payB l := by have := pay_lay hfit []; simpa using this
  have hm : ((F.lay l []).length : Int) = F.siz l.length := by rw [hlay]; exact hlm
  refine ⟨(F.lay l []).length, ifB (shP F.ty F.fl) [F.pad] ++ F.mid l, F.pad.toNat, ?_, ?_, by omega, ⟨hdB_all _ _ _ _ t0 t1 f0 f1, ?_⟩, ?_, ?_, by omega, by omega, ?_, ⟨?_, ?_, ?_⟩⟩
  · rw [Fr.put, if_pos hchk, lay_eq, lay_mid, ← lay_mid, hm, lay_mid]
  · rw [lay_mid]; simp [zs]; omega
  · intro x hx
    rcases List.mem_append.1 hx with hx | hx
    · cases h : shP F.ty F.fl with
      | false => rw [h] at hx; cases hx
      | true => rw [h] at hx; simp [ifB] at hx; omega
    · exact mid_all F l w0 w1 x hx
  · intro Zs hz _
    exact read_put t0 hp c0 c1 hchk Zs hz
  · unfold Fr.len
    rw [if_pos hchk, hm]
  · rw [hm]
    exact (okH_iff _ _).2 ⟨by omega, by omega, hi.1, hi.2.1⟩
  · exact fun w => fr_Length F A l.length c t0 (by omega) (by omega) w
  · intro w A1 C1 h h'
    refine (fr_Same F F A A1 l.length c l.length C1 l l w h h' (by omega) (by omega)).mono fun e w' h => ?_
    rw [same_self] at h
    exact h
  · intro w A1 C1
    have := fr_Check F A1 l.length C1 t0 (by omega) (by omega) w
    rw [hchk] at this
    exact this

theorem walk (F : Fr) (A : Option Addr) (n c : Nat) (l : List Pr) (s : Int) (w : World) (hPF : PL w A n c l) (hAF : AllP l) (FO : FrOk F) (hs : F.data.size ≤ reachBytes) (hn : n * 8 ≤ reachBytes) (hb : (Lit.int .u8 s).wf = true) :
    Calls Try.prog 6 #[.agg (F.cs A n c), .int .u8 s] w fun e w' => e = .returned (.bool true) ∧ Below w.heap.size w w' := by
  have h47 := reachBytes_lt
  obtain ⟨t0, t1⟩ := bounds_u8 FO.ty
  obtain ⟨w0, w1⟩ := bounds_u8 FO.wt
  obtain ⟨c0, c1⟩ := bounds_u32 FO.code
  obtain ⟨s0, s1⟩ := bounds_u8 hb
  exact walk0 F A n c l s w (F.cs A n c) (hide rfr_sz) (hide fr_sz) (hide rfl) (hide (Fr.cs_one F A n c)) (hide hPF) (hide (hPF.lts (Nat.le_refl _)))
    (hide ⟨fun w h => fr_Put F A n c l t0 c0 c1 w0 w1 hAF (by omega) (by omega) w h, fun w => fr_Check F A n c t0 (by omega) (by omega) w, fun w => rp_Light F A n c w⟩)
    (hide fun hli hchk => main_of hPF.len FO hAF hli hchk) (hide rfl) (hide t0) s0 s1

end Go.Proofs.Ytefdhbljcnpggaa.frameBack
