/-
  Layer 9: the fields of a payload (fill): the walk.
-/
import Derived.Test.YtefdhbljcnpggaaFrFill0
namespace Go.Proofs.Ytefdhbljcnpggaa
open Go.RowKit

set_option maxRecDepth 100000 in
set_option maxHeartbeats 3200000 in
theorem fr_fill (p d l c0 i r x : Bool) (F : Fr) (s : ByteArray) (m : Nat) (hfix : fixN d l c0 i ≤ (s.size : Int)) (hr : r = true → s.size = 6 * m ∧ d = false ∧ l = false ∧ c0 = false ∧ i = false) (hs : (s.size : Int) ≤ 600000) (w : World) :
    Calls Try.prog 27 #[.agg (F.cs none 0 0), .agg #[.bool p, .bool d, .bool l, .bool c0, .bool i, .bool r, .bool x], .string s] w (GivesFr (fillF d l c0 i x F (bts s)) (prsR r (bts s) m) w) := by
  have HS := hide (fill_start w F #[.bool p, .bool d, .bool l, .bool c0, .bool i, .bool r, .bool x] s)
  have HFX := hide (show ((if d then 5 else 0) + (if l then 4 else 0) + (if c0 then 4 else 0) + (if i then 4 else 0) : Nat) ≤ (bts s).length by
    rw [bts_len]
    unfold fixN b4 at hfix
    revert hfix
    cases d <;> cases l <;> cases c0 <;> cases i <;> simp <;> omega)
  have HR := hide hr
  have HSZ := hide hs
  have HZC : Fr.zero.cs none 0 0 = #[.int .u8 0, .int .u8 0, .int .i64 0, .string ⟨#[]⟩, .int .i64 0, .int .i64 0, .bool false, .int .u8 0, .int .u32 0, .int .i64 0, .int .i64 0, .slice none 0 0] := rfl
  rw [HZC] at HS
  clear hfix hr hs HZC
  have HG0 := hide (show fillF d l c0 i x F (bts s) = fillX x (fillI i (fillC c0 (fillL l (fillD d F (bts s)) (cutB d 5 (bts s))) (cutB l 4 (cutB d 5 (bts s)))) (cutB c0 4 (cutB l 4 (cutB d 5 (bts s))))) (cutB i 4 (cutB c0 4 (cutB l 4 (cutB d 5 (bts s))))) from rfl)
  obtain ⟨FF, hFF⟩ : ∃ FF, FF = fillF d l c0 i x F (bts s) := ⟨_, rfl⟩
  rw [← hFF] at HG0 ⊢
  clear hFF
  obtain ⟨RR, hRR⟩ : ∃ RR, RR = prsR r (bts s) m := ⟨_, rfl⟩
  rw [← hRR]
  have HRR := hide hRR
  clear hRR
  go_enter Try.func27, Try.ntmps27
  go_upto_region 1 with (fail)
  obtain ⟨g, hg⟩ : ∃ g, g = w.heap.size := ⟨_, rfl⟩
  have R0 := HS.out
  rw [← hg] at R0 ⊢
  generalize ((w.alloc (.cells (F.cs none 0 0) 28)).alloc (.cells #[.bool p, .bool d, .bool l, .bool c0, .bool i, .bool r, .bool x] 62)).alloc (.cells #[.int .u8 0, .int .u8 0, .int .i64 0, .string ⟨#[]⟩, .int .i64 0, .int .i64 0, .bool false, .int .u8 0, .int .u32 0, .int .i64 0, .int .i64 0, .slice none 0 0] 28) = w0 at R0 ⊢
  have HGW := hide hg
  have S0 := hide R0
  clear HS hg R0
  generalize hsh : (#[.bool p, .bool d, .bool l, .bool c0, .bool i, .bool r, .bool x] : Array Value) = sh at S0
  have HSH := hide hsh
  clear hsh
  have HXL := hide (bts_len s)
  obtain ⟨xs, hxs⟩ : ∃ xs, xs = bts s := ⟨_, rfl⟩
  rw [← hxs] at S0 HFX HRR HG0 HXL
  have HXS := hide hxs
  clear hxs
  have y1 := (S0.out.sh.cell 1).trans (show sh[1]? = some (.bool d) by rw [← HSH.out]; rfl)
  go_upto_if 9 with (fail)
  go_cut [2] (fun s2 wx => FillS g sh w wx s2 (fillD d F xs) (cutB d 5 xs))
  case first =>
    cases d with
    | false =>
      go_wp2
      go_meet
      exact S0.out.eq rfl rfl
    | true =>
      have h5 : 5 ≤ s.size := by have := HFX.out; have := HXL.out; simp at *; omega
      have HN := hide (fr_number s (by omega))
      have h4 : 4 < s.size := by omega
      have h4i : (4 : Int) < (s.size : Int) := by omega
      have h5i : (5 : Int) ≤ (s.size : Int) := by omega
      have hbd := numL_bd 4 (bts s) (bts_all s)
      rw [← HXS.out] at hbd HN
      obtain ⟨N, hN⟩ : ∃ N, N = numL (xs.take 4) := ⟨_, rfl⟩
      rw [← hN] at hbd HN
      have n0 : 0 ≤ N := hbd.1
      have n1 : N ≤ 4294967295 := by have := hbd.2; omega
      clear hbd h5
      obtain ⟨M, hM⟩ : ∃ M, M = N % 2147483648 := ⟨_, rfl⟩
      obtain ⟨T, hT⟩ : ∃ T : Bool, T = decide (2147483648 ≤ N) := ⟨_, rfl⟩
      have hlow := low31 N n0 n1
      have htop := top31 N n0 n1
      rw [← hM] at hlow
      rw [← hT] at htop
      have m0 : 0 ≤ M := by omega
      have m1 : M ≤ 2147483647 := by omega
      have hwr : IntKind.i64.wrap M = M := IntWalk.i64_in _ (by omega)
      have HE := hide (show fillD true F xs = { F with dep := M, sole := T, wt := (s[4].toNat : Int) } by rw [fillD, if_pos rfl, ← hN, ← hM, ← hT, HXS.out, bts_get s 4 h4])
      clear hN hM hT
      go_wp2_with fail
      refine (HN.out _).mono ?_
      rintro e w1 ⟨rfl, hb1⟩
      have S1 := hide (S0.out.keep hb1)
      clear hb1 y1
      have d5 := (S1.out.fr.cell 5).trans (show (F.cs none 0 0)[5]? = some (.int .i64 F.dep) from rfl)
      have d6 := (S1.out.fr.cell 6).trans (show (F.cs none 0 0)[6]? = some (.bool F.sole) from rfl)
      have d7 := (S1.out.fr.cell 7).trans (show (F.cs none 0 0)[7]? = some (.int .u8 F.wt) from rfl)
      have z5 := S1.out.fr.frozen 5
      have z6 := S1.out.fr.frozen 6
      have z7 := S1.out.fr.frozen 7
      go_wp2_with fail
      go_region
      all_goals
        go_wp2_with fail
        have S2 := S1.out.store (F' := { F with dep := M }) 5 (.int .i64 M) rfl
        have S3 := S2.store (F' := { F with dep := M, sole := T }) 6 (.bool T) rfl
        have S4 := S3.store (F' := { F with dep := M, sole := T, wt := (s[4].toNat : Int) }) 7 (.int .u8 (s[4].toNat : Int)) rfl
        go_meet
        exact (S4.drew.move (s.extract 5 s.size) rfl (by rw [bts_drop])).eq HE.out.symm (by rw [HXS.out]; rfl)
  have S1 := hide hcut
  clear hcut y1 S0
  obtain ⟨F1, hF1⟩ : ∃ G, G = fillD d F (xs) := ⟨_, rfl⟩
  rw [← hF1] at S1
  have HF1 := hide hF1
  clear hF1
  have y2 := (S1.out.sh.cell 2).trans (show sh[2]? = some (.bool l) by rw [← HSH.out]; rfl)
  go_upto_if 26 with (fail)
  go_cut [2] (fun s2 wx => FillS g sh w wx s2 (fillL l F1 (cutB d 5 xs)) (cutB l 4 (cutB d 5 xs)))
  case first =>
    cases l with
    | false =>
      go_wp2
      go_meet
      exact S1.out.eq rfl rfl
    | true =>
      obtain ⟨t, rfl, ht⟩ := S1.out.str
      have h4 : 4 ≤ t.size := by
        have h := HFX.out
        have h2 := bts_len t
        rw [ht] at h2
        simp only [cutB_len] at h2
        revert h h2
        cases d <;> cases c0 <;> cases i <;> simp <;> omega
      have HN := hide (fr_number t h4)
      have hbd := numL_bd 4 (bts t) (bts_all t)
      rw [ht] at hbd HN
      have HT := hide ht
      clear ht
      obtain ⟨N, hN⟩ : ∃ N, N = numL ((cutB d 5 xs).take 4) := ⟨_, rfl⟩
      rw [← hN] at hbd HN
      have n0 : 0 ≤ N := hbd.1
      have n1 : N ≤ 4294967295 := by have := hbd.2; omega
      have h4i : (4 : Int) ≤ (t.size : Int) := by omega
      clear hbd h4
      obtain ⟨M, hM⟩ : ∃ M, M = N % 2147483648 := ⟨_, rfl⟩
      have hlow := low31 N n0 n1
      rw [← hM] at hlow
      have m0 : 0 ≤ M := by omega
      have m1 : M ≤ 2147483647 := by omega
      have hwr : IntKind.i64.wrap M = M := IntWalk.i64_in _ (by omega)
      have HE := hide (show fillL true F1 (cutB d 5 xs) = { F1 with last := M } by rw [fillL, if_pos rfl, ← hN, ← hM])
      clear hN hM
      clear y2
      go_wp2_with fail
      refine wp_region_noPanic ?_
      refine wp_region_held_drew (S := fun _ => True) (by kernel_rfl) trivial (fun hS => ?_)
      refine wpAnyH_take (i := 0) (v := ?_) (by simp only [List.getElem?_toArray, List.getElem?_cons_zero] <;> exact rfl) (by kernel_rfl) (by kernel_rfl) (by kernel_rfl) (fun _ _ _ h => h) (Or.inl ⟨by rfl, ?_⟩) hS ?_
      rotate_left
      focus (intro w' hw'; go_simp; all_goals with_reducible rfl)
      try simp only [Act.put, List.setIfInBounds_toArray, List.set_cons_zero, List.set_cons_succ]
      refine wpAnyH_take (i := 4) (v := ?_) (by simp only [List.getElem?_toArray, List.getElem?_cons_succ, List.getElem?_cons_zero] <;> exact rfl) (by kernel_rfl) (by kernel_rfl) (by kernel_rfl) (fun _ _ _ h => h) (Or.inl ⟨by rfl, ?_⟩) hS ?_
      rotate_left
      focus (intro w' hw'; go_simp; all_goals with_reducible rfl)
      try simp only [Act.put, List.setIfInBounds_toArray, List.set_cons_zero, List.set_cons_succ]
      refine wpAnyH_take (i := 5) (v := ?_) (by simp only [List.getElem?_toArray, List.getElem?_cons_succ, List.getElem?_cons_zero] <;> exact rfl) (by kernel_rfl) (by kernel_rfl) (by kernel_rfl) (fun _ _ _ h => h) (Or.inl ⟨by rfl, ?_⟩) hS ?_
      rotate_left
      focus (intro w' hw'; go_simp; all_goals with_reducible rfl)
      try simp only [Act.put, List.setIfInBounds_toArray, List.set_cons_zero, List.set_cons_succ]
      refine wpAnyH_ready (rs := [1]) (by kernel_rfl) (by simp) ?_
      refine AllReadyH.cons (o := _) (by simp only [List.getElem?_toArray, List.getElem?_cons_succ, List.getElem?_cons_zero] <;> exact rfl) (fun K hK => ?_) ?_
      focus (
        go_simp
        go_at_call 50
        refine (HN.out _).mono ?_
        rintro e wc1 ⟨rfl, hb⟩
        have S8 := hide (S1.out.drew.keep hb)
        clear hb
        go_wp2_with fail
        refine hK.out _ _ trivial (fun _ => ?_)
        clear hK K
        try simp only [Act.put, List.setIfInBounds_toArray, List.set_cons_zero, List.set_cons_succ])
      rotate_left
      focus (exact AllReadyH.nil)
      refine wpAnyH_take (i := 2) (v := ?_) (by simp only [List.getElem?_toArray, List.getElem?_cons_succ, List.getElem?_cons_zero] <;> exact rfl) (by kernel_rfl) (by kernel_rfl) (by kernel_rfl) (fun _ _ _ h => h) (Or.inl ⟨by rfl, ?_⟩) hS ?_
      rotate_left
      focus (intro w' hw'; go_simp; all_goals with_reducible rfl)
      try simp only [Act.put, List.setIfInBounds_toArray, List.set_cons_zero, List.set_cons_succ]
      refine wpAnyH_take (i := 3) (v := ?_) (by simp only [List.getElem?_toArray, List.getElem?_cons_succ, List.getElem?_cons_zero] <;> exact rfl) (by kernel_rfl) (by kernel_rfl) (by kernel_rfl) (fun _ _ _ h => h) (Or.inl ⟨by rfl, ?_⟩) hS ?_
      rotate_left
      focus (intro w' hw'; go_simp; all_goals with_reducible rfl)
      try simp only [Act.put, List.setIfInBounds_toArray, List.set_cons_zero, List.set_cons_succ]
      refine wpAnyH_take (i := 6) (v := ?_) (by simp only [List.getElem?_toArray, List.getElem?_cons_succ, List.getElem?_cons_zero] <;> exact rfl) (by kernel_rfl) (by kernel_rfl) (by kernel_rfl) (fun _ _ _ h => h) (Or.inl ⟨by rfl, ?_⟩) hS ?_
      rotate_left
      focus (intro w' hw'; go_simp; all_goals with_reducible rfl)
      try simp only [Act.put, List.setIfInBounds_toArray, List.set_cons_zero, List.set_cons_succ]
      refine wpAnyH_ready (rs := [7]) (by kernel_rfl) (by simp) ?_
      refine AllReadyH.cons (o := _) (by simp only [List.getElem?_toArray, List.getElem?_cons_succ, List.getElem?_cons_zero] <;> exact rfl) (fun K hK => ?_) ?_
      focus (
        have d9 := (S8.out.fr.cell 9).trans (show (F1.cs none 0 0)[9]? = some (.int .i64 F1.last) from rfl)
        have z9 := S8.out.fr.frozen 9
        go_simp
        refine hK.out _ _ trivial (fun _ => ?_)
        clear d9 z9
        clear hK K
        try simp only [Act.put, List.setIfInBounds_toArray, List.set_cons_zero, List.set_cons_succ])
      rotate_left
      focus (exact AllReadyH.nil)
      refine wpAnyH_take (i := 8) (v := ?_) (by simp only [List.getElem?_toArray, List.getElem?_cons_succ, List.getElem?_cons_zero] <;> exact rfl) (by kernel_rfl) (by kernel_rfl) (by kernel_rfl) (fun _ _ _ h => h) (Or.inl ⟨by rfl, ?_⟩) hS ?_
      rotate_left
      focus (intro w' hw'; go_simp; all_goals with_reducible rfl)
      try simp only [Act.put, List.setIfInBounds_toArray, List.set_cons_zero, List.set_cons_succ]
      refine wpAnyH_done (by kernel_rfl) ?_ _
      refine NoPanic.normal ?_
      have S9 := S8.out.store (F' := { F1 with last := M }) 9 (.int .i64 M) rfl
      clear hS
      go_wp2_with fail
      go_meet
      exact (S9.move (t.extract 4 t.size) rfl (by rw [bts_drop])).eq HE.out.symm (by rw [HT.out]; rfl)
  have S2 := hide hcut
  clear hcut y2 S1
  obtain ⟨F2, hF2⟩ : ∃ G, G = fillL l F1 (cutB d 5 xs) := ⟨_, rfl⟩
  rw [← hF2] at S2
  have HF2 := hide hF2
  clear hF2
  have y3 := (S2.out.sh.cell 3).trans (show sh[3]? = some (.bool c0) by rw [← HSH.out]; rfl)
  go_upto_if 35 with (fail)
  go_cut [2] (fun s2 wx => FillS g sh w wx s2 (fillC c0 F2 (cutB l 4 (cutB d 5 xs))) (cutB c0 4 (cutB l 4 (cutB d 5 xs))))
  case first =>
    cases c0 with
    | false =>
      go_wp2
      go_meet
      exact S2.out.eq rfl rfl
    | true =>
      obtain ⟨t, rfl, ht⟩ := S2.out.str
      have h4 : 4 ≤ t.size := by
        have h := HFX.out
        have h2 := bts_len t
        rw [ht] at h2
        simp only [cutB_len] at h2
        revert h h2
        cases d <;> cases l <;> cases i <;> simp <;> omega
      have HN := hide (fr_number t h4)
      have hbd := numL_bd 4 (bts t) (bts_all t)
      rw [ht] at hbd HN
      have HT := hide ht
      clear ht
      obtain ⟨N, hN⟩ : ∃ N, N = numL ((cutB l 4 (cutB d 5 xs)).take 4) := ⟨_, rfl⟩
      rw [← hN] at hbd HN
      have n0 : 0 ≤ N := hbd.1
      have n1 : N ≤ 4294967295 := by have := hbd.2; omega
      have h4i : (4 : Int) ≤ (t.size : Int) := by omega
      clear hbd h4
      have HE := hide (show fillC true F2 (cutB l 4 (cutB d 5 xs)) = { F2 with code := N } by rw [fillC, if_pos rfl, ← hN])
      clear hN
      clear y3
      go_wp2_with fail
      refine wp_region_noPanic ?_
      refine wp_region_held_drew (S := fun _ => True) (by kernel_rfl) trivial (fun hS => ?_)
      refine wpAnyH_take (i := 0) (v := ?_) (by simp only [List.getElem?_toArray, List.getElem?_cons_zero] <;> exact rfl) (by kernel_rfl) (by kernel_rfl) (by kernel_rfl) (fun _ _ _ h => h) (Or.inl ⟨by rfl, ?_⟩) hS ?_
      rotate_left
      focus (intro w' hw'; go_simp; all_goals with_reducible rfl)
      try simp only [Act.put, List.setIfInBounds_toArray, List.set_cons_zero, List.set_cons_succ]
      refine wpAnyH_take (i := 2) (v := ?_) (by simp only [List.getElem?_toArray, List.getElem?_cons_succ, List.getElem?_cons_zero] <;> exact rfl) (by kernel_rfl) (by kernel_rfl) (by kernel_rfl) (fun _ _ _ h => h) (Or.inl ⟨by rfl, ?_⟩) hS ?_
      rotate_left
      focus (intro w' hw'; go_simp; all_goals with_reducible rfl)
      try simp only [Act.put, List.setIfInBounds_toArray, List.set_cons_zero, List.set_cons_succ]
      refine wpAnyH_take (i := 3) (v := ?_) (by simp only [List.getElem?_toArray, List.getElem?_cons_succ, List.getElem?_cons_zero] <;> exact rfl) (by kernel_rfl) (by kernel_rfl) (by kernel_rfl) (fun _ _ _ h => h) (Or.inl ⟨by rfl, ?_⟩) hS ?_
      rotate_left
      focus (intro w' hw'; go_simp; all_goals with_reducible rfl)
      try simp only [Act.put, List.setIfInBounds_toArray, List.set_cons_zero, List.set_cons_succ]
      refine wpAnyH_ready (rs := [1]) (by kernel_rfl) (by simp) ?_
      refine AllReadyH.cons (o := _) (by simp only [List.getElem?_toArray, List.getElem?_cons_succ, List.getElem?_cons_zero] <;> exact rfl) (fun K hK => ?_) ?_
      focus (
        go_simp
        go_at_call 50
        refine (HN.out _).mono ?_
        rintro e wc1 ⟨rfl, hb⟩
        have S8 := hide (S2.out.drew.keep hb)
        clear hb
        go_wp2_with fail
        refine hK.out _ _ trivial (fun _ => ?_)
        clear hK K
        try simp only [Act.put, List.setIfInBounds_toArray, List.set_cons_zero, List.set_cons_succ])
      rotate_left
      focus (exact AllReadyH.nil)
      refine wpAnyH_take (i := 4) (v := ?_) (by simp only [List.getElem?_toArray, List.getElem?_cons_succ, List.getElem?_cons_zero] <;> exact rfl) (by kernel_rfl) (by kernel_rfl) (by kernel_rfl) (fun _ _ _ h => h) (Or.inl ⟨by rfl, ?_⟩) hS ?_
      rotate_left
      focus (intro w' hw'; go_simp; all_goals with_reducible rfl)
      try simp only [Act.put, List.setIfInBounds_toArray, List.set_cons_zero, List.set_cons_succ]
      refine wpAnyH_ready (rs := [5]) (by kernel_rfl) (by simp) ?_
      refine AllReadyH.cons (o := _) (by simp only [List.getElem?_toArray, List.getElem?_cons_succ, List.getElem?_cons_zero] <;> exact rfl) (fun K hK => ?_) ?_
      focus (
        have d9 := (S8.out.fr.cell 8).trans (show (F2.cs none 0 0)[8]? = some (.int .u32 F2.code) from rfl)
        have z9 := S8.out.fr.frozen 8
        go_simp
        refine hK.out _ _ trivial (fun _ => ?_)
        clear d9 z9
        clear hK K
        try simp only [Act.put, List.setIfInBounds_toArray, List.set_cons_zero, List.set_cons_succ])
      rotate_left
      focus (exact AllReadyH.nil)
      refine wpAnyH_take (i := 6) (v := ?_) (by simp only [List.getElem?_toArray, List.getElem?_cons_succ, List.getElem?_cons_zero] <;> exact rfl) (by kernel_rfl) (by kernel_rfl) (by kernel_rfl) (fun _ _ _ h => h) (Or.inl ⟨by rfl, ?_⟩) hS ?_
      rotate_left
      focus (intro w' hw'; go_simp; all_goals with_reducible rfl)
      try simp only [Act.put, List.setIfInBounds_toArray, List.set_cons_zero, List.set_cons_succ]
      refine wpAnyH_done (by kernel_rfl) ?_ _
      refine NoPanic.normal ?_
      have S9 := S8.out.store (F' := { F2 with code := N }) 8 (.int .u32 N) rfl
      clear hS
      go_wp2_with fail
      go_meet
      exact (S9.move (t.extract 4 t.size) rfl (by rw [bts_drop])).eq HE.out.symm (by rw [HT.out]; rfl)
  have S3 := hide hcut
  clear hcut y3 S2
  obtain ⟨F3, hF3⟩ : ∃ G, G = fillC c0 F2 (cutB l 4 (cutB d 5 xs)) := ⟨_, rfl⟩
  rw [← hF3] at S3
  have HF3 := hide hF3
  clear hF3
  have y4 := (S3.out.sh.cell 4).trans (show sh[4]? = some (.bool i) by rw [← HSH.out]; rfl)
  go_upto_if 42 with (fail)
  go_cut [2] (fun s2 wx => FillS g sh w wx s2 (fillI i F3 (cutB c0 4 (cutB l 4 (cutB d 5 xs)))) (cutB i 4 (cutB c0 4 (cutB l 4 (cutB d 5 xs)))))
  case first =>
    cases i with
    | false =>
      go_wp2
      go_meet
      exact S3.out.eq rfl rfl
    | true =>
      obtain ⟨t, rfl, ht⟩ := S3.out.str
      have h4 : 4 ≤ t.size := by
        have h := HFX.out
        have h2 := bts_len t
        rw [ht] at h2
        simp only [cutB_len] at h2
        revert h h2
        cases d <;> cases l <;> cases c0 <;> simp <;> omega
      have HN := hide (fr_number t h4)
      have hbd := numL_bd 4 (bts t) (bts_all t)
      rw [ht] at hbd HN
      have HT := hide ht
      clear ht
      obtain ⟨N, hN⟩ : ∃ N, N = numL ((cutB c0 4 (cutB l 4 (cutB d 5 xs))).take 4) := ⟨_, rfl⟩
      rw [← hN] at hbd HN
      have n0 : 0 ≤ N := hbd.1
      have n1 : N ≤ 4294967295 := by have := hbd.2; omega
      have h4i : (4 : Int) ≤ (t.size : Int) := by omega
      clear hbd h4
      obtain ⟨M, hM⟩ : ∃ M, M = N % 2147483648 := ⟨_, rfl⟩
      have hlow := low31 N n0 n1
      rw [← hM] at hlow
      have m0 : 0 ≤ M := by omega
      have m1 : M ≤ 2147483647 := by omega
      have hwr : IntKind.i64.wrap M = M := IntWalk.i64_in _ (by omega)
      have HE := hide (show fillI true F3 (cutB c0 4 (cutB l 4 (cutB d 5 xs))) = { F3 with inc := M } by rw [fillI, if_pos rfl, ← hN, ← hM])
      clear hN hM
      clear y4
      go_wp2_with fail
      refine wp_region_noPanic ?_
      refine wp_region_held_drew (S := fun _ => True) (by kernel_rfl) trivial (fun hS => ?_)
      refine wpAnyH_take (i := 0) (v := ?_) (by simp only [List.getElem?_toArray, List.getElem?_cons_zero] <;> exact rfl) (by kernel_rfl) (by kernel_rfl) (by kernel_rfl) (fun _ _ _ h => h) (Or.inl ⟨by rfl, ?_⟩) hS ?_
      rotate_left
      focus (intro w' hw'; go_simp; all_goals with_reducible rfl)
      try simp only [Act.put, List.setIfInBounds_toArray, List.set_cons_zero, List.set_cons_succ]
      refine wpAnyH_take (i := 4) (v := ?_) (by simp only [List.getElem?_toArray, List.getElem?_cons_succ, List.getElem?_cons_zero] <;> exact rfl) (by kernel_rfl) (by kernel_rfl) (by kernel_rfl) (fun _ _ _ h => h) (Or.inl ⟨by rfl, ?_⟩) hS ?_
      rotate_left
      focus (intro w' hw'; go_simp; all_goals with_reducible rfl)
      try simp only [Act.put, List.setIfInBounds_toArray, List.set_cons_zero, List.set_cons_succ]
      refine wpAnyH_take (i := 5) (v := ?_) (by simp only [List.getElem?_toArray, List.getElem?_cons_succ, List.getElem?_cons_zero] <;> exact rfl) (by kernel_rfl) (by kernel_rfl) (by kernel_rfl) (fun _ _ _ h => h) (Or.inl ⟨by rfl, ?_⟩) hS ?_
      rotate_left
      focus (intro w' hw'; go_simp; all_goals with_reducible rfl)
      try simp only [Act.put, List.setIfInBounds_toArray, List.set_cons_zero, List.set_cons_succ]
      refine wpAnyH_ready (rs := [1]) (by kernel_rfl) (by simp) ?_
      refine AllReadyH.cons (o := _) (by simp only [List.getElem?_toArray, List.getElem?_cons_succ, List.getElem?_cons_zero] <;> exact rfl) (fun K hK => ?_) ?_
      focus (
        go_simp
        go_at_call 50
        refine (HN.out _).mono ?_
        rintro e wc1 ⟨rfl, hb⟩
        have S8 := hide (S3.out.drew.keep hb)
        clear hb
        go_wp2_with fail
        refine hK.out _ _ trivial (fun _ => ?_)
        clear hK K
        try simp only [Act.put, List.setIfInBounds_toArray, List.set_cons_zero, List.set_cons_succ])
      rotate_left
      focus (exact AllReadyH.nil)
      refine wpAnyH_take (i := 2) (v := ?_) (by simp only [List.getElem?_toArray, List.getElem?_cons_succ, List.getElem?_cons_zero] <;> exact rfl) (by kernel_rfl) (by kernel_rfl) (by kernel_rfl) (fun _ _ _ h => h) (Or.inl ⟨by rfl, ?_⟩) hS ?_
      rotate_left
      focus (intro w' hw'; go_simp; all_goals with_reducible rfl)
      try simp only [Act.put, List.setIfInBounds_toArray, List.set_cons_zero, List.set_cons_succ]
      refine wpAnyH_take (i := 3) (v := ?_) (by simp only [List.getElem?_toArray, List.getElem?_cons_succ, List.getElem?_cons_zero] <;> exact rfl) (by kernel_rfl) (by kernel_rfl) (by kernel_rfl) (fun _ _ _ h => h) (Or.inl ⟨by rfl, ?_⟩) hS ?_
      rotate_left
      focus (intro w' hw'; go_simp; all_goals with_reducible rfl)
      try simp only [Act.put, List.setIfInBounds_toArray, List.set_cons_zero, List.set_cons_succ]
      refine wpAnyH_take (i := 6) (v := ?_) (by simp only [List.getElem?_toArray, List.getElem?_cons_succ, List.getElem?_cons_zero] <;> exact rfl) (by kernel_rfl) (by kernel_rfl) (by kernel_rfl) (fun _ _ _ h => h) (Or.inl ⟨by rfl, ?_⟩) hS ?_
      rotate_left
      focus (intro w' hw'; go_simp; all_goals with_reducible rfl)
      try simp only [Act.put, List.setIfInBounds_toArray, List.set_cons_zero, List.set_cons_succ]
      refine wpAnyH_ready (rs := [7]) (by kernel_rfl) (by simp) ?_
      refine AllReadyH.cons (o := _) (by simp only [List.getElem?_toArray, List.getElem?_cons_succ, List.getElem?_cons_zero] <;> exact rfl) (fun K hK => ?_) ?_
      focus (
        have d9 := (S8.out.fr.cell 10).trans (show (F3.cs none 0 0)[10]? = some (.int .i64 F3.inc) from rfl)
        have z9 := S8.out.fr.frozen 10
        go_simp
        refine hK.out _ _ trivial (fun _ => ?_)
        clear d9 z9
        clear hK K
        try simp only [Act.put, List.setIfInBounds_toArray, List.set_cons_zero, List.set_cons_succ])
      rotate_left
      focus (exact AllReadyH.nil)
      refine wpAnyH_take (i := 8) (v := ?_) (by simp only [List.getElem?_toArray, List.getElem?_cons_succ, List.getElem?_cons_zero] <;> exact rfl) (by kernel_rfl) (by kernel_rfl) (by kernel_rfl) (fun _ _ _ h => h) (Or.inl ⟨by rfl, ?_⟩) hS ?_
      rotate_left
      focus (intro w' hw'; go_simp; all_goals with_reducible rfl)
      try simp only [Act.put, List.setIfInBounds_toArray, List.set_cons_zero, List.set_cons_succ]
      refine wpAnyH_done (by kernel_rfl) ?_ _
      refine NoPanic.normal ?_
      have S9 := S8.out.store (F' := { F3 with inc := M }) 10 (.int .i64 M) rfl
      clear hS
      go_wp2_with fail
      go_meet
      exact (S9.move (t.extract 4 t.size) rfl (by rw [bts_drop])).eq HE.out.symm (by rw [HT.out]; rfl)
  have S4 := hide hcut
  clear hcut y4 S3
  obtain ⟨F4, hF4⟩ : ∃ G, G = fillI i F3 (cutB c0 4 (cutB l 4 (cutB d 5 xs))) := ⟨_, rfl⟩
  rw [← hF4] at S4
  have HF4 := hide hF4
  clear hF4
  have yr := (S4.out.sh.cell 5).trans (show sh[5]? = some (.bool r) by rw [← HSH.out]; rfl)
  have ya := S4.out.sh.cell 6
  obtain ⟨t, rfl, ht⟩ := S4.out.str
  have HT := hide ht
  have HST := hide (show t.size ≤ 600000 by
    have h2 := bts_len t
    rw [ht] at h2
    simp only [cutB_len] at h2
    have h3 := HSZ.out
    have h4 := HXL.out
    omega)
  clear ht
  go_upto_if 51 with (fail)
  go_cut [] (fun wx => ∃ A c, BlkIs wx g 28 (F4.cs A RR.length c) ∧ BlkIs wx (g + 1) 62 sh ∧ BlkIs wx (g + 2) 28 (Fr.zero.cs none 0 0) ∧ Below g w wx ∧ PL wx A RR.length c RR)
  case first =>
    cases r with
    | false =>
      go_wp2
      go_meet
      have e : RR = [] := by rw [HRR.out]; rfl
      rw [e]
      exact ⟨none, 0, S4.out.fr, S4.out.sh, S4.out.res, S4.out.bel, PL.none_ _⟩
    | true =>
      obtain ⟨hm, rfl, rfl, rfl, rfl⟩ := HR.out rfl
      have hts : bts t = bts s := by rw [HT.out, HXS.out]; rfl
      have htl : t.size = 6 * m := by rw [← bts_len, hts, bts_len, hm]
      have HP := hide (fr_pairs t m htl (by have := HST.out; omega))
      have eR : prsL (bts t) m = RR := by rw [HRR.out, hts, HXS.out]; rfl
      rw [eR] at HP
      clear hm hts htl eR
      go_wp2_with fail
      refine (HP.out _).mono ?_
      rintro e w1 ⟨A, c, rfl, hpl, hb1⟩
      have S5 := hide (S4.out.keep hb1)
      have HPL := hide hpl
      clear hpl hb1
      have d11 := (S5.out.fr.cell 11).trans (show (F4.cs none 0 0)[11]? = some (.slice none 0 0) from rfl)
      have z11 := S5.out.fr.frozen 11
      go_wp2_with fail
      go_meet
      refine ⟨A, c, ?_, S5.out.sh.far (p := ⟨g, 11, none⟩) (by simp) _, S5.out.res.far (p := ⟨g, 11, none⟩) (by simp) _, S5.out.bel.setCell (p := ⟨g, 11, none⟩) (Nat.le_refl _) _, HPL.out.far (p := ⟨g, 11, none⟩) S5.out.fr (fr_no16 F4) _⟩
      exact S5.out.fr.put 11 (.slice A RR.length c)
  obtain ⟨A, c, hfr, hsh', hres, hbel, hpl⟩ := hcut
  have K1 := hide hfr
  have K2 := hide hsh'
  have K3 := hide hres
  have K4 := hide hbel
  have K5 := hide hpl
  clear hfr hsh' hres hbel hpl yr ya S4
  have yx := (K2.out.cell 6).trans (show sh[6]? = some (.bool x) by rw [← HSH.out]; rfl)
  have HC := hide (fun w => fr_clone t (by have := HST.out; omega) w)
  have HZ := hide (show (Try.prog.info? 28).map (·.size) = some (F4.cs A RR.length c).size from fr_sz)
  cases x with
  | false =>
    have HG1 := hide (show FF = F4 by rw [HG0.out, ← HF1.out, ← HF2.out, ← HF3.out, ← HF4.out]; rfl)
    go_wp2_with (first
      | (refine wpList_load_blk rfl 28 (.tmp 3) rfl g rfl 28 (F4.cs A RR.length c) _ K1.out Try.underlying28 rfl HZ.out ?_)
      | (refine wpList_store_blk rfl 28 (.tmp 6) (.tmp 60) rfl (g + 1 + 1) (F4.cs A RR.length c) (Fr.zero.cs none 0 0) 28 rfl rfl K3.out HZ.out rfl (Fr.cs_one _ _ _ _) ?_))
    refine bodyPost_ret (results_fr1 _ _ rfl (g + 1 + 1) F4 A RR.length c rfl ?_) rfl ?_
    · exact K3.out.row _
    · rw [HG1.out]
      have hbw := K4.out
      rw [HGW.out] at hbw
      have hrw := below_setRow (g := g + 1 + 1) hbw (by rw [← HGW.out]; omega) (F4.cs A RR.length c)
      exact ⟨A, c, rfl, K5.out.farRow K3.out (fr_no16' Fr.zero none 0 0) _, hrw⟩
  | true =>
    have HG1 := hide (show FF = { F4 with data := t } by rw [HG0.out, ← HF1.out, ← HF2.out, ← HF3.out, ← HF4.out, fillX, if_pos rfl, ← HT.out, str_bts])
    go_wp2_with fail
    refine (HC.out _).mono ?_
    rintro e w1 ⟨rfl, hb1⟩
    have J1 := hide (K1.out.keep hb1)
    have J3 := hide (K3.out.keep hb1)
    have J4 := hide (K4.out.trans (hb1.mono (Nat.le_of_lt K1.out.lt)))
    have J5 := hide (K5.out.keep hb1)
    clear hb1 K1 K2 K3 K4 K5 yx
    have d3 := (J1.out.cell 3).trans (show (F4.cs A RR.length c)[3]? = some (.string F4.data) from rfl)
    have z3 := J1.out.frozen 3
    go_upto_region 15 with (fail)
    clear d3 z3
    have I1 := hide (show BlkIs (w1.setCell ⟨g, 3, none⟩ (.string t)) g 28 (({ F4 with data := t } : Fr).cs A RR.length c) from J1.out.put 3 (.string t))
    have I3 := hide (J3.out.far (p := ⟨g, 3, none⟩) (by simp) (.string t))
    have I4 := hide (J4.out.setCell (p := ⟨g, 3, none⟩) (Nat.le_refl _) (.string t))
    have I5 := hide (J5.out.far (p := ⟨g, 3, none⟩) J1.out (fr_no16' F4 A RR.length c) (.string t))
    generalize w1.setCell ⟨g, 3, none⟩ (.string t) = w2 at I1 I3 I4 I5 ⊢
    clear J1 J3 J4 J5
    have HZ2 := hide (show (Try.prog.info? 28).map (·.size) = some (({ F4 with data := t } : Fr).cs A RR.length c).size from fr_sz)
    go_wp2_with (first
      | (refine wpList_load_blk rfl 28 (.tmp 3) rfl g rfl 28 (({ F4 with data := t } : Fr).cs A RR.length c) _ I1.out Try.underlying28 rfl HZ2.out ?_)
      | (refine wpList_store_blk rfl 28 (.tmp 6) (.tmp 60) rfl (g + 1 + 1) (({ F4 with data := t } : Fr).cs A RR.length c) (Fr.zero.cs none 0 0) 28 rfl rfl I3.out HZ2.out rfl (Fr.cs_one _ _ _ _) ?_))
    refine bodyPost_ret (results_fr1 _ _ rfl (g + 1 + 1) { F4 with data := t } A RR.length c rfl ?_) rfl ?_
    · exact I3.out.row _
    · rw [HG1.out]
      have hbw := I4.out
      rw [HGW.out] at hbw
      have hrw := below_setRow (g := g + 1 + 1) hbw (by rw [← HGW.out]; omega) (({ F4 with data := t } : Fr).cs A RR.length c)
      exact ⟨A, c, rfl, I5.out.farRow I3.out (fr_no16' Fr.zero none 0 0) _, hrw⟩
end Go.Proofs.Ytefdhbljcnpggaa
