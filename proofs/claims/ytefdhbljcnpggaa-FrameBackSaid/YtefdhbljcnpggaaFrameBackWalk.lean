/-
  FrameBack: its walk.
-/
import Derived.Test.YtefdhbljcnpggaaFbMath
import Derived.Test.YtefdhbljcnpggaaFbOpen
import Derived.Test.YtefdhbljcnpggaaRpPut
namespace Go.Proofs.Ytefdhbljcnpggaa.frameBack
open Go.RowKit Go.Proofs.Ytefdhbljcnpggaa

theorem step_store_blk {P : Program} {w : World} {ops : Array Oper} {o : Oper} {a : Act} {K : Act → World → Prop} {Q : Exit → Act → World → Prop} {E : Prop} (hgd : o.guard = none) (ty : TypeId) (x y : Operand) (ho : o.op = .store ty x y)
    (g : Nat) (cells z : Array Value) (t : TypeId) (hx : a.eval x = .pointer (some ⟨g, 0, none⟩)) (hy : a.eval y = .agg cells) (hg : BlkIs w g t z)
    (hi : (P.info? ty).map (·.size) = some cells.size) (hold : z.size = cells.size) (h1 : cells.all (·.oneCell') = true)
    (h : K (a.put o.dst undef) (w.setRow g cells)) : if Region.wanted o (yielded ops a.tmps) = true then Oper.wp P o a w K Q else E := by
  rw [if_pos (by simp [Region.wanted, hgd])]
  exact wp_store_row ty x y ho g cells hx hy t z hg hi hold h1 h
theorem set_zs (X : List Int) (k : Nat) (s : Int) : (X ++ zs (k + 1)).set (X.length + k) s = X ++ (zs k ++ [s]) := by
  rw [List.set_append_right _ _ (by omega), show X.length + k - X.length = k by omega]
  congr 1
  rw [show zs (k + 1) = zs k ++ [0] by simp [zs, List.replicate_succ'], List.set_append_right _ _ (by simp [zs])]
  simp [zs]
theorem u8s_set (xs : List Int) (k : Nat) (s : Int) : (u8s xs).set k (.int .u8 s) = u8s (xs.set k s) := by simp [u8s, List.map_set]

/-- What stands between the head's reading and the payload's. -/
structure BackS (w w' : World) (p h g1 c1 N : Nat) (cs hs : Array Value) (hd Y0 : List Int) (K : Nat) : Prop where
  own : ∃ Zs, w'.ownsRow w.heap.size 5 1 (.slice (some ⟨g1, 0, none⟩) N c1) N (u8s (hd ++ (Y0 ++ Zs))) ∧ Zs.length = K ∧ AllB Zs
  kp : BlkIs w' p 28 cs
  kh : BlkIs w' h 34 hs
  bel : Below w.heap.size w w'
/-- What Read leaves, behind its stores. -/
def BackR (w w' : World) (p : Nat) (cs : Array Value) (R : Rd) (s10 s11 : Value) : Prop :=
  ∃ y fa A c, s10 = .pointer (some ⟨y, 0, none⟩) ∧ s11 = .pointer (some ⟨fa, 0, none⟩) ∧ BlkIs w' p 28 cs ∧ BlkIs w' y 28 (R.F.cs A R.l.length c) ∧ BlkIs w' fa 31 #[.int .u32 R.code, .int .i64 R.st] ∧ PL w' A R.l.length c R.l ∧ Below w.heap.size w w'

/-- The contracts that the law asks for ahead of what it asks of small frames. -/
structure Cons (F : Fr) (A : Option Addr) (n c : Nat) (l : List Pr) (cs : Array Value) : Prop where
  put : ∀ w, PL w A n c l → Calls Try.prog 14 #[.agg cs] w (GivesPut w.heap.size (F.put l) (F.chk n) w)
  chk : ∀ w, Calls Try.prog 16 #[.agg cs] w fun e w' => e = .returned (.int .i64 (F.chk n)) ∧ Below w.heap.size w w'
  light : ∀ w, Calls Try.prog 13 #[.agg cs] w fun e w' => e = .returned (.bool (F.light n)) ∧ Below w.heap.size w w'
/-- Those that it asks of small frames. -/
structure Small (F : Fr) (A : Option Addr) (n c : Nat) (l : List Pr) (cs : Array Value) : Prop where
  len : ∀ w, Calls Try.prog 18 #[.agg cs] w fun e w' => e = .returned (.int .i64 (F.len n)) ∧ Below w.heap.size w w'
  same : ∀ w A1 C1, PL w A n c l → PL w A1 l.length C1 l → Calls Try.prog 20 #[.agg cs, .agg (F.cs A1 l.length C1)] w fun e w' => e = .returned (.bool true) ∧ Below w.heap.size w w'
  chk1 : ∀ w A1 C1, Calls Try.prog 16 #[.agg (F.cs A1 l.length C1)] w fun e w' => e = .returned (.int .i64 0) ∧ Below w.heap.size w w'

/-- What is known of a small frame that may be put. -/
def Main (F : Fr) (A : Option Addr) (n c : Nat) (l : List Pr) (cs : Array Value) : Prop :=
  ∃ (m : Nat) (Y0 : List Int) (KP : Nat), F.put l = hdB (m : Int) F.ty F.fl F.st ++ (Y0 ++ zs KP) ∧ Y0.length + KP = m ∧ m ≤ 16384 ∧ (AllB (hdB (m : Int) F.ty F.fl F.st) ∧ AllB Y0) ∧
    (∀ Zs, Zs.length = KP → AllB Zs → readR F.ty F.fl F.st (Y0 ++ Zs) = ⟨F, l, 0, 0⟩ ∨ ∃ c s, ¬ c = 0 ∧ readR F.ty F.fl F.st (Y0 ++ Zs) = Rd.fault c s) ∧ F.len n = (m : Int) ∧ F.pad = (KP : Int) ∧ KP ≤ 255 ∧ okH (m : Int) F.st = true ∧ Small F A n c l cs
theorem get_is {m t f s : Int} {A : Option Addr} {N : Nat} (c1 : Nat) (hok : okH m s = true) {tail : List Int} {w : World} (hr : RB w A N (hdB m t f s ++ tail)) :
    Calls Try.prog 21 #[.slice A N c1] w fun e w' => e = .returned (.tuple #[.agg #[.int .i64 m, .int .u8 t, .int .u8 f, .int .i64 s], .int .i64 0]) ∧ Below w.heap.size w w' := by
  obtain ⟨e1, e2, e3, e4, e5⟩ := get_put m t f s hok tail
  refine (fh_Get A N c1 _ w hr).mono ?_
  rintro e w' ⟨he, hb⟩
  rw [e1, e2, e3, e4, e5] at he
  exact ⟨he, hb⟩
theorem same_self (F : Fr) (l : List Pr) : sameF F F l l = true := by
  simp [sameF, Fr.same, sameP]
theorem same_zero (A1 : Option Addr) (C1 : Nat) (w : World) (h : PL w A1 0 C1 []) :
    Calls Try.prog 20 #[.agg (Fr.zero.cs A1 0 C1), .agg (Fr.zero.cs none 0 0)] w fun e w' => e = .returned (.bool true) ∧ Below w.heap.size w w' :=
  (fr_Same Fr.zero Fr.zero A1 none 0 C1 0 0 [] [] w h (PL.none_ w) (by omega) (by omega)).mono fun e w' h => by
    rw [same_self] at h
    exact h
theorem hd_one (a b c d : Int) : (#[.int .i64 a, .int .u8 b, .int .u8 c, .int .i64 d] : Array Value).all (·.oneCell') = true := by simp [Value.oneCell']
theorem pl_row {w : World} {A : Option Addr} {n c g : Nat} {l : List Pr} {t : TypeId} {cs : Array Value} (h : PL w A n c l) (hk : BlkIs w g t cs) (hne : ∀ (i : Nat) (x : Int), cs[i]? ≠ some (Value.int .u16 x)) (ds : Array Value) : PL (w.setRow g ds) A n c l :=
  ⟨h.len, h.le, h.max, h.nil_, fun k f hf => by
    obtain ⟨b, off, rfl, hlt, c0, c1⟩ := h.at_ k f hf
    have hb : b ≠ g := h.apart hk hne b off rfl (by have := (List.getElem?_eq_some_iff.1 hf).1; rw [h.len] at this; omega)
    have hkb : KB (· = g) w (w.setRow g ds) := (KB.refl (· = g) w).setRow (fun _ => rfl) ds
    exact ⟨b, off, rfl, by simpa using hlt, (hkb.cell (p := ⟨b, _, none⟩) hlt hb).trans c0, (hkb.cell (p := ⟨b, _, none⟩) hlt hb).trans c1⟩⟩
theorem cs_no16 (F : Fr) (A : Option Addr) (n c i : Nat) (x : Int) : (F.cs A n c)[i]? ≠ some (Value.int .u16 x) := by
  match i with
  | 0 | 1 | 2 | 3 | 4 | 5 | 6 | 7 | 8 | 9 | 10 | 11 => intro h; simp [Fr.cs] at h
  | i + 12 => intro h; simp [Fr.cs] at h
theorem fa_no16 (a b : Int) (i : Nat) (x : Int) : (#[.int .u32 a, .int .i64 b] : Array Value)[i]? ≠ some (Value.int .u16 x) := by
  match i with
  | 0 | 1 => intro h; simp at h
  | i + 2 => intro h; simp at h
theorem back_rows {w w' : World} {p y fa : Nat} {cs : Array Value} {A : Option Addr} {n c : Nat} {l : List Pr} (kp : BlkIs w' p 28 cs) (ky : BlkIs w' y 28 (Fr.zero.cs none 0 0)) (kf : BlkIs w' fa 31 #[.int .u32 0, .int .i64 0])
    (npy : p ≠ y) (npf : p ≠ fa) (hl : PL w' A n c l) (hb : Below w.heap.size w w') (ly : w.heap.size ≤ y) (lf : w.heap.size ≤ fa) (cy cf : Array Value) :
    BlkIs ((w'.setRow y cy).setRow fa cf) p 28 cs ∧ BlkIs ((w'.setRow y cy).setRow fa cf) y 28 cy ∧ BlkIs ((w'.setRow y cy).setRow fa cf) fa 31 cf ∧ PL ((w'.setRow y cy).setRow fa cf) A n c l ∧ Below w.heap.size w ((w'.setRow y cy).setRow fa cf) := by
  have nyf : y ≠ fa := ky.ne_ kf (by decide)
  have kf' := kf.row_other (Ne.symm nyf) cy
  exact ⟨(kp.row_other npy cy).row_other npf cf, (ky.row cy).row_other nyf cf, kf'.row cf, pl_row (pl_row hl ky (fr_no16' _ _ _ _) cy) kf' (fa_no16 _ _) cf, below_setRow (below_setRow hb ly _) lf _⟩

set_option maxRecDepth 100000 in
set_option maxHeartbeats 3200000 in
theorem walk0 (F : Fr) (A : Option Addr) (n c : Nat) (l : List Pr) (s : Int) (w : World) (cs : Array Value) (HZR : Hid ((Try.prog.info? 35).map (·.size) = some cs.size)) (HZP : Hid ((Try.prog.info? 28).map (·.size) = some cs.size)) (HSZ : Hid (12 = cs.size)) (H1C : Hid (cs.all (·.oneCell') = true))
    (HPF : Hid (PL w A n c l)) (LTF : Hid (∀ (k : Nat) (p : Pr), l[k]? = some p → ∀ b off, A = some ⟨b, off, none⟩ → b < w.heap.size)) (HC : Hid (Cons F A n c l cs)) (HM : Hid (F.light n = true → F.chk n = 0 → Main F A n c l cs)) (Q4 : Hid (cs[4]? = some (.int .i64 F.pad))) (T0 : Hid (0 ≤ F.ty)) (hs0 : 0 ≤ s) (hs1 : s ≤ 255) :
    Calls Try.prog 6 #[.agg cs, .int .u8 s] w fun e w' => e = .returned (.bool true) ∧ Below w.heap.size w w' := by
  go_enter Try.func6, Try.ntmps6
  go_upto_region 1 with (fail)
  have B0 := hide (Below.refl w.heap.size w)
  have KN1 := hide (BlkIs.new w 35 cs)
  obtain ⟨x, hx⟩ : ∃ g, g = w.heap.size := ⟨_, rfl⟩
  have Lx := hide (show w.heap.size ≤ x by rw [hx]; exact B0.out.size)
  have B1 := hide (B0.out.alloc B0.out.size (.cells cs 35))
  rw [← hx] at KN1 ⊢
  generalize w.alloc (.cells cs 35) = w1 at B1 KN1 ⊢
  clear hx B0
  go_upto_region 2 with (first | (refine wpList_load_want (by rfl) 35 (.tmp 2) rfl x rfl 35 cs _ KN1.out Try.underlying35 rfl HZR.out ?_) | (refine wpList_store_new rfl 28 (.tmp 5) (.tmp 12) rfl cs #[.int .u8 0, .int .u8 0, .int .i64 0, .string ⟨#[]⟩, .int .i64 0, .int .i64 0, .bool false, .int .u8 0, .int .u32 0, .int .i64 0, .int .i64 0, .slice none 0 0] 28 rfl rfl HZP.out HSZ.out H1C.out ?_))
  have KN2 := hide (BlkIs.new w1 28 cs)
  obtain ⟨p, hp⟩ : ∃ g, g = w1.heap.size := ⟨_, rfl⟩
  have Lp := hide (show w.heap.size ≤ p by rw [hp]; exact B1.out.size)
  have Nxp := hide (show x ≠ p by have := KN1.out.lt; omega)
  have Kx2 := hide (KN1.out.alloc (.cells cs 28))
  have B2 := hide (B1.out.alloc B1.out.size (.cells cs 28))
  rw [← hp] at KN2 ⊢
  generalize w1.alloc (.cells cs 28) = w2 at Kx2 B2 KN2 ⊢
  clear hp KN1 B1
  go_wp2_with (refine wpList_load_want (by rfl) 28 (.tmp 5) rfl p rfl 28 cs _ KN2.out Try.underlying28 rfl HZP.out ?_)
  have BPUT := hide B2.out
  refine (HC.out.put _ (HPF.out.keepB B2.out LTF.out)).mono ?_
  rintro e w3 ⟨v1, rfl, ho1, hb3⟩
  have Kx3 := hide (Kx2.out.keep hb3)
  have Kp3 := hide (KN2.out.keep hb3)
  have B3 := hide (B2.out.trans (hb3.mono B2.out.size))
  clear hb3 Kx2 KN2 B2
  have OA := hide ho1
  clear ho1
  go_wp2_with (refine wpList_load_want (by rfl) 35 (.tmp 2) rfl x rfl 35 cs _ Kx3.out Try.underlying35 rfl HZR.out ?_)
  refine (HC.out.light _).mono ?_
  rintro e w4 ⟨rfl, hb4⟩
  have Kx4 := hide (Kx3.out.keep hb4)
  have Kp4 := hide (Kp3.out.keep hb4)
  have EA4 := hide (own_keep OA.out hb4)
  have B4 := hide (B3.out.trans (hb4.mono B3.out.size))
  clear hb4 Kx3 Kp3 OA B3
  cases hlf : F.light n with
  | false =>
    clear hlf HM
    by_cases hk : F.chk n = 0
    · rw [hk]
      clear HC hk
      go_wp2_with fail
      refine (aw_frame _).mono ?_
      rintro e w5 ⟨rfl, hb5⟩
      have Kx5 := hide (Kx4.out.keep hb5)
      have Kp5 := hide (Kp4.out.keep hb5)
      have B5 := hide (B4.out.trans (hb5.mono B4.out.size))
      clear hb5 Kx4 Kp4 B4
      go_wp2_with fail
      go_ret
      exact ⟨rfl, B5.out⟩
    · have hput : F.put l = [] := by rw [Fr.put, HPF.out.len, if_neg hk]
      have OE := hide (show w4.ownsRow _ 5 1 v1 0 [] by have := EA4.out; rw [hput] at this; exact this)
      obtain ⟨EA, EC, rfl⟩ := own_form OE.out
      have hk1 : (F.chk n == 0) = false := by simp [hk]
      have hk2 : (F.chk n != 0) = true := by simp [hk]
      clear hput OE hk EA4
      skip
      go_wp2_with (refine wpList_load_want (by rfl) 28 (.tmp 5) rfl p rfl 28 cs _ Kp4.out Try.underlying28 rfl HZP.out ?_)
      refine (HC.out.chk _).mono ?_
      rintro e w5 ⟨rfl, hb5⟩
      have Kx5 := hide (Kx4.out.keep hb5)
      have Kp5 := hide (Kp4.out.keep hb5)
      have B5 := hide (B4.out.trans (hb5.mono B4.out.size))
      clear hb5 Kx4 Kp4 B4
      clear HC
      go_wp2_with fail
      refine (aw_frame _).mono ?_
      rintro e w6 ⟨rfl, hb6⟩
      have Kx6 := hide (Kx5.out.keep hb6)
      have Kp6 := hide (Kp5.out.keep hb6)
      have B6 := hide (B5.out.trans (hb6.mono B5.out.size))
      clear hb6 Kx5 Kp5 B5
      go_wp2_with fail
      go_ret
      exact ⟨rfl, B6.out⟩
  | true =>
    by_cases hk : F.chk n = 0
    · obtain ⟨m, Y0, KP, hput, hlen, hm1, hall, hrd, hLn, hpad, hK9, hok, hsm⟩ := HM.out hlf hk
      have HSM := hide hsm
      clear hsm
      have HLn := hide (fun w => (HSM.out.len w).mono (fun e w' h => (show e = .returned (.int .i64 (m : Int)) ∧ Below w.heap.size w w' by rw [← hLn]; exact h)))
      rw [hk]
      rw [hput] at EA4
      obtain ⟨hd, hhd⟩ : ∃ hd, hd = hdB (m : Int) F.ty F.fl F.st := ⟨_, rfl⟩
      rw [← hhd] at EA4
      obtain ⟨N, hN⟩ : ∃ N, N = (hd ++ (Y0 ++ zs KP)).length := ⟨_, rfl⟩
      rw [← hN] at EA4
      have hd9 : hd.length = 9 := by rw [hhd]; rfl
      have hN9 : N = 9 + m := by rw [hN, List.length_append, List.length_append, hd9, ← hlen]; simp [zs]
      obtain ⟨g1, c1, rfl⟩ := own_some' EA4.out (by omega)
      have HO := hide (own_base EA4.out BPUT.out.size)
      have hzs : AllB (zs KP) := fun y hy => by simp [zs] at hy; omega
      have hallp : AllB (hd ++ (Y0 ++ zs KP)) := fun y hy => by
        rcases List.mem_append.1 hy with hy | hy
        · rw [hhd] at hy; exact hall.1 y hy
        · rcases List.mem_append.1 hy with hy | hy
          · exact hall.2 y hy
          · exact hzs y hy
      obtain ⟨hNc, hc63⟩ := (rb_of_own HO.out hallp).2
      have HRB := hide (rb_of_own HO.out hallp).1
      have HGET := hide (fun w (hr : RB w (some ⟨g1, 0, none⟩) N (hd ++ (Y0 ++ zs KP))) => get_is c1 hok (by rw [← hhd]; exact hr))
      have HALL := hide hallp
      have HALY := hide hall.2
      have HRD := hide hrd
      have HDL := hide hd9
      have HN9 := hide hN9
      have HLEN := hide hlen
      have HM1 := hide hm1
      have HK9 := hide hK9
      have HHD := hide hhd
      have HZS := hide hzs
      have HPAD := hide hpad
      have q4 : Hid (cs[4]? = some (.int .i64 (KP : Int))) := hide (by rw [Q4.out, hpad])
      clear EA4 hput hhd hN hd9 hzs hallp hall hrd hLn hpad hK9 hok hlen hm1 hN9 hk hlf HM
      have n9 : 9 ≤ N := by have := HN9.out; omega
      have n9i : (9 : Int) ≤ (N : Int) := by omega
      have nm : (N : Int) ≤ 17000 := by have := HN9.out; have := HM1.out; omega
      have nci : (N : Int) ≤ (c1 : Int) := by omega
      have c63 : (c1 : Int) ≤ 9223372036854775807 := by omega
      clear hNc hc63
      go_wp2_with fail
      refine (HGET.out _ HRB.out).mono ?_
      rintro e w5 ⟨rfl, hb5⟩
      have Kx5 := hide (Kx4.out.keep hb5)
      have Kp5 := hide (Kp4.out.keep hb5)
      have EO5 := hide (own_keep HO.out hb5)
      have ER5 := hide (HRB.out.below hb5)
      have B5 := hide (B4.out.trans (hb5.mono B4.out.size))
      clear hb5 Kx4 Kp4 HO HRB B4
      clear ER5 HGET
      go_upto_region 6 with ((refine wpList_store_new rfl 34 (.tmp 8) (.tmp 44) rfl #[.int .i64 (m : Int), .int .u8 F.ty, .int .u8 F.fl, .int .i64 F.st] #[.int .i64 0, .int .u8 0, .int .u8 0, .int .i64 0] 34 rfl rfl hd_size rfl (hd_one _ _ _ _) ?_))
      have KN6 := hide (BlkIs.new w5 34 #[.int .i64 (m : Int), .int .u8 F.ty, .int .u8 F.fl, .int .i64 F.st])
      obtain ⟨h, hh⟩ : ∃ g, g = w5.heap.size := ⟨_, rfl⟩
      have Lh := hide (show w.heap.size ≤ h by rw [hh]; exact B5.out.size)
      have Nxh := hide (show x ≠ h by have := Kx5.out.lt; omega)
      have Nph := hide (show p ≠ h by have := Kp5.out.lt; omega)
      have Kx6 := hide (Kx5.out.alloc (.cells #[.int .i64 (m : Int), .int .u8 F.ty, .int .u8 F.fl, .int .i64 F.st] 34))
      have Kp6 := hide (Kp5.out.alloc (.cells #[.int .i64 (m : Int), .int .u8 F.ty, .int .u8 F.fl, .int .i64 F.st] 34))
      have EO6 := hide (EO5.out.alloc (.cells #[.int .i64 (m : Int), .int .u8 F.ty, .int .u8 F.fl, .int .i64 F.st] 34))
      have B6 := hide (B5.out.alloc B5.out.size (.cells #[.int .i64 (m : Int), .int .u8 F.ty, .int .u8 F.fl, .int .i64 F.st] 34))
      rw [← hh] at KN6 ⊢
      generalize w5.alloc (.cells #[.int .i64 (m : Int), .int .u8 F.ty, .int .u8 F.fl, .int .i64 F.st] 34) = w6 at Kx6 Kp6 EO6 B6 KN6 ⊢
      clear hh Kx5 Kp5 EO5 B5
      have mi : (m : Int) = (N : Int) - 9 := by have := HN9.out; omega
      have HMI := hide mi
      clear mi
      refine wp_region_noPanic ?_
      refine wp_region_held_drew (S := fun w' => Below w6.heap.size w6 w') (by kernel_rfl) (Below.refl _ _).drew (fun hS => ?_)
      refine wpAnyH_take (i := 0) (v := ?_) (by simp only [List.getElem?_toArray, List.getElem?_cons_zero] <;> exact rfl) (by kernel_rfl) (by kernel_rfl) (by kernel_rfl) (fun _ _ _ h => h) (Or.inl ⟨by rfl, ?_⟩) hS ?_
      rotate_left
      focus (intro w' hw'; go_simp; all_goals with_reducible rfl)
      try simp only [Act.put, List.setIfInBounds_toArray, List.set_cons_zero, List.set_cons_succ]
      refine wpAnyH_take (i := 1) (v := (.bool false)) (by simp only [List.getElem?_toArray, List.getElem?_cons_succ, List.getElem?_cons_zero] <;> exact rfl) (by kernel_rfl) (by kernel_rfl) (by kernel_rfl) (fun _ _ _ h => h) (Or.inl ⟨by rfl, ?_⟩) hS ?_
      focus (intro w' hw'; go_simp)
      try simp only [Act.put, List.setIfInBounds_toArray, List.set_cons_zero, List.set_cons_succ]
      refine wpAnyH_take (i := 2) (v := ?_) (by simp only [List.getElem?_toArray, List.getElem?_cons_succ, List.getElem?_cons_zero] <;> exact rfl) (by kernel_rfl) (by kernel_rfl) (by kernel_rfl) (fun _ _ _ h => h) (Or.inl ⟨by rfl, ?_⟩) hS ?_
      rotate_left
      focus (intro w' hw'; go_simp; all_goals with_reducible rfl)
      try simp only [Act.put, List.setIfInBounds_toArray, List.set_cons_zero, List.set_cons_succ]
      refine wpAnyH_take (i := 3) (v := ?_) (by simp only [List.getElem?_toArray, List.getElem?_cons_succ, List.getElem?_cons_zero] <;> exact rfl) (by kernel_rfl) (by kernel_rfl) (by kernel_rfl) (fun _ _ _ h => h) (Or.inl ⟨by rfl, ?_⟩) hS ?_
      rotate_left
      focus (intro w' hw'; go_simp; all_goals with_reducible rfl)
      try simp only [Act.put, List.setIfInBounds_toArray, List.set_cons_zero, List.set_cons_succ]
      refine wpAnyH_take (i := 4) (v := (.int .i64 (m : Int))) (by simp only [List.getElem?_toArray, List.getElem?_cons_succ, List.getElem?_cons_zero] <;> exact rfl) (by kernel_rfl) (by kernel_rfl) (by kernel_rfl) (fun _ _ _ h => h) (Or.inl ⟨by rfl, ?_⟩) hS ?_
      focus (intro w' hw'; have kk := (KN6.out.keep hw').cell 0; simp only [List.getElem?_toArray, List.getElem?_cons_zero] at kk; go_simp)
      try simp only [Act.put, List.setIfInBounds_toArray, List.set_cons_zero, List.set_cons_succ]
      refine wpAnyH_take (i := 5) (v := ?_) (by simp only [List.getElem?_toArray, List.getElem?_cons_succ, List.getElem?_cons_zero] <;> exact rfl) (by kernel_rfl) (by kernel_rfl) (by kernel_rfl) (fun _ _ _ h => h) (Or.inl ⟨by rfl, ?_⟩) hS ?_
      rotate_left
      focus (intro w' hw'; go_simp; all_goals with_reducible rfl)
      try simp only [Act.put, List.setIfInBounds_toArray, List.set_cons_zero, List.set_cons_succ]
      refine wpAnyH_take (i := 6) (v := (.int .i64 (N : Int))) (by simp only [List.getElem?_toArray, List.getElem?_cons_succ, List.getElem?_cons_zero] <;> exact rfl) (by kernel_rfl) (by kernel_rfl) (by kernel_rfl) (fun _ _ _ h => h) (Or.inl ⟨by rfl, ?_⟩) hS ?_
      focus (intro w' hw'; go_simp)
      try simp only [Act.put, List.setIfInBounds_toArray, List.set_cons_zero, List.set_cons_succ]
      refine wpAnyH_take (i := 7) (v := (.int .i64 (m : Int))) (by simp only [List.getElem?_toArray, List.getElem?_cons_succ, List.getElem?_cons_zero] <;> exact rfl) (by kernel_rfl) (by kernel_rfl) (by kernel_rfl) (fun _ _ _ h => h) (Or.inl ⟨by rfl, ?_⟩) hS ?_
      focus (intro w' hw'; rw [HMI.out]; have e7 : IntKind.i64.wrap ((N : Int) - 9) = (N : Int) - 9 := IntWalk.i64_in _ (by omega); go_simp)
      try simp only [Act.put, List.setIfInBounds_toArray, List.set_cons_zero, List.set_cons_succ]
      refine wpAnyH_take (i := 8) (v := (.bool false)) (by simp only [List.getElem?_toArray, List.getElem?_cons_succ, List.getElem?_cons_zero] <;> exact rfl) (by kernel_rfl) (by kernel_rfl) (by kernel_rfl) (fun _ _ _ h => h) (Or.inl ⟨by rfl, ?_⟩) hS ?_
      focus (intro w' hw'; go_simp)
      try simp only [Act.put, List.setIfInBounds_toArray, List.set_cons_zero, List.set_cons_succ]
      refine wpAnyH_take (i := 9) (v := ?_) (by simp only [List.getElem?_toArray, List.getElem?_cons_succ, List.getElem?_cons_zero] <;> exact rfl) (by kernel_rfl) (by kernel_rfl) (by kernel_rfl) (fun _ _ _ h => h) (Or.inl ⟨by rfl, ?_⟩) hS ?_
      rotate_left
      focus (intro w' hw'; go_simp; all_goals with_reducible rfl)
      try simp only [Act.put, List.setIfInBounds_toArray, List.set_cons_zero, List.set_cons_succ]
      refine wpAnyH_take (i := 10) (v := ?_) (by simp only [List.getElem?_toArray, List.getElem?_cons_succ, List.getElem?_cons_zero] <;> exact rfl) (by kernel_rfl) (by kernel_rfl) (by kernel_rfl) (fun _ _ _ h => h) (Or.inl ⟨by rfl, ?_⟩) hS ?_
      rotate_left
      focus (intro w' hw'; go_simp; all_goals with_reducible rfl)
      try simp only [Act.put, List.setIfInBounds_toArray, List.set_cons_zero, List.set_cons_succ]
      refine wpAnyH_take (i := 11) (v := ?_) (by simp only [List.getElem?_toArray, List.getElem?_cons_succ, List.getElem?_cons_zero] <;> exact rfl) (by kernel_rfl) (by kernel_rfl) (by kernel_rfl) (fun _ _ _ h => h) (Or.inl ⟨by rfl, ?_⟩) hS ?_
      rotate_left
      focus (intro w' hw'; go_simp; all_goals with_reducible rfl)
      try simp only [Act.put, List.setIfInBounds_toArray, List.set_cons_zero, List.set_cons_succ]
      refine wpAnyH_take (i := 12) (v := (.int .i64 (m : Int))) (by simp only [List.getElem?_toArray, List.getElem?_cons_succ, List.getElem?_cons_zero] <;> exact rfl) (by kernel_rfl) (by kernel_rfl) (by kernel_rfl) (fun _ _ _ h => h) (Or.inl ⟨by rfl, ?_⟩) hS ?_
      focus (intro w' hw'; have kk := (KN6.out.keep hw').cell 0; simp only [List.getElem?_toArray, List.getElem?_cons_zero] at kk; go_simp)
      try simp only [Act.put, List.setIfInBounds_toArray, List.set_cons_zero, List.set_cons_succ]
      refine wpAnyH_take (i := 13) (by simp only [List.getElem?_toArray, List.getElem?_cons_succ, List.getElem?_cons_zero] <;> exact rfl) (by kernel_rfl) (by kernel_rfl) (by kernel_rfl) (fun _ _ _ h => h) (yields_blk (by rfl) 28 (.tmp 5) (by rfl) p (by rfl) 28 cs _ (fun w' hw' => Kp6.out.keep hw') Try.underlying28 rfl HZP.out) hS ?_
      try simp only [Act.put, List.setIfInBounds_toArray, List.set_cons_zero, List.set_cons_succ]
      refine wpAnyH_ready (rs := [14]) (by kernel_rfl) (by simp) ?_
      refine AllReadyH.cons (o := _) (by simp only [List.getElem?_toArray, List.getElem?_cons_succ, List.getElem?_cons_zero] <;> exact rfl) (fun K hK => ?_) ?_
      focus (
        go_simp
        go_at_call 18
        refine (HLn.out _).mono ?_
        rintro e wc1 ⟨rfl, hb⟩
        have hS := hS.trans (hb.mono hS.size)
        clear hb
        go_wp2_with fail
        refine hK.out _ _ hS (fun _ => ?_)
        clear hK K
        try simp only [Act.put, List.setIfInBounds_toArray, List.set_cons_zero, List.set_cons_succ])
      rotate_left
      focus (exact AllReadyH.nil)
      refine wpAnyH_take (i := 15) (v := (.bool false)) (by simp only [List.getElem?_toArray, List.getElem?_cons_succ, List.getElem?_cons_zero] <;> exact rfl) (by kernel_rfl) (by kernel_rfl) (by kernel_rfl) (fun _ _ _ h => h) (Or.inl ⟨by rfl, ?_⟩) hS ?_
      focus (intro w' hw'; go_simp)
      try simp only [Act.put, List.setIfInBounds_toArray, List.set_cons_zero, List.set_cons_succ]
      refine wpAnyH_take (i := 16) (v := ?_) (by simp only [List.getElem?_toArray, List.getElem?_cons_succ, List.getElem?_cons_zero] <;> exact rfl) (by kernel_rfl) (by kernel_rfl) (by kernel_rfl) (fun _ _ _ h => h) (Or.inl ⟨by rfl, ?_⟩) hS ?_
      rotate_left
      focus (intro w' hw'; go_simp; all_goals with_reducible rfl)
      try simp only [Act.put, List.setIfInBounds_toArray, List.set_cons_zero, List.set_cons_succ]
      refine wpAnyH_done (by kernel_rfl) ?_ _
      refine NoPanic.normal ?_
      have hbr := hS
      clear hS
      have hb7 := hbr
      clear hbr
      have Kx7 := hide (Kx6.out.keep hb7)
      have Kp7 := hide (Kp6.out.keep hb7)
      have Kh7 := hide (KN6.out.keep hb7)
      have EO7 := hide (own_keep EO6.out hb7)
      have B7 := hide (B6.out.trans (hb7.mono B6.out.size))
      clear hb7 Kx6 Kp6 KN6 EO6 B6
      have b4 := (Kp7.out.cell 4).trans q4.out
      have Npg : Hid (p ≠ g1) := hide (fun he => own_apart EO7.out Kp7.out (by decide) (by rw [he]; rfl))
      have Nhg : Hid (h ≠ g1) := hide (fun he => own_apart EO7.out Kh7.out (by decide) (by rw [he]; rfl))
      go_upto_if 65 with (fail)
      clear b4
      go_cut [] (fun wx => BackS w wx p h g1 c1 N cs #[.int .i64 (m : Int), .int .u8 F.ty, .int .u8 F.fl, .int .i64 F.st] hd Y0 KP)
      case first =>
        by_cases hK : KP = 0
        · have hKi : ¬ (0 : Int) < (KP : Int) := by omega
          clear hK
          go_wp2
          go_meet
          exact ⟨⟨zs KP, EO7.out, by simp [zs], HZS.out⟩, Kp7.out, Kh7.out, B7.out⟩
        · have hKi : (0 : Int) < (KP : Int) := by omega
          obtain ⟨j, rfl⟩ : ∃ j, KP = j + 1 := ⟨KP - 1, by omega⟩
          obtain ⟨J, hJ⟩ : ∃ J, N = J + 1 := ⟨N - 1, by omega⟩
          have hJ2 : J = (hd ++ Y0).length + j := by have := HN9.out; have := HLEN.out; have := HDL.out; rw [List.length_append]; omega
          subst hJ
          have hf0 := own_frozen EO7.out J
          have hst := own_set EO7.out J (by omega) (.int .u8 s)
          rw [u8s_set, hJ2, ← List.append_assoc, set_zs, List.append_assoc, ← hJ2] at hst
          obtain ⟨u, hu⟩ : ∃ u, (u8s (hd ++ (Y0 ++ zs (j + 1))))[J]? = some u := ⟨_, List.getElem?_eq_getElem (by have := EO7.out.1; rw [this]; omega)⟩
          have hk0 : wc1.cell? ⟨g1, J, none⟩ = some u := by have := EO7.out.cells (g := g1) rfl J u hu; rw [Addr.add_lit, Nat.zero_add] at this; exact this
          have HST := hide hst
          have hJJ : (J : Int) < (J : Int) + 1 := by omega
          clear hst hu hJ2 hK
          go_wp2
          go_meet
          exact ⟨⟨zs j ++ [s], HST.out, by simp [zs], fun y hy => by
            rcases List.mem_append.1 hy with hy | hy
            · simp [zs] at hy; omega
            · simp at hy; omega⟩, Kp7.out.far (p := ⟨g1, J, none⟩) Npg.out _, Kh7.out.far (p := ⟨g1, J, none⟩) Nhg.out _, B7.out.setCell (p := ⟨g1, J, none⟩) (own_lt EO7.out).1 _⟩
      obtain ⟨⟨Zs, ho, hzl, hza⟩, hkp, hkh, hbel⟩ := hcut
      have HO := hide ho
      have Kp := hide hkp
      have Kh := hide hkh
      have BB := hide hbel
      clear ho hkp hkh hbel Kp7 Kh7 EO7 B7
      have hally : AllB (Y0 ++ Zs) := fun y hy => by
        rcases List.mem_append.1 hy with hy | hy
        · exact HALY.out y hy
        · exact hza y hy
      have hallx : AllB (hd ++ (Y0 ++ Zs)) := fun y hy => by
        rcases List.mem_append.1 hy with hy | hy
        · exact HALL.out y (List.mem_append_left _ hy)
        · exact hally y hy
      obtain ⟨ga, hga, hrb⟩ : ∃ ga, ((c1 = 9 ∧ ga = 0) ∨ (¬ c1 = 9 ∧ ga = 9)) ∧ RB wc (some ⟨g1, ga, none⟩) (N - 9) (Y0 ++ Zs) := by
        by_cases hc : c1 = 9
        · have hy0 : Y0 ++ Zs = [] := List.eq_nil_of_length_eq_zero (by have := HN9.out; have := HLEN.out; rw [List.length_append]; omega)
          have hn0 : N - 9 = 0 := by omega
          rw [hy0, hn0]
          exact ⟨0, .inl ⟨hc, rfl⟩, RB.nothing _ _⟩
        · have hrb := RB.cut (rb_of_own HO.out hallx).1 n9
          rw [List.drop_left' HDL.out, Nat.zero_add] at hrb
          exact ⟨9, .inr ⟨hc, rfl⟩, hrb⟩
      have HRB := hide hrb
      have HGA := hide hga
      clear hga
      have hbs := bts_str (Y0 ++ Zs) hally
      have hsz : (strOfNums (Y0 ++ Zs)).size = m := by rw [← bts_len, hbs, List.length_append, hzl]; exact HLEN.out
      have HRE := hide (fun w => fr_Read (m : Int) F.ty F.fl F.st T0.out (strOfNums (Y0 ++ Zs)) (by rw [hsz]; have := HM1.out; omega) w)
      rw [hbs] at HRE
      have HRR := hide (HRD.out Zs hzl hza)
      generalize readR F.ty F.fl F.st (Y0 ++ Zs) = R at HRE HRR
      clear hally hallx hrb hbs hsz hzl hza HRD HALL HALY
      go_upto_region 10 with (fail)
      go_cut [10, 11] (fun s10 s11 wx => BackR w wx p cs R s10 s11)
      case first =>
        refine wp_region_noPanic ?_
        refine wp_region_held_drew (S := fun w' => Below wc.heap.size wc w') (by kernel_rfl) (Below.refl _ _).drew (fun hS => ?_)
        have DK := hide Kp.out.drew
        have DB := hide BB.out.drew
        generalize wc.drew = wd at hS DK DB ⊢
        refine wpAnyH_take (i := 0) (by simp only [List.getElem?_toArray, List.getElem?_cons_zero] <;> exact rfl) (by kernel_rfl) (by kernel_rfl) (by kernel_rfl) (fun _ _ _ h => h) (yields_blk (by rfl) 34 (.tmp 8) (by rfl) h (by rfl) 34 #[.int .i64 (m : Int), .int .u8 F.ty, .int .u8 F.fl, .int .i64 F.st] _ (fun w' hw' => Kh.out.keep hw') Try.underlying34 rfl hd_size) hS ?_
        try simp only [Act.put, List.setIfInBounds_toArray, List.set_cons_zero, List.set_cons_succ]
        refine wpAnyH_take (i := 1) (v := ?_) (by simp only [List.getElem?_toArray, List.getElem?_cons_succ, List.getElem?_cons_zero] <;> exact rfl) (by kernel_rfl) (by kernel_rfl) (by kernel_rfl) (fun _ _ _ h => h) (Or.inl ⟨by rfl, ?_⟩) hS ?_
        rotate_left
        focus (intro w' hw'; go_simp; all_goals with_reducible rfl)
        try simp only [Act.put, List.setIfInBounds_toArray, List.set_cons_zero, List.set_cons_succ]
        refine wpAnyH_take (i := 2) (v := (.slice (some ⟨g1, ga, none⟩) (N - 9) (c1 - 9))) (by simp only [List.getElem?_toArray, List.getElem?_cons_succ, List.getElem?_cons_zero] <;> exact rfl) (by kernel_rfl) (by kernel_rfl) (by kernel_rfl) (fun _ _ _ h => h) (Or.inl ⟨by rfl, ?_⟩) hS ?_
        focus (intro w' hw'; rcases HGA.out with ⟨hc, hg⟩ | ⟨hc, hg⟩ <;> rw [hg] <;> go_simp)
        try simp only [Act.put, List.setIfInBounds_toArray, List.set_cons_zero, List.set_cons_succ]
        refine wpAnyH_take (i := 3) (v := ?_) (by simp only [List.getElem?_toArray, List.getElem?_cons_succ, List.getElem?_cons_zero] <;> exact rfl) (by kernel_rfl) (by kernel_rfl) (by kernel_rfl) (fun _ _ _ h => h) (Or.inl ⟨by rfl, ?_⟩) hS ?_
        rotate_left
        focus (intro w' hw'; have kk := rb_string (c1 - 9) (HRB.out.below hw'); go_simp; all_goals with_reducible rfl)
        try simp only [Act.put, List.setIfInBounds_toArray, List.set_cons_zero, List.set_cons_succ]
        refine wpAnyH_ready (rs := [4, 8, 9]) (by kernel_rfl) (by simp) ?_
        refine AllReadyH.cons (o := _) (by simp only [List.getElem?_toArray, List.getElem?_cons_succ, List.getElem?_cons_zero] <;> exact rfl) (fun K hK => ?_) ?_
        focus (
          go_simp
          go_at_call 9
          refine (HRE.out _).mono ?_
          rintro e wr1 ⟨A1, C1, rfl, hpl, hb⟩
          have hS := hS.trans (hb.mono hS.size)
          have Ep1 := hide (DK.out.keep hb)
          have EL1 := hide hpl
          have EB1 := hide (DB.out.trans (hb.mono DB.out.size))
          clear hb hpl
          go_wp2_with fail
          refine hK.out _ _ hS (fun _ => ?_)
          clear hK K
          try simp only [Act.put, List.setIfInBounds_toArray, List.set_cons_zero, List.set_cons_succ]
          refine wpAnyH_take (i := 5) (v := ?_) (by simp only [List.getElem?_toArray, List.getElem?_cons_succ, List.getElem?_cons_zero] <;> exact rfl) (by kernel_rfl) (by kernel_rfl) (by kernel_rfl) (fun _ _ _ h => h) (Or.inl ⟨by rfl, ?_⟩) hS ?_
          rotate_left
          focus (intro w' hw'; go_simp; all_goals with_reducible rfl)
          try simp only [Act.put, List.setIfInBounds_toArray, List.set_cons_zero, List.set_cons_succ]
          refine wpAnyH_take (i := 6) (v := ?_) (by simp only [List.getElem?_toArray, List.getElem?_cons_succ, List.getElem?_cons_zero] <;> exact rfl) (by kernel_rfl) (by kernel_rfl) (by kernel_rfl) (fun _ _ _ h => h) (Or.inl ⟨by rfl, ?_⟩) hS ?_
          rotate_left
          focus (intro w' hw'; go_simp; all_goals with_reducible rfl)
          try simp only [Act.put, List.setIfInBounds_toArray, List.set_cons_zero, List.set_cons_succ]
          refine wpAnyH_take (i := 7) (v := ?_) (by simp only [List.getElem?_toArray, List.getElem?_cons_succ, List.getElem?_cons_zero] <;> exact rfl) (by kernel_rfl) (by kernel_rfl) (by kernel_rfl) (fun _ _ _ h => h) (Or.inl ⟨by rfl, ?_⟩) hS ?_
          rotate_left
          focus (intro w' hw'; go_simp; all_goals with_reducible rfl)
          try simp only [Act.put, List.setIfInBounds_toArray, List.set_cons_zero, List.set_cons_succ]
          refine wpAnyH_ready (rs := [8, 9]) (by kernel_rfl) (by simp) ?_
          refine AllReadyH.cons (o := _) (by simp only [List.getElem?_toArray, List.getElem?_cons_succ, List.getElem?_cons_zero] <;> exact rfl) (fun K hK => ?_) ?_
          focus (
            go_simp
            have hz2 := hide hS.size
            have hS := hS.alloc hS.size (.cells #[.int .u8 0, .int .u8 0, .int .i64 0, .string ⟨#[]⟩, .int .i64 0, .int .i64 0, .bool false, .int .u8 0, .int .u32 0, .int .i64 0, .int .i64 0, .slice none 0 0] 28)
            refine hK.out _ _ hS (fun _ => ?_)
            have Ep2 := hide (Ep1.out.alloc (.cells #[.int .u8 0, .int .u8 0, .int .i64 0, .string ⟨#[]⟩, .int .i64 0, .int .i64 0, .bool false, .int .u8 0, .int .u32 0, .int .i64 0, .int .i64 0, .slice none 0 0] 28))
            have EL2 := hide (EL1.out.alloc (.cells #[.int .u8 0, .int .u8 0, .int .i64 0, .string ⟨#[]⟩, .int .i64 0, .int .i64 0, .bool false, .int .u8 0, .int .u32 0, .int .i64 0, .int .i64 0, .slice none 0 0] 28))
            have EB2 := hide (EB1.out.alloc EB1.out.size (.cells #[.int .u8 0, .int .u8 0, .int .i64 0, .string ⟨#[]⟩, .int .i64 0, .int .i64 0, .bool false, .int .u8 0, .int .u32 0, .int .i64 0, .int .i64 0, .slice none 0 0] 28))
            have Ey2 := hide (BlkIs.new wr1 28 #[.int .u8 0, .int .u8 0, .int .i64 0, .string ⟨#[]⟩, .int .i64 0, .int .i64 0, .bool false, .int .u8 0, .int .u32 0, .int .i64 0, .int .i64 0, .slice none 0 0])
            obtain ⟨y, hy⟩ : ∃ g, g = wr1.heap.size := ⟨_, rfl⟩
            have Ly := hide (show w.heap.size ≤ y by rw [hy]; exact EB1.out.size)
            have My := hide (show wc.heap.size ≤ y by rw [hy]; exact hz2.out)
            have Npy := hide (show p ≠ y by rw [hy]; have := Ep1.out.lt; omega)
            rw [← hy] at Ey2 ⊢
            generalize wr1.alloc (.cells #[.int .u8 0, .int .u8 0, .int .i64 0, .string ⟨#[]⟩, .int .i64 0, .int .i64 0, .bool false, .int .u8 0, .int .u32 0, .int .i64 0, .int .i64 0, .slice none 0 0] 28) = wa2 at hS Ep2 Ey2 EL2 EB2 ⊢
            clear hy
            clear hK K
            try simp only [Act.put, List.setIfInBounds_toArray, List.set_cons_zero, List.set_cons_succ]
            refine wpAnyH_ready (rs := [9]) (by kernel_rfl) (by simp) ?_
            refine AllReadyH.cons (o := _) (by simp only [List.getElem?_toArray, List.getElem?_cons_succ, List.getElem?_cons_zero] <;> exact rfl) (fun K hK => ?_) ?_
            focus (
              go_simp
              have hz3 := hide hS.size
              have hS := hS.alloc hS.size (.cells #[.int .u32 0, .int .i64 0] 31)
              refine hK.out _ _ hS (fun _ => ?_)
              have Ep3 := hide (Ep2.out.alloc (.cells #[.int .u32 0, .int .i64 0] 31))
              have Ey3 := hide (Ey2.out.alloc (.cells #[.int .u32 0, .int .i64 0] 31))
              have EL3 := hide (EL2.out.alloc (.cells #[.int .u32 0, .int .i64 0] 31))
              have EB3 := hide (EB2.out.alloc EB2.out.size (.cells #[.int .u32 0, .int .i64 0] 31))
              have Ef3 := hide (BlkIs.new wa2 31 #[.int .u32 0, .int .i64 0])
              obtain ⟨fa, hf⟩ : ∃ g, g = wa2.heap.size := ⟨_, rfl⟩
              have Lf := hide (show w.heap.size ≤ fa by rw [hf]; exact EB2.out.size)
              have Mf := hide (show wc.heap.size ≤ fa by rw [hf]; exact hz3.out)
              have Npf := hide (show p ≠ fa by rw [hf]; have := Ep2.out.lt; omega)
              rw [← hf] at Ef3 ⊢
              generalize wa2.alloc (.cells #[.int .u32 0, .int .i64 0] 31) = wa3 at hS Ep3 Ey3 Ef3 EL3 EB3 ⊢
              clear hf
              clear hK K
              try simp only [Act.put, List.setIfInBounds_toArray, List.set_cons_zero, List.set_cons_succ]
              refine wpAnyH_ready (rs := [10]) (by kernel_rfl) (by simp) ?_
              refine AllReadyH.cons (o := _) (by simp only [List.getElem?_toArray, List.getElem?_cons_succ, List.getElem?_cons_zero] <;> exact rfl) (fun K hK => ?_) ?_
              focus (
                refine step_store_blk (by rfl) 28 (.tmp 10) (.tmp 78) (by rfl) y (R.F.cs A1 R.l.length C1) #[.int .u8 0, .int .u8 0, .int .i64 0, .string ⟨#[]⟩, .int .i64 0, .int .i64 0, .bool false, .int .u8 0, .int .u32 0, .int .i64 0, .int .i64 0, .slice none 0 0] 28 (by rfl) (by rfl) Ey3.out fr_sz rfl (Fr.cs_one _ _ _ _) ?_
                have hS := below_setRow hS My.out (R.F.cs A1 R.l.length C1)
                refine hK.out _ _ hS (fun _ => ?_)
                clear hK K
                try simp only [Act.put, List.setIfInBounds_toArray, List.set_cons_zero, List.set_cons_succ]
                refine wpAnyH_ready (rs := [11]) (by kernel_rfl) (by simp) ?_
                refine AllReadyH.cons (o := _) (by simp only [List.getElem?_toArray, List.getElem?_cons_succ, List.getElem?_cons_zero] <;> exact rfl) (fun K hK => ?_) ?_
                focus (
                  refine step_store_blk (by rfl) 31 (.tmp 11) (.tmp 79) (by rfl) fa #[.int .u32 R.code, .int .i64 R.st] #[.int .u32 0, .int .i64 0] 31 (by rfl) (by rfl) (Ef3.out.row_other (Ef3.out.ne_ Ey3.out (by decide)) _) fa_size rfl (fa_one _ _ rfl rfl) ?_
                  have hS := below_setRow hS Mf.out #[.int .u32 R.code, .int .i64 R.st]
                  refine hK.out _ _ hS (fun _ => ?_)
                  clear hK K
                  try simp only [Act.put, List.setIfInBounds_toArray, List.set_cons_zero, List.set_cons_succ]
                  refine wpAnyH_done (by kernel_rfl) ?_ _
                  refine NoPanic.normal ?_
                  clear hS
                  have hr := back_rows Ep3.out Ey3.out Ef3.out Npy.out Npf.out EL3.out EB3.out Ly.out Lf.out (R.F.cs A1 R.l.length C1) #[.int .u32 R.code, .int .i64 R.st]
                  go_wp2
                  go_meet
                  exact ⟨y, fa, A1, C1, rfl, rfl, hr⟩)
                exact AllReadyH.nil)
              exact AllReadyH.nil)
            exact AllReadyH.nil)
          refine AllReadyH.cons (o := _) (by simp only [List.getElem?_toArray, List.getElem?_cons_succ, List.getElem?_cons_zero] <;> exact rfl) (fun K hK => ?_) ?_
          focus (
            go_simp
            have hz4 := hide hS.size
            have hS := hS.alloc hS.size (.cells #[.int .u32 0, .int .i64 0] 31)
            refine hK.out _ _ hS (fun _ => ?_)
            have Ep4 := hide (Ep1.out.alloc (.cells #[.int .u32 0, .int .i64 0] 31))
            have EL4 := hide (EL1.out.alloc (.cells #[.int .u32 0, .int .i64 0] 31))
            have EB4 := hide (EB1.out.alloc EB1.out.size (.cells #[.int .u32 0, .int .i64 0] 31))
            have Ef4 := hide (BlkIs.new wr1 31 #[.int .u32 0, .int .i64 0])
            obtain ⟨fa, hf⟩ : ∃ g, g = wr1.heap.size := ⟨_, rfl⟩
            have Lf := hide (show w.heap.size ≤ fa by rw [hf]; exact EB1.out.size)
            have Mf := hide (show wc.heap.size ≤ fa by rw [hf]; exact hz4.out)
            have Npf := hide (show p ≠ fa by rw [hf]; have := Ep1.out.lt; omega)
            rw [← hf] at Ef4 ⊢
            generalize wr1.alloc (.cells #[.int .u32 0, .int .i64 0] 31) = wa4 at hS Ep4 Ef4 EL4 EB4 ⊢
            clear hf
            clear hK K
            try simp only [Act.put, List.setIfInBounds_toArray, List.set_cons_zero, List.set_cons_succ]
            refine wpAnyH_ready (rs := [8]) (by kernel_rfl) (by simp) ?_
            refine AllReadyH.cons (o := _) (by simp only [List.getElem?_toArray, List.getElem?_cons_succ, List.getElem?_cons_zero] <;> exact rfl) (fun K hK => ?_) ?_
            focus (
              go_simp
              have hz5 := hide hS.size
              have hS := hS.alloc hS.size (.cells #[.int .u8 0, .int .u8 0, .int .i64 0, .string ⟨#[]⟩, .int .i64 0, .int .i64 0, .bool false, .int .u8 0, .int .u32 0, .int .i64 0, .int .i64 0, .slice none 0 0] 28)
              refine hK.out _ _ hS (fun _ => ?_)
              have Ep5 := hide (Ep4.out.alloc (.cells #[.int .u8 0, .int .u8 0, .int .i64 0, .string ⟨#[]⟩, .int .i64 0, .int .i64 0, .bool false, .int .u8 0, .int .u32 0, .int .i64 0, .int .i64 0, .slice none 0 0] 28))
              have Ef5 := hide (Ef4.out.alloc (.cells #[.int .u8 0, .int .u8 0, .int .i64 0, .string ⟨#[]⟩, .int .i64 0, .int .i64 0, .bool false, .int .u8 0, .int .u32 0, .int .i64 0, .int .i64 0, .slice none 0 0] 28))
              have EL5 := hide (EL4.out.alloc (.cells #[.int .u8 0, .int .u8 0, .int .i64 0, .string ⟨#[]⟩, .int .i64 0, .int .i64 0, .bool false, .int .u8 0, .int .u32 0, .int .i64 0, .int .i64 0, .slice none 0 0] 28))
              have EB5 := hide (EB4.out.alloc EB4.out.size (.cells #[.int .u8 0, .int .u8 0, .int .i64 0, .string ⟨#[]⟩, .int .i64 0, .int .i64 0, .bool false, .int .u8 0, .int .u32 0, .int .i64 0, .int .i64 0, .slice none 0 0] 28))
              have Ey5 := hide (BlkIs.new wa4 28 #[.int .u8 0, .int .u8 0, .int .i64 0, .string ⟨#[]⟩, .int .i64 0, .int .i64 0, .bool false, .int .u8 0, .int .u32 0, .int .i64 0, .int .i64 0, .slice none 0 0])
              obtain ⟨y, hy⟩ : ∃ g, g = wa4.heap.size := ⟨_, rfl⟩
              have Ly := hide (show w.heap.size ≤ y by rw [hy]; exact EB4.out.size)
              have My := hide (show wc.heap.size ≤ y by rw [hy]; exact hz5.out)
              have Npy := hide (show p ≠ y by rw [hy]; have := Ep4.out.lt; omega)
              rw [← hy] at Ey5 ⊢
              generalize wa4.alloc (.cells #[.int .u8 0, .int .u8 0, .int .i64 0, .string ⟨#[]⟩, .int .i64 0, .int .i64 0, .bool false, .int .u8 0, .int .u32 0, .int .i64 0, .int .i64 0, .slice none 0 0] 28) = wa5 at hS Ep5 Ey5 Ef5 EL5 EB5 ⊢
              clear hy
              clear hK K
              try simp only [Act.put, List.setIfInBounds_toArray, List.set_cons_zero, List.set_cons_succ]
              refine wpAnyH_ready (rs := [10]) (by kernel_rfl) (by simp) ?_
              refine AllReadyH.cons (o := _) (by simp only [List.getElem?_toArray, List.getElem?_cons_succ, List.getElem?_cons_zero] <;> exact rfl) (fun K hK => ?_) ?_
              focus (
                refine step_store_blk (by rfl) 28 (.tmp 10) (.tmp 78) (by rfl) y (R.F.cs A1 R.l.length C1) #[.int .u8 0, .int .u8 0, .int .i64 0, .string ⟨#[]⟩, .int .i64 0, .int .i64 0, .bool false, .int .u8 0, .int .u32 0, .int .i64 0, .int .i64 0, .slice none 0 0] 28 (by rfl) (by rfl) Ey5.out fr_sz rfl (Fr.cs_one _ _ _ _) ?_
                have hS := below_setRow hS My.out (R.F.cs A1 R.l.length C1)
                refine hK.out _ _ hS (fun _ => ?_)
                clear hK K
                try simp only [Act.put, List.setIfInBounds_toArray, List.set_cons_zero, List.set_cons_succ]
                refine wpAnyH_ready (rs := [11]) (by kernel_rfl) (by simp) ?_
                refine AllReadyH.cons (o := _) (by simp only [List.getElem?_toArray, List.getElem?_cons_succ, List.getElem?_cons_zero] <;> exact rfl) (fun K hK => ?_) ?_
                focus (
                  refine step_store_blk (by rfl) 31 (.tmp 11) (.tmp 79) (by rfl) fa #[.int .u32 R.code, .int .i64 R.st] #[.int .u32 0, .int .i64 0] 31 (by rfl) (by rfl) (Ef5.out.row_other (Ef5.out.ne_ Ey5.out (by decide)) _) fa_size rfl (fa_one _ _ rfl rfl) ?_
                  have hS := below_setRow hS Mf.out #[.int .u32 R.code, .int .i64 R.st]
                  refine hK.out _ _ hS (fun _ => ?_)
                  clear hK K
                  try simp only [Act.put, List.setIfInBounds_toArray, List.set_cons_zero, List.set_cons_succ]
                  refine wpAnyH_done (by kernel_rfl) ?_ _
                  refine NoPanic.normal ?_
                  clear hS
                  have hr := back_rows Ep5.out Ey5.out Ef5.out Npy.out Npf.out EL5.out EB5.out Ly.out Lf.out (R.F.cs A1 R.l.length C1) #[.int .u32 R.code, .int .i64 R.st]
                  go_wp2
                  go_meet
                  exact ⟨y, fa, A1, C1, rfl, rfl, hr⟩)
                exact AllReadyH.nil)
              exact AllReadyH.nil)
            exact AllReadyH.nil)
          exact AllReadyH.nil)
        refine AllReadyH.cons (o := _) (by simp only [List.getElem?_toArray, List.getElem?_cons_succ, List.getElem?_cons_zero] <;> exact rfl) (fun K hK => ?_) ?_
        focus (
          go_simp
          have hz6 := hide hS.size
          have hS := hS.alloc hS.size (.cells #[.int .u8 0, .int .u8 0, .int .i64 0, .string ⟨#[]⟩, .int .i64 0, .int .i64 0, .bool false, .int .u8 0, .int .u32 0, .int .i64 0, .int .i64 0, .slice none 0 0] 28)
          refine hK.out _ _ hS (fun _ => ?_)
          have Ep6 := hide (DK.out.alloc (.cells #[.int .u8 0, .int .u8 0, .int .i64 0, .string ⟨#[]⟩, .int .i64 0, .int .i64 0, .bool false, .int .u8 0, .int .u32 0, .int .i64 0, .int .i64 0, .slice none 0 0] 28))
          have EB6 := hide (DB.out.alloc DB.out.size (.cells #[.int .u8 0, .int .u8 0, .int .i64 0, .string ⟨#[]⟩, .int .i64 0, .int .i64 0, .bool false, .int .u8 0, .int .u32 0, .int .i64 0, .int .i64 0, .slice none 0 0] 28))
          have Ey6 := hide (BlkIs.new wd 28 #[.int .u8 0, .int .u8 0, .int .i64 0, .string ⟨#[]⟩, .int .i64 0, .int .i64 0, .bool false, .int .u8 0, .int .u32 0, .int .i64 0, .int .i64 0, .slice none 0 0])
          obtain ⟨y, hy⟩ : ∃ g, g = wd.heap.size := ⟨_, rfl⟩
          have Ly := hide (show w.heap.size ≤ y by rw [hy]; exact DB.out.size)
          have My := hide (show wc.heap.size ≤ y by rw [hy]; exact hz6.out)
          have Npy := hide (show p ≠ y by rw [hy]; have := DK.out.lt; omega)
          rw [← hy] at Ey6 ⊢
          generalize wd.alloc (.cells #[.int .u8 0, .int .u8 0, .int .i64 0, .string ⟨#[]⟩, .int .i64 0, .int .i64 0, .bool false, .int .u8 0, .int .u32 0, .int .i64 0, .int .i64 0, .slice none 0 0] 28) = wa6 at hS Ep6 Ey6 EB6 ⊢
          clear hy
          clear hK K
          try simp only [Act.put, List.setIfInBounds_toArray, List.set_cons_zero, List.set_cons_succ]
          refine wpAnyH_ready (rs := [4, 9]) (by kernel_rfl) (by simp) ?_
          refine AllReadyH.cons (o := _) (by simp only [List.getElem?_toArray, List.getElem?_cons_succ, List.getElem?_cons_zero] <;> exact rfl) (fun K hK => ?_) ?_
          focus (
            go_simp
            go_at_call 9
            refine (HRE.out _).mono ?_
            rintro e wr7 ⟨A1, C1, rfl, hpl, hb⟩
            have hS := hS.trans (hb.mono hS.size)
            have Ep7 := hide (Ep6.out.keep hb)
            have Ey7 := hide (Ey6.out.keep hb)
            have EL7 := hide hpl
            have EB7 := hide (EB6.out.trans (hb.mono EB6.out.size))
            clear hb hpl
            go_wp2_with fail
            refine hK.out _ _ hS (fun _ => ?_)
            clear hK K
            try simp only [Act.put, List.setIfInBounds_toArray, List.set_cons_zero, List.set_cons_succ]
            refine wpAnyH_take (i := 5) (v := ?_) (by simp only [List.getElem?_toArray, List.getElem?_cons_succ, List.getElem?_cons_zero] <;> exact rfl) (by kernel_rfl) (by kernel_rfl) (by kernel_rfl) (fun _ _ _ h => h) (Or.inl ⟨by rfl, ?_⟩) hS ?_
            rotate_left
            focus (intro w' hw'; go_simp; all_goals with_reducible rfl)
            try simp only [Act.put, List.setIfInBounds_toArray, List.set_cons_zero, List.set_cons_succ]
            refine wpAnyH_take (i := 6) (v := ?_) (by simp only [List.getElem?_toArray, List.getElem?_cons_succ, List.getElem?_cons_zero] <;> exact rfl) (by kernel_rfl) (by kernel_rfl) (by kernel_rfl) (fun _ _ _ h => h) (Or.inl ⟨by rfl, ?_⟩) hS ?_
            rotate_left
            focus (intro w' hw'; go_simp; all_goals with_reducible rfl)
            try simp only [Act.put, List.setIfInBounds_toArray, List.set_cons_zero, List.set_cons_succ]
            refine wpAnyH_take (i := 7) (v := ?_) (by simp only [List.getElem?_toArray, List.getElem?_cons_succ, List.getElem?_cons_zero] <;> exact rfl) (by kernel_rfl) (by kernel_rfl) (by kernel_rfl) (fun _ _ _ h => h) (Or.inl ⟨by rfl, ?_⟩) hS ?_
            rotate_left
            focus (intro w' hw'; go_simp; all_goals with_reducible rfl)
            try simp only [Act.put, List.setIfInBounds_toArray, List.set_cons_zero, List.set_cons_succ]
            refine wpAnyH_ready (rs := [9]) (by kernel_rfl) (by simp) ?_
            refine AllReadyH.cons (o := _) (by simp only [List.getElem?_toArray, List.getElem?_cons_succ, List.getElem?_cons_zero] <;> exact rfl) (fun K hK => ?_) ?_
            focus (
              go_simp
              have hz8 := hide hS.size
              have hS := hS.alloc hS.size (.cells #[.int .u32 0, .int .i64 0] 31)
              refine hK.out _ _ hS (fun _ => ?_)
              have Ep8 := hide (Ep7.out.alloc (.cells #[.int .u32 0, .int .i64 0] 31))
              have Ey8 := hide (Ey7.out.alloc (.cells #[.int .u32 0, .int .i64 0] 31))
              have EL8 := hide (EL7.out.alloc (.cells #[.int .u32 0, .int .i64 0] 31))
              have EB8 := hide (EB7.out.alloc EB7.out.size (.cells #[.int .u32 0, .int .i64 0] 31))
              have Ef8 := hide (BlkIs.new wr7 31 #[.int .u32 0, .int .i64 0])
              obtain ⟨fa, hf⟩ : ∃ g, g = wr7.heap.size := ⟨_, rfl⟩
              have Lf := hide (show w.heap.size ≤ fa by rw [hf]; exact EB7.out.size)
              have Mf := hide (show wc.heap.size ≤ fa by rw [hf]; exact hz8.out)
              have Npf := hide (show p ≠ fa by rw [hf]; have := Ep7.out.lt; omega)
              rw [← hf] at Ef8 ⊢
              generalize wr7.alloc (.cells #[.int .u32 0, .int .i64 0] 31) = wa8 at hS Ep8 Ey8 Ef8 EL8 EB8 ⊢
              clear hf
              clear hK K
              try simp only [Act.put, List.setIfInBounds_toArray, List.set_cons_zero, List.set_cons_succ]
              refine wpAnyH_ready (rs := [10]) (by kernel_rfl) (by simp) ?_
              refine AllReadyH.cons (o := _) (by simp only [List.getElem?_toArray, List.getElem?_cons_succ, List.getElem?_cons_zero] <;> exact rfl) (fun K hK => ?_) ?_
              focus (
                refine step_store_blk (by rfl) 28 (.tmp 10) (.tmp 78) (by rfl) y (R.F.cs A1 R.l.length C1) #[.int .u8 0, .int .u8 0, .int .i64 0, .string ⟨#[]⟩, .int .i64 0, .int .i64 0, .bool false, .int .u8 0, .int .u32 0, .int .i64 0, .int .i64 0, .slice none 0 0] 28 (by rfl) (by rfl) Ey8.out fr_sz rfl (Fr.cs_one _ _ _ _) ?_
                have hS := below_setRow hS My.out (R.F.cs A1 R.l.length C1)
                refine hK.out _ _ hS (fun _ => ?_)
                clear hK K
                try simp only [Act.put, List.setIfInBounds_toArray, List.set_cons_zero, List.set_cons_succ]
                refine wpAnyH_ready (rs := [11]) (by kernel_rfl) (by simp) ?_
                refine AllReadyH.cons (o := _) (by simp only [List.getElem?_toArray, List.getElem?_cons_succ, List.getElem?_cons_zero] <;> exact rfl) (fun K hK => ?_) ?_
                focus (
                  refine step_store_blk (by rfl) 31 (.tmp 11) (.tmp 79) (by rfl) fa #[.int .u32 R.code, .int .i64 R.st] #[.int .u32 0, .int .i64 0] 31 (by rfl) (by rfl) (Ef8.out.row_other (Ef8.out.ne_ Ey8.out (by decide)) _) fa_size rfl (fa_one _ _ rfl rfl) ?_
                  have hS := below_setRow hS Mf.out #[.int .u32 R.code, .int .i64 R.st]
                  refine hK.out _ _ hS (fun _ => ?_)
                  clear hK K
                  try simp only [Act.put, List.setIfInBounds_toArray, List.set_cons_zero, List.set_cons_succ]
                  refine wpAnyH_done (by kernel_rfl) ?_ _
                  refine NoPanic.normal ?_
                  clear hS
                  have hr := back_rows Ep8.out Ey8.out Ef8.out Npy.out Npf.out EL8.out EB8.out Ly.out Lf.out (R.F.cs A1 R.l.length C1) #[.int .u32 R.code, .int .i64 R.st]
                  go_wp2
                  go_meet
                  exact ⟨y, fa, A1, C1, rfl, rfl, hr⟩)
                exact AllReadyH.nil)
              exact AllReadyH.nil)
            exact AllReadyH.nil)
          refine AllReadyH.cons (o := _) (by simp only [List.getElem?_toArray, List.getElem?_cons_succ, List.getElem?_cons_zero] <;> exact rfl) (fun K hK => ?_) ?_
          focus (
            go_simp
            have hz9 := hide hS.size
            have hS := hS.alloc hS.size (.cells #[.int .u32 0, .int .i64 0] 31)
            refine hK.out _ _ hS (fun _ => ?_)
            have Ep9 := hide (Ep6.out.alloc (.cells #[.int .u32 0, .int .i64 0] 31))
            have Ey9 := hide (Ey6.out.alloc (.cells #[.int .u32 0, .int .i64 0] 31))
            have EB9 := hide (EB6.out.alloc EB6.out.size (.cells #[.int .u32 0, .int .i64 0] 31))
            have Ef9 := hide (BlkIs.new wa6 31 #[.int .u32 0, .int .i64 0])
            obtain ⟨fa, hf⟩ : ∃ g, g = wa6.heap.size := ⟨_, rfl⟩
            have Lf := hide (show w.heap.size ≤ fa by rw [hf]; exact EB6.out.size)
            have Mf := hide (show wc.heap.size ≤ fa by rw [hf]; exact hz9.out)
            have Npf := hide (show p ≠ fa by rw [hf]; have := Ep6.out.lt; omega)
            rw [← hf] at Ef9 ⊢
            generalize wa6.alloc (.cells #[.int .u32 0, .int .i64 0] 31) = wa9 at hS Ep9 Ey9 Ef9 EB9 ⊢
            clear hf
            clear hK K
            try simp only [Act.put, List.setIfInBounds_toArray, List.set_cons_zero, List.set_cons_succ]
            refine wpAnyH_ready (rs := [4]) (by kernel_rfl) (by simp) ?_
            refine AllReadyH.cons (o := _) (by simp only [List.getElem?_toArray, List.getElem?_cons_succ, List.getElem?_cons_zero] <;> exact rfl) (fun K hK => ?_) ?_
            focus (
              go_simp
              go_at_call 9
              refine (HRE.out _).mono ?_
              rintro e wr10 ⟨A1, C1, rfl, hpl, hb⟩
              have hS := hS.trans (hb.mono hS.size)
              have Ep10 := hide (Ep9.out.keep hb)
              have Ey10 := hide (Ey9.out.keep hb)
              have Ef10 := hide (Ef9.out.keep hb)
              have EL10 := hide hpl
              have EB10 := hide (EB9.out.trans (hb.mono EB9.out.size))
              clear hb hpl
              go_wp2_with fail
              refine hK.out _ _ hS (fun _ => ?_)
              clear hK K
              try simp only [Act.put, List.setIfInBounds_toArray, List.set_cons_zero, List.set_cons_succ]
              refine wpAnyH_take (i := 5) (v := ?_) (by simp only [List.getElem?_toArray, List.getElem?_cons_succ, List.getElem?_cons_zero] <;> exact rfl) (by kernel_rfl) (by kernel_rfl) (by kernel_rfl) (fun _ _ _ h => h) (Or.inl ⟨by rfl, ?_⟩) hS ?_
              rotate_left
              focus (intro w' hw'; go_simp; all_goals with_reducible rfl)
              try simp only [Act.put, List.setIfInBounds_toArray, List.set_cons_zero, List.set_cons_succ]
              refine wpAnyH_take (i := 6) (v := ?_) (by simp only [List.getElem?_toArray, List.getElem?_cons_succ, List.getElem?_cons_zero] <;> exact rfl) (by kernel_rfl) (by kernel_rfl) (by kernel_rfl) (fun _ _ _ h => h) (Or.inl ⟨by rfl, ?_⟩) hS ?_
              rotate_left
              focus (intro w' hw'; go_simp; all_goals with_reducible rfl)
              try simp only [Act.put, List.setIfInBounds_toArray, List.set_cons_zero, List.set_cons_succ]
              refine wpAnyH_take (i := 7) (v := ?_) (by simp only [List.getElem?_toArray, List.getElem?_cons_succ, List.getElem?_cons_zero] <;> exact rfl) (by kernel_rfl) (by kernel_rfl) (by kernel_rfl) (fun _ _ _ h => h) (Or.inl ⟨by rfl, ?_⟩) hS ?_
              rotate_left
              focus (intro w' hw'; go_simp; all_goals with_reducible rfl)
              try simp only [Act.put, List.setIfInBounds_toArray, List.set_cons_zero, List.set_cons_succ]
              refine wpAnyH_ready (rs := [10]) (by kernel_rfl) (by simp) ?_
              refine AllReadyH.cons (o := _) (by simp only [List.getElem?_toArray, List.getElem?_cons_succ, List.getElem?_cons_zero] <;> exact rfl) (fun K hK => ?_) ?_
              focus (
                refine step_store_blk (by rfl) 28 (.tmp 10) (.tmp 78) (by rfl) y (R.F.cs A1 R.l.length C1) #[.int .u8 0, .int .u8 0, .int .i64 0, .string ⟨#[]⟩, .int .i64 0, .int .i64 0, .bool false, .int .u8 0, .int .u32 0, .int .i64 0, .int .i64 0, .slice none 0 0] 28 (by rfl) (by rfl) Ey10.out fr_sz rfl (Fr.cs_one _ _ _ _) ?_
                have hS := below_setRow hS My.out (R.F.cs A1 R.l.length C1)
                refine hK.out _ _ hS (fun _ => ?_)
                clear hK K
                try simp only [Act.put, List.setIfInBounds_toArray, List.set_cons_zero, List.set_cons_succ]
                refine wpAnyH_ready (rs := [11]) (by kernel_rfl) (by simp) ?_
                refine AllReadyH.cons (o := _) (by simp only [List.getElem?_toArray, List.getElem?_cons_succ, List.getElem?_cons_zero] <;> exact rfl) (fun K hK => ?_) ?_
                focus (
                  refine step_store_blk (by rfl) 31 (.tmp 11) (.tmp 79) (by rfl) fa #[.int .u32 R.code, .int .i64 R.st] #[.int .u32 0, .int .i64 0] 31 (by rfl) (by rfl) (Ef10.out.row_other (Ef10.out.ne_ Ey10.out (by decide)) _) fa_size rfl (fa_one _ _ rfl rfl) ?_
                  have hS := below_setRow hS Mf.out #[.int .u32 R.code, .int .i64 R.st]
                  refine hK.out _ _ hS (fun _ => ?_)
                  clear hK K
                  try simp only [Act.put, List.setIfInBounds_toArray, List.set_cons_zero, List.set_cons_succ]
                  refine wpAnyH_done (by kernel_rfl) ?_ _
                  refine NoPanic.normal ?_
                  clear hS
                  have hr := back_rows Ep10.out Ey10.out Ef10.out Npy.out Npf.out EL10.out EB10.out Ly.out Lf.out (R.F.cs A1 R.l.length C1) #[.int .u32 R.code, .int .i64 R.st]
                  go_wp2
                  go_meet
                  exact ⟨y, fa, A1, C1, rfl, rfl, hr⟩)
                exact AllReadyH.nil)
              exact AllReadyH.nil)
            exact AllReadyH.nil)
          exact AllReadyH.nil)
        refine AllReadyH.cons (o := _) (by simp only [List.getElem?_toArray, List.getElem?_cons_succ, List.getElem?_cons_zero] <;> exact rfl) (fun K hK => ?_) ?_
        focus (
          go_simp
          have hz11 := hide hS.size
          have hS := hS.alloc hS.size (.cells #[.int .u32 0, .int .i64 0] 31)
          refine hK.out _ _ hS (fun _ => ?_)
          have Ep11 := hide (DK.out.alloc (.cells #[.int .u32 0, .int .i64 0] 31))
          have EB11 := hide (DB.out.alloc DB.out.size (.cells #[.int .u32 0, .int .i64 0] 31))
          have Ef11 := hide (BlkIs.new wd 31 #[.int .u32 0, .int .i64 0])
          obtain ⟨fa, hf⟩ : ∃ g, g = wd.heap.size := ⟨_, rfl⟩
          have Lf := hide (show w.heap.size ≤ fa by rw [hf]; exact DB.out.size)
          have Mf := hide (show wc.heap.size ≤ fa by rw [hf]; exact hz11.out)
          have Npf := hide (show p ≠ fa by rw [hf]; have := DK.out.lt; omega)
          rw [← hf] at Ef11 ⊢
          generalize wd.alloc (.cells #[.int .u32 0, .int .i64 0] 31) = wa11 at hS Ep11 Ef11 EB11 ⊢
          clear hf
          clear hK K
          try simp only [Act.put, List.setIfInBounds_toArray, List.set_cons_zero, List.set_cons_succ]
          refine wpAnyH_ready (rs := [4, 8]) (by kernel_rfl) (by simp) ?_
          refine AllReadyH.cons (o := _) (by simp only [List.getElem?_toArray, List.getElem?_cons_succ, List.getElem?_cons_zero] <;> exact rfl) (fun K hK => ?_) ?_
          focus (
            go_simp
            go_at_call 9
            refine (HRE.out _).mono ?_
            rintro e wr12 ⟨A1, C1, rfl, hpl, hb⟩
            have hS := hS.trans (hb.mono hS.size)
            have Ep12 := hide (Ep11.out.keep hb)
            have Ef12 := hide (Ef11.out.keep hb)
            have EL12 := hide hpl
            have EB12 := hide (EB11.out.trans (hb.mono EB11.out.size))
            clear hb hpl
            go_wp2_with fail
            refine hK.out _ _ hS (fun _ => ?_)
            clear hK K
            try simp only [Act.put, List.setIfInBounds_toArray, List.set_cons_zero, List.set_cons_succ]
            refine wpAnyH_take (i := 5) (v := ?_) (by simp only [List.getElem?_toArray, List.getElem?_cons_succ, List.getElem?_cons_zero] <;> exact rfl) (by kernel_rfl) (by kernel_rfl) (by kernel_rfl) (fun _ _ _ h => h) (Or.inl ⟨by rfl, ?_⟩) hS ?_
            rotate_left
            focus (intro w' hw'; go_simp; all_goals with_reducible rfl)
            try simp only [Act.put, List.setIfInBounds_toArray, List.set_cons_zero, List.set_cons_succ]
            refine wpAnyH_take (i := 6) (v := ?_) (by simp only [List.getElem?_toArray, List.getElem?_cons_succ, List.getElem?_cons_zero] <;> exact rfl) (by kernel_rfl) (by kernel_rfl) (by kernel_rfl) (fun _ _ _ h => h) (Or.inl ⟨by rfl, ?_⟩) hS ?_
            rotate_left
            focus (intro w' hw'; go_simp; all_goals with_reducible rfl)
            try simp only [Act.put, List.setIfInBounds_toArray, List.set_cons_zero, List.set_cons_succ]
            refine wpAnyH_take (i := 7) (v := ?_) (by simp only [List.getElem?_toArray, List.getElem?_cons_succ, List.getElem?_cons_zero] <;> exact rfl) (by kernel_rfl) (by kernel_rfl) (by kernel_rfl) (fun _ _ _ h => h) (Or.inl ⟨by rfl, ?_⟩) hS ?_
            rotate_left
            focus (intro w' hw'; go_simp; all_goals with_reducible rfl)
            try simp only [Act.put, List.setIfInBounds_toArray, List.set_cons_zero, List.set_cons_succ]
            refine wpAnyH_ready (rs := [8]) (by kernel_rfl) (by simp) ?_
            refine AllReadyH.cons (o := _) (by simp only [List.getElem?_toArray, List.getElem?_cons_succ, List.getElem?_cons_zero] <;> exact rfl) (fun K hK => ?_) ?_
            focus (
              go_simp
              have hz13 := hide hS.size
              have hS := hS.alloc hS.size (.cells #[.int .u8 0, .int .u8 0, .int .i64 0, .string ⟨#[]⟩, .int .i64 0, .int .i64 0, .bool false, .int .u8 0, .int .u32 0, .int .i64 0, .int .i64 0, .slice none 0 0] 28)
              refine hK.out _ _ hS (fun _ => ?_)
              have Ep13 := hide (Ep12.out.alloc (.cells #[.int .u8 0, .int .u8 0, .int .i64 0, .string ⟨#[]⟩, .int .i64 0, .int .i64 0, .bool false, .int .u8 0, .int .u32 0, .int .i64 0, .int .i64 0, .slice none 0 0] 28))
              have Ef13 := hide (Ef12.out.alloc (.cells #[.int .u8 0, .int .u8 0, .int .i64 0, .string ⟨#[]⟩, .int .i64 0, .int .i64 0, .bool false, .int .u8 0, .int .u32 0, .int .i64 0, .int .i64 0, .slice none 0 0] 28))
              have EL13 := hide (EL12.out.alloc (.cells #[.int .u8 0, .int .u8 0, .int .i64 0, .string ⟨#[]⟩, .int .i64 0, .int .i64 0, .bool false, .int .u8 0, .int .u32 0, .int .i64 0, .int .i64 0, .slice none 0 0] 28))
              have EB13 := hide (EB12.out.alloc EB12.out.size (.cells #[.int .u8 0, .int .u8 0, .int .i64 0, .string ⟨#[]⟩, .int .i64 0, .int .i64 0, .bool false, .int .u8 0, .int .u32 0, .int .i64 0, .int .i64 0, .slice none 0 0] 28))
              have Ey13 := hide (BlkIs.new wr12 28 #[.int .u8 0, .int .u8 0, .int .i64 0, .string ⟨#[]⟩, .int .i64 0, .int .i64 0, .bool false, .int .u8 0, .int .u32 0, .int .i64 0, .int .i64 0, .slice none 0 0])
              obtain ⟨y, hy⟩ : ∃ g, g = wr12.heap.size := ⟨_, rfl⟩
              have Ly := hide (show w.heap.size ≤ y by rw [hy]; exact EB12.out.size)
              have My := hide (show wc.heap.size ≤ y by rw [hy]; exact hz13.out)
              have Npy := hide (show p ≠ y by rw [hy]; have := Ep12.out.lt; omega)
              rw [← hy] at Ey13 ⊢
              generalize wr12.alloc (.cells #[.int .u8 0, .int .u8 0, .int .i64 0, .string ⟨#[]⟩, .int .i64 0, .int .i64 0, .bool false, .int .u8 0, .int .u32 0, .int .i64 0, .int .i64 0, .slice none 0 0] 28) = wa13 at hS Ep13 Ey13 Ef13 EL13 EB13 ⊢
              clear hy
              clear hK K
              try simp only [Act.put, List.setIfInBounds_toArray, List.set_cons_zero, List.set_cons_succ]
              refine wpAnyH_ready (rs := [10]) (by kernel_rfl) (by simp) ?_
              refine AllReadyH.cons (o := _) (by simp only [List.getElem?_toArray, List.getElem?_cons_succ, List.getElem?_cons_zero] <;> exact rfl) (fun K hK => ?_) ?_
              focus (
                refine step_store_blk (by rfl) 28 (.tmp 10) (.tmp 78) (by rfl) y (R.F.cs A1 R.l.length C1) #[.int .u8 0, .int .u8 0, .int .i64 0, .string ⟨#[]⟩, .int .i64 0, .int .i64 0, .bool false, .int .u8 0, .int .u32 0, .int .i64 0, .int .i64 0, .slice none 0 0] 28 (by rfl) (by rfl) Ey13.out fr_sz rfl (Fr.cs_one _ _ _ _) ?_
                have hS := below_setRow hS My.out (R.F.cs A1 R.l.length C1)
                refine hK.out _ _ hS (fun _ => ?_)
                clear hK K
                try simp only [Act.put, List.setIfInBounds_toArray, List.set_cons_zero, List.set_cons_succ]
                refine wpAnyH_ready (rs := [11]) (by kernel_rfl) (by simp) ?_
                refine AllReadyH.cons (o := _) (by simp only [List.getElem?_toArray, List.getElem?_cons_succ, List.getElem?_cons_zero] <;> exact rfl) (fun K hK => ?_) ?_
                focus (
                  refine step_store_blk (by rfl) 31 (.tmp 11) (.tmp 79) (by rfl) fa #[.int .u32 R.code, .int .i64 R.st] #[.int .u32 0, .int .i64 0] 31 (by rfl) (by rfl) (Ef13.out.row_other (Ef13.out.ne_ Ey13.out (by decide)) _) fa_size rfl (fa_one _ _ rfl rfl) ?_
                  have hS := below_setRow hS Mf.out #[.int .u32 R.code, .int .i64 R.st]
                  refine hK.out _ _ hS (fun _ => ?_)
                  clear hK K
                  try simp only [Act.put, List.setIfInBounds_toArray, List.set_cons_zero, List.set_cons_succ]
                  refine wpAnyH_done (by kernel_rfl) ?_ _
                  refine NoPanic.normal ?_
                  clear hS
                  have hr := back_rows Ep13.out Ey13.out Ef13.out Npy.out Npf.out EL13.out EB13.out Ly.out Lf.out (R.F.cs A1 R.l.length C1) #[.int .u32 R.code, .int .i64 R.st]
                  go_wp2
                  go_meet
                  exact ⟨y, fa, A1, C1, rfl, rfl, hr⟩)
                exact AllReadyH.nil)
              exact AllReadyH.nil)
            exact AllReadyH.nil)
          refine AllReadyH.cons (o := _) (by simp only [List.getElem?_toArray, List.getElem?_cons_succ, List.getElem?_cons_zero] <;> exact rfl) (fun K hK => ?_) ?_
          focus (
            go_simp
            have hz14 := hide hS.size
            have hS := hS.alloc hS.size (.cells #[.int .u8 0, .int .u8 0, .int .i64 0, .string ⟨#[]⟩, .int .i64 0, .int .i64 0, .bool false, .int .u8 0, .int .u32 0, .int .i64 0, .int .i64 0, .slice none 0 0] 28)
            refine hK.out _ _ hS (fun _ => ?_)
            have Ep14 := hide (Ep11.out.alloc (.cells #[.int .u8 0, .int .u8 0, .int .i64 0, .string ⟨#[]⟩, .int .i64 0, .int .i64 0, .bool false, .int .u8 0, .int .u32 0, .int .i64 0, .int .i64 0, .slice none 0 0] 28))
            have Ef14 := hide (Ef11.out.alloc (.cells #[.int .u8 0, .int .u8 0, .int .i64 0, .string ⟨#[]⟩, .int .i64 0, .int .i64 0, .bool false, .int .u8 0, .int .u32 0, .int .i64 0, .int .i64 0, .slice none 0 0] 28))
            have EB14 := hide (EB11.out.alloc EB11.out.size (.cells #[.int .u8 0, .int .u8 0, .int .i64 0, .string ⟨#[]⟩, .int .i64 0, .int .i64 0, .bool false, .int .u8 0, .int .u32 0, .int .i64 0, .int .i64 0, .slice none 0 0] 28))
            have Ey14 := hide (BlkIs.new wa11 28 #[.int .u8 0, .int .u8 0, .int .i64 0, .string ⟨#[]⟩, .int .i64 0, .int .i64 0, .bool false, .int .u8 0, .int .u32 0, .int .i64 0, .int .i64 0, .slice none 0 0])
            obtain ⟨y, hy⟩ : ∃ g, g = wa11.heap.size := ⟨_, rfl⟩
            have Ly := hide (show w.heap.size ≤ y by rw [hy]; exact EB11.out.size)
            have My := hide (show wc.heap.size ≤ y by rw [hy]; exact hz14.out)
            have Npy := hide (show p ≠ y by rw [hy]; have := Ep11.out.lt; omega)
            rw [← hy] at Ey14 ⊢
            generalize wa11.alloc (.cells #[.int .u8 0, .int .u8 0, .int .i64 0, .string ⟨#[]⟩, .int .i64 0, .int .i64 0, .bool false, .int .u8 0, .int .u32 0, .int .i64 0, .int .i64 0, .slice none 0 0] 28) = wa14 at hS Ep14 Ey14 Ef14 EB14 ⊢
            clear hy
            clear hK K
            try simp only [Act.put, List.setIfInBounds_toArray, List.set_cons_zero, List.set_cons_succ]
            refine wpAnyH_ready (rs := [4]) (by kernel_rfl) (by simp) ?_
            refine AllReadyH.cons (o := _) (by simp only [List.getElem?_toArray, List.getElem?_cons_succ, List.getElem?_cons_zero] <;> exact rfl) (fun K hK => ?_) ?_
            focus (
              go_simp
              go_at_call 9
              refine (HRE.out _).mono ?_
              rintro e wr15 ⟨A1, C1, rfl, hpl, hb⟩
              have hS := hS.trans (hb.mono hS.size)
              have Ep15 := hide (Ep14.out.keep hb)
              have Ey15 := hide (Ey14.out.keep hb)
              have Ef15 := hide (Ef14.out.keep hb)
              have EL15 := hide hpl
              have EB15 := hide (EB14.out.trans (hb.mono EB14.out.size))
              clear hb hpl
              go_wp2_with fail
              refine hK.out _ _ hS (fun _ => ?_)
              clear hK K
              try simp only [Act.put, List.setIfInBounds_toArray, List.set_cons_zero, List.set_cons_succ]
              refine wpAnyH_take (i := 5) (v := ?_) (by simp only [List.getElem?_toArray, List.getElem?_cons_succ, List.getElem?_cons_zero] <;> exact rfl) (by kernel_rfl) (by kernel_rfl) (by kernel_rfl) (fun _ _ _ h => h) (Or.inl ⟨by rfl, ?_⟩) hS ?_
              rotate_left
              focus (intro w' hw'; go_simp; all_goals with_reducible rfl)
              try simp only [Act.put, List.setIfInBounds_toArray, List.set_cons_zero, List.set_cons_succ]
              refine wpAnyH_take (i := 6) (v := ?_) (by simp only [List.getElem?_toArray, List.getElem?_cons_succ, List.getElem?_cons_zero] <;> exact rfl) (by kernel_rfl) (by kernel_rfl) (by kernel_rfl) (fun _ _ _ h => h) (Or.inl ⟨by rfl, ?_⟩) hS ?_
              rotate_left
              focus (intro w' hw'; go_simp; all_goals with_reducible rfl)
              try simp only [Act.put, List.setIfInBounds_toArray, List.set_cons_zero, List.set_cons_succ]
              refine wpAnyH_take (i := 7) (v := ?_) (by simp only [List.getElem?_toArray, List.getElem?_cons_succ, List.getElem?_cons_zero] <;> exact rfl) (by kernel_rfl) (by kernel_rfl) (by kernel_rfl) (fun _ _ _ h => h) (Or.inl ⟨by rfl, ?_⟩) hS ?_
              rotate_left
              focus (intro w' hw'; go_simp; all_goals with_reducible rfl)
              try simp only [Act.put, List.setIfInBounds_toArray, List.set_cons_zero, List.set_cons_succ]
              refine wpAnyH_ready (rs := [10]) (by kernel_rfl) (by simp) ?_
              refine AllReadyH.cons (o := _) (by simp only [List.getElem?_toArray, List.getElem?_cons_succ, List.getElem?_cons_zero] <;> exact rfl) (fun K hK => ?_) ?_
              focus (
                refine step_store_blk (by rfl) 28 (.tmp 10) (.tmp 78) (by rfl) y (R.F.cs A1 R.l.length C1) #[.int .u8 0, .int .u8 0, .int .i64 0, .string ⟨#[]⟩, .int .i64 0, .int .i64 0, .bool false, .int .u8 0, .int .u32 0, .int .i64 0, .int .i64 0, .slice none 0 0] 28 (by rfl) (by rfl) Ey15.out fr_sz rfl (Fr.cs_one _ _ _ _) ?_
                have hS := below_setRow hS My.out (R.F.cs A1 R.l.length C1)
                refine hK.out _ _ hS (fun _ => ?_)
                clear hK K
                try simp only [Act.put, List.setIfInBounds_toArray, List.set_cons_zero, List.set_cons_succ]
                refine wpAnyH_ready (rs := [11]) (by kernel_rfl) (by simp) ?_
                refine AllReadyH.cons (o := _) (by simp only [List.getElem?_toArray, List.getElem?_cons_succ, List.getElem?_cons_zero] <;> exact rfl) (fun K hK => ?_) ?_
                focus (
                  refine step_store_blk (by rfl) 31 (.tmp 11) (.tmp 79) (by rfl) fa #[.int .u32 R.code, .int .i64 R.st] #[.int .u32 0, .int .i64 0] 31 (by rfl) (by rfl) (Ef15.out.row_other (Ef15.out.ne_ Ey15.out (by decide)) _) fa_size rfl (fa_one _ _ rfl rfl) ?_
                  have hS := below_setRow hS Mf.out #[.int .u32 R.code, .int .i64 R.st]
                  refine hK.out _ _ hS (fun _ => ?_)
                  clear hK K
                  try simp only [Act.put, List.setIfInBounds_toArray, List.set_cons_zero, List.set_cons_succ]
                  refine wpAnyH_done (by kernel_rfl) ?_ _
                  refine NoPanic.normal ?_
                  clear hS
                  have hr := back_rows Ep15.out Ey15.out Ef15.out Npy.out Npf.out EL15.out EB15.out Ly.out Lf.out (R.F.cs A1 R.l.length C1) #[.int .u32 R.code, .int .i64 R.st]
                  go_wp2
                  go_meet
                  exact ⟨y, fa, A1, C1, rfl, rfl, hr⟩)
                exact AllReadyH.nil)
              exact AllReadyH.nil)
            exact AllReadyH.nil)
          exact AllReadyH.nil)
        exact AllReadyH.nil
      obtain ⟨y, fa, A1, C1, rfl, rfl, hkp, hky, hkf, hpl, hbel⟩ := hcut
      have K1 := hide hkp
      have K2 := hide hky
      have K3 := hide hkf
      have L1 := hide hpl
      have B1 := hide hbel
      clear hkp hky hkf hpl hbel Kp Kh BB HO HRB HRE
      rcases HRR.out with hR | ⟨fc, fs, hfc, hR⟩
      · subst hR
        clear HRR
        go_wp2_with (first | (refine wpList_load_want (by rfl) 31 (.tmp 11) rfl fa rfl 31 #[.int .u32 0, .int .i64 0] _ K3.out Try.underlying31 rfl fa_size ?_) | (refine wpList_built rfl 31 #[] rfl #[.int .u32 0, .int .i64 0] (by kernel_rfl) ?_) | (refine wpList_load_want (by rfl) 28 (.tmp 5) rfl p rfl 28 cs _ K1.out Try.underlying28 rfl HZP.out ?_) | (refine wpList_load_want (by rfl) 28 (.tmp 10) rfl y rfl 28 (F.cs A1 l.length C1) _ K2.out Try.underlying28 rfl fr_sz ?_))
        refine (HSM.out.same _ A1 C1 (HPF.out.keepB B1.out LTF.out) L1.out).mono ?_
        rintro e w8 ⟨rfl, hb8⟩
        have Kp8 := hide (K1.out.keep hb8)
        have Ky8 := hide (K2.out.keep hb8)
        have Kf8 := hide (K3.out.keep hb8)
        have EL8 := hide (L1.out.keep hb8)
        have B8 := hide (B1.out.trans (hb8.mono B1.out.size))
        clear hb8 K1 K2 K3 L1 B1
        go_wp2_with (first | (refine wpList_load_want (by rfl) 28 (.tmp 10) rfl y rfl 28 (F.cs A1 l.length C1) _ Ky8.out Try.underlying28 rfl fr_sz ?_))
        refine (HSM.out.chk1 _ A1 C1).mono ?_
        rintro e w9 ⟨rfl, hb9⟩
        have Kp9 := hide (Kp8.out.keep hb9)
        have Ky9 := hide (Ky8.out.keep hb9)
        have Kf9 := hide (Kf8.out.keep hb9)
        have EL9 := hide (EL8.out.keep hb9)
        have B9 := hide (B8.out.trans (hb9.mono B8.out.size))
        clear hb9 Kp8 Ky8 Kf8 EL8 B8
        go_wp2_with fail
        refine (aw_frame _).mono ?_
        rintro e w10 ⟨rfl, hb10⟩
        have Kp10 := hide (Kp9.out.keep hb10)
        have Ky10 := hide (Ky9.out.keep hb10)
        have Kf10 := hide (Kf9.out.keep hb10)
        have EL10 := hide (EL9.out.keep hb10)
        have B10 := hide (B9.out.trans (hb10.mono B9.out.size))
        clear hb10 Kp9 Ky9 Kf9 EL9 B9
        go_wp2_with fail
        go_ret
        exact ⟨rfl, B10.out⟩
      · subst hR
        clear HRR
        have hfc2 : (fc == 0) = false := by simp [hfc]
        have hfc3 : (fc != 0) = true := by simp [hfc]
        go_wp2_with (first | (refine wpList_load_want (by rfl) 31 (.tmp 11) rfl fa rfl 31 #[.int .u32 fc, .int .i64 fs] _ K3.out Try.underlying31 rfl fa_size ?_) | (refine wpList_built rfl 31 #[] rfl #[.int .u32 0, .int .i64 0] (by kernel_rfl) ?_) | (refine wpList_built rfl 28 #[] rfl #[.int .u8 0, .int .u8 0, .int .i64 0, .string ⟨#[]⟩, .int .i64 0, .int .i64 0, .bool false, .int .u8 0, .int .u32 0, .int .i64 0, .int .i64 0, .slice none 0 0] (by kernel_rfl) ?_) | (refine wpList_load_want (by rfl) 28 (.tmp 10) rfl y rfl 28 (Fr.zero.cs A1 ([] : List Pr).length C1) _ K2.out Try.underlying28 rfl fr_sz ?_))
        refine (same_zero A1 C1 _ L1.out).mono ?_
        rintro e w8 ⟨rfl, hb8⟩
        have Kp8 := hide (K1.out.keep hb8)
        have Ky8 := hide (K2.out.keep hb8)
        have Kf8 := hide (K3.out.keep hb8)
        have EL8 := hide (L1.out.keep hb8)
        have B8 := hide (B1.out.trans (hb8.mono B1.out.size))
        clear hb8 K1 K2 K3 L1 B1
        go_wp2_with fail
        refine (aw_frame _).mono ?_
        rintro e w9 ⟨rfl, hb9⟩
        have Kp9 := hide (Kp8.out.keep hb9)
        have Ky9 := hide (Ky8.out.keep hb9)
        have Kf9 := hide (Kf8.out.keep hb9)
        have EL9 := hide (EL8.out.keep hb9)
        have B9 := hide (B8.out.trans (hb9.mono B8.out.size))
        clear hb9 Kp8 Ky8 Kf8 EL8 B8
        go_wp2_with fail
        go_ret
        exact ⟨rfl, B9.out⟩
    · clear hlf HM
      have hput : F.put l = [] := by rw [Fr.put, HPF.out.len, if_neg hk]
      have OE := hide (show w4.ownsRow _ 5 1 v1 0 [] by have := EA4.out; rw [hput] at this; exact this)
      obtain ⟨EA, EC, rfl⟩ := own_form OE.out
      have hk1 : (F.chk n == 0) = false := by simp [hk]
      have hk2 : (F.chk n != 0) = true := by simp [hk]
      clear hput OE hk EA4
      skip
      go_wp2_with (refine wpList_load_want (by rfl) 28 (.tmp 5) rfl p rfl 28 cs _ Kp4.out Try.underlying28 rfl HZP.out ?_)
      refine (HC.out.chk _).mono ?_
      rintro e w5 ⟨rfl, hb5⟩
      have Kx5 := hide (Kx4.out.keep hb5)
      have Kp5 := hide (Kp4.out.keep hb5)
      have B5 := hide (B4.out.trans (hb5.mono B4.out.size))
      clear hb5 Kx4 Kp4 B4
      clear HC
      go_wp2_with fail
      refine (aw_frame _).mono ?_
      rintro e w6 ⟨rfl, hb6⟩
      have Kx6 := hide (Kx5.out.keep hb6)
      have Kp6 := hide (Kp5.out.keep hb6)
      have B6 := hide (B5.out.trans (hb6.mono B5.out.size))
      clear hb6 Kx5 Kp5 B5
      go_wp2_with fail
      go_ret
      exact ⟨rfl, B6.out⟩
end Go.Proofs.Ytefdhbljcnpggaa.frameBack
