/-
  Layer 10, the document's: Feed.
-/
import Derived.Test.YtojcjmjohibpaaaSrLeft
import Derived.Test.YtojcjmjohibpaaaSpFeed
namespace Go.Proofs.Ytojcjmjohibpaaa
set_option linter.unusedSimpArgs false
set_option linter.unusedVariables false
open Go.RowKit

theorem results_sr {fn : Func} {p u v : Tmp} (h : fn.results = #[.cell p 23, .tmp u, .tmp v]) (tmps : Array Value) (w : World) (g : Nat) (a b c : Value)
    (hp : tmps.getD p undef = .pointer (some ⟨g, 0, none⟩)) (hg : BlkIs w g 23 #[a, b, c]) (x y : Value) (hx : tmps.getD u undef = x) (hy : tmps.getD v undef = y) :
    (results fn tmps).run Try.prog w = .ok (.tuple #[.agg #[a, b, c], x, y]) w :=
  results_cell_tmp2_blk h tmps w g _ _ _ hp hg Try.underlying23 rfl sr_size x y hx hy
theorem sr_built1 : Try.prog.built 23 [(2, .bool true)] = some #[.int .i64 0, .string ⟨#[]⟩, .bool true] := by kernel_rfl
theorem sr_built2 (a : Int) (b : ByteArray) : Try.prog.built 23 [(0, .int .i64 a), (1, .string b)] = some #[.int .i64 a, .string b, .bool false] := by kernel_rfl
/-- What the document's Feed answers. -/
def GivesFeedR (F : Fd10) (w : World) (e : Ending) (w' : World) : Prop :=
  ∃ v, e = .returned (.tuple #[.agg #[.int .i64 F.s.g, .string (strOfNums F.s.b), .bool F.s.d], v, .int .i64 F.c]) ∧ w'.ownsRow w.heap.size 48 5 v F.l.length (rcs F.l) ∧ Below w.heap.size w w'
theorem goes_no {g : Int} {b : List Int} {d : Bool} (h : Sp.goes ⟨g, b, d⟩ = false) : Sp.chk ⟨g, b, d⟩ ≠ 0 ∨ Sp.chk ⟨g, b, d⟩ = 0 ∧ d = true := by
  by_cases hc : Sp.chk ⟨g, b, d⟩ = 0
  · right
    refine ⟨hc, ?_⟩
    cases d with
    | true => rfl
    | false => rw [goes_chk, hc] at h; cases h
  · exact .inl hc
theorem goes_yes {g : Int} {b : List Int} {d : Bool} (h : Sp.goes ⟨g, b, d⟩ = true) : Sp.chk ⟨g, b, d⟩ = 0 ∧ d = false := by
  cases d with
  | true => cases h
  | false => rw [goes_chk] at h; exact ⟨by simpa using h, rfl⟩

set_option maxRecDepth 100000 in
set_option maxHeartbeats 1600000 in
theorem rf_Feed_stop (g : Int) (B : ByteArray) (d : Bool) (A : Option Addr) (n cap : Nat) (xs : List Int) (hS : (B.size : Int) ≤ 2000) (hg : Sp.goes ⟨g, bts B, d⟩ = false) (w : World) :
    Calls Try.prog 8 #[.agg #[.int .i64 g, .string B, .bool d], .slice A n cap] w (GivesFeedR (feedS ⟨g, bts B, d⟩ xs) w) := by
  rw [feed_stop hg]
  have HC := hide (fun w => rf_Check10 g B d (by omega) w)
  have hgn := goes_no hg
  obtain ⟨c, hc⟩ : ∃ c, c = Sp.chk ⟨g, bts B, d⟩ := ⟨_, rfl⟩
  rw [← hc] at HC hgn
  clear hg hS hc
  have hz := run_zero_is sr_zero
  go_enter Try.func8, Try.ntmps8
  go_wp2_with fail
  refine (HC.out _).mono ?_
  rintro e w1 ⟨rfl, hb1⟩
  have B1 := hide ((((Below.refl w.heap.size w).alloc (Nat.le_refl _) (.cells #[.int .i64 g, .string B, .bool d] 23)).alloc (by simp) (.cells #[.int .i64 0, .string ⟨#[]⟩, .bool false] 23)).trans (hb1.mono (by simp; omega)))
  have K1 := hide (((BlkIs.new w 23 #[.int .i64 g, .string B, .bool d]).alloc (.cells #[.int .i64 0, .string ⟨#[]⟩, .bool false] 23)).keep hb1)
  have K2 := hide ((BlkIs.new (w.alloc (.cells #[.int .i64 g, .string B, .bool d] 23)) 23 #[.int .i64 0, .string ⟨#[]⟩, .bool false]).keep hb1)
  rw [World.size_alloc] at K2
  clear hb1
  have c2 := K1.out.cell 2
  simp only [List.getElem?_toArray, List.getElem?_cons_zero, List.getElem?_cons_succ] at c2
  rcases hgn with h | ⟨h, rfl⟩
  · have he : (c != 0) = true := by simp [h]
    clear h
    go_wp2_with (first | refine wpList_load_blk rfl 23 (.tmp 2) rfl w.heap.size rfl 23 _ _ K1.out Try.underlying23 rfl sr_size ?_ | refine wpList_store_blk rfl 23 (.tmp 4) (.tmp 19) rfl (w.heap.size + 1) #[.int .i64 g, .string B, .bool d] #[.int .i64 0, .string ⟨#[]⟩, .bool false] 23 rfl rfl K2.out sr_size rfl (st_one _ _ _) ?_)
    refine bodyPost_ret (results_sr rfl _ _ (w.heap.size + 1) _ _ _ rfl (K2.out.row _) _ _ rfl rfl) rfl ⟨_, by rw [str_bts]; rfl, World.ownsRow_nil _ _ _ _, below_setRow B1.out (by omega) _⟩
  · subst h
    go_wp2_with (first | refine wpList_load_blk rfl 23 (.tmp 2) rfl w.heap.size rfl 23 _ _ K1.out Try.underlying23 rfl sr_size ?_ | refine wpList_store_blk rfl 23 (.tmp 4) (.tmp 19) rfl (w.heap.size + 1) #[.int .i64 g, .string B, .bool true] #[.int .i64 0, .string ⟨#[]⟩, .bool false] 23 rfl rfl K2.out sr_size rfl (st_one _ _ _) ?_)
    refine bodyPost_ret (results_sr rfl _ _ (w.heap.size + 1) _ _ _ rfl (K2.out.row _) _ _ rfl rfl) rfl ⟨_, by rw [str_bts]; rfl, World.ownsRow_nil _ _ _ _, below_setRow B1.out (by omega) _⟩

theorem greet_at {k n : Nat} {xs : List Int} {T : ByteArray} {j : Nat} (hn : xs.length = n) (hT : bts T = xs.drop j) (hj : j < min n (24 - k)) (h : (if h : 0 < T.size then (T[0].toNat : Int) else 0) ≠ preB.getD (k + j) 0) : greetB k xs = false := by
  refine greet_no hn hj ?_
  have h0 : 0 < T.size := by rw [← bts_len, hT, List.length_drop]; omega
  rw [dif_pos h0] at h
  have := bts_get T 0 h0
  rw [hT] at this
  have e : (xs.drop j).getD 0 0 = xs.getD j 0 := by simp [List.getD]
  rw [← e, this]
  exact h
theorem str_at0 (T : ByteArray) (h0 : 0 < T.size) (x : Int) (hx : x = (T[0].toNat : Int)) (w : World) : (Instr.index 9 (.string T) (.int .i64 0)).run Try.prog w = .ok (.int .u8 x) w := by
  have h := run_index_string (P := Try.prog) w 9 T .i64 0 Try.underlying9
  rw [dif_pos (by omega)] at h
  rw [hx]
  exact h
theorem drop_one {xs : List Int} {T : ByteArray} {j : Nat} (hT : bts T = xs.drop j) : bts (T.extract 1 T.size) = xs.drop (j + 1) := by
  rw [bts_drop, hT, List.drop_drop]
/-- A row's block is another one than a block of other cells. -/
theorem own_row_ne {w : World} {B g : Nat} {e t : TypeId} {s n : Nat} {v : Value} {xs : List Value} {cs : Array Value} (h : w.ownsRow B e s v n xs) (hk : BlkIs w g t cs) (hne : e ≠ t) (cs' : Array Value) : (w.setRow g cs').ownsRow B e s v n xs := by
  refine ⟨h.1, ?_⟩
  rcases h.2 with h' | ⟨k, cap, cur, a, b, c, d⟩
  · exact .inl h'
  · refine .inr ⟨k, cap, cur, a, b, ?_, d⟩
    exact (setRow_other w g k cs' (fun e' => by
      subst e'
      unfold BlkIs at hk
      rw [hk] at c
      injection c with c
      injection c with _ ht
      exact hne ht.symm)).trans c
theorem own_grown_ne {w w' : World} {B g : Nat} {e t : TypeId} {s n : Nat} {v : Value} {xs : List Value} {cs : Array Value} (hk : BlkIs w g t cs) (hg : w.grownBy w' v.ownBlock) (h : w.ownsRow B e s v n xs) (hne : e ≠ t) : BlkIs w' g t cs := by
  refine hk.grown hg ?_
  intro he
  rcases h.2 with ⟨rfl, _⟩ | ⟨k, cap, cur, rfl, b, c, d⟩
  · simp [Value.ownBlock] at he
  · simp [Value.ownBlock] at he
    subst he
    unfold BlkIs at hk
    rw [hk] at c
    injection c with c
    injection c with _ ht
    exact hne ht.symm
theorem keep_row {w w' : World} {B : Nat} {e : TypeId} {s n : Nat} {v : Value} {xs : List Value} (h : w.ownsRow B e s v n xs) (hb : Below w.heap.size w w') : w'.ownsRow B e s v n xs := own_keep5 h hb

set_option maxRecDepth 100000 in
set_option maxHeartbeats 3200000 in
theorem rf_Feed_go (k : Nat) (B : ByteArray) (A : Option Addr) (n cap : Nat) (xs : List Int) (hS : (B.size : Int) ≤ 2000) (hn : (n : Int) ≤ 1000) (hg : Sp.goes ⟨(k : Int), bts B, false⟩ = true) (w : World) (hr : RB w A n xs) :
    Calls Try.prog 8 #[.agg #[.int .i64 (k : Int), .string B, .bool false], .slice A n cap] w (GivesFeedR (feedS ⟨(k : Int), bts B, false⟩ xs) w) := by
  have hk : k ≤ 24 := by have := (goes_of hg).2.2.1; simp only at this; omega
  have HB0 := hide (fun h : k < 24 => (goes_of hg).2.2.2.1 (by simp only; omega))
  have HC := hide (fun w => rf_Check10 (k : Int) B false (by omega) w)
  rw [(goes_yes hg).1] at HC
  have HNO := hide (fun h => feed_bad (xs := xs) hg h)
  have HYES := hide (fun h => feed_yes (xs := xs) hg h)
  rw [show ((⟨(k : Int), bts B, false⟩ : Sp).g).toNat = k from rfl] at HNO HYES
  obtain ⟨R, hR⟩ : ∃ R, R = feedS ⟨(k : Int), bts B, false⟩ xs := ⟨_, rfl⟩
  rw [← hR] at HNO HYES ⊢
  have hz := run_zero_is sr_zero
  have HXL := hide hr.1
  have HXA := hide (rb_all hr)
  have HR := hide hr
  have HBS := hide hS
  have HN := hide hn
  clear hg hR hr hS
  go_enter Try.func8, Try.ntmps8
  go_wp2_with fail
  refine (HC.out _).mono ?_
  rintro e w1 ⟨rfl, hb1⟩
  have B1 := hide ((((Below.refl w.heap.size w).alloc (Nat.le_refl _) (.cells #[.int .i64 k, .string B, .bool false] 23)).alloc (by simp) (.cells #[.int .i64 0, .string ⟨#[]⟩, .bool false] 23)).trans (hb1.mono (by simp; omega)))
  have K1 := hide (((BlkIs.new w 23 #[.int .i64 k, .string B, .bool false]).alloc (.cells #[.int .i64 0, .string ⟨#[]⟩, .bool false] 23)).keep hb1)
  have K2 := hide ((BlkIs.new (w.alloc (.cells #[.int .i64 k, .string B, .bool false] 23)) 23 #[.int .i64 0, .string ⟨#[]⟩, .bool false]).keep hb1)
  rw [World.size_alloc] at K2
  obtain ⟨ga, hga⟩ : ∃ g, g = w.heap.size := ⟨_, rfl⟩
  rw [← hga] at K1 K2 ⊢
  obtain ⟨gb, hgb⟩ : ∃ g, g = ga + 1 := ⟨_, rfl⟩
  rw [← hgb] at K2 ⊢
  have NE := hide (show ga ≠ gb by omega)
  have LA := hide (show w.heap.size ≤ ga by omega)
  have LB := hide (show w.heap.size ≤ gb by omega)
  have cv1 := rb_string cap (HR.out.below (((Below.refl w.heap.size w).alloc (Nat.le_refl _) (.cells #[.int .i64 k, .string B, .bool false] 23)).alloc (by simp) (.cells #[.int .i64 0, .string ⟨#[]⟩, .bool false] 23) |>.trans (hb1.mono (by simp; omega))))
  clear hb1 hga hgb HC HR
  have c2 := K1.out.cell 2
  simp only [List.getElem?_toArray, List.getElem?_cons_zero, List.getElem?_cons_succ] at c2
  obtain ⟨S0, hS0⟩ : ∃ S, S = strOfNums xs := ⟨_, rfl⟩
  rw [← hS0] at cv1
  have HS0 := hide (show bts S0 = xs.drop 0 by rw [hS0, bts_str _ HXA.out]; rfl)
  clear hS0
  go_wp2_with fail
  clear cv1 c2
  go_loopw [7] (fun s wr => ∃ (T : ByteArray) (j : Nat), s = .string T ∧ j ≤ n ∧ k + j ≤ 24 ∧ bts T = xs.drop j ∧ (∀ i, i < j → xs.getD i 0 = preB.getD (k + i) 0) ∧ BlkIs wr ga 23 #[.int .i64 ((k + j : Nat) : Int), .string B, .bool false] ∧ BlkIs wr gb 23 #[.int .i64 0, .string ⟨#[]⟩, .bool false] ∧ Below w.heap.size w wr) (fun s _ => (match s with | .string T => T.size | _ => 0))
  case atStart => exact ⟨S0, 0, rfl, Nat.zero_le _, hk, HS0.out, fun i hi => absurd hi (by omega), K1.out, K2.out, B1.out⟩
  case round =>
    obtain ⟨T, j, rfl, hj, hkj, hT, hall, ka, kb, hb⟩ := hrel
    clear K1 K2 B1
    have KA := hide ka
    have KB1 := hide kb
    have BB := hide hb
    have HT := hide hT
    have HALL := hide hall
    have hts : T.size = n - j := by rw [← bts_len, hT, List.length_drop, HXL.out]
    obtain ⟨gj, hgj⟩ : ∃ gj, gj = k + j := ⟨_, rfl⟩
    rw [← hgj] at KA
    have HGJ := hide hgj
    have HTS := hide hts
    have hgj24 : (gj : Int) ≤ 24 := by omega
    clear ka kb hb hT hall hgj hts
    have c0 := KA.out.cell 0
    have c1 := KA.out.cell 1
    have f0 := KA.out.frozen 0
    simp only [List.getElem?_toArray, List.getElem?_cons_zero, List.getElem?_cons_succ] at c0 c1
    by_cases h24 : (gj : Int) < 24
    · by_cases hE : T.size = 0
      · have he : T.toList.isEmpty = true := by rw [is_empty]; simp [hE]
        have hjn : j = n := by have := HTS.out; omega
        have HG := hide (greet_yes (g := k) (xs := xs) HXL.out (fun i hi => HALL.out i (by omega)))
        have HRR := hide (HYES.out HG.out)
        have hB : bts B = [] := HB0.out (by have := HGJ.out; omega)
        have hm : min xs.length (24 - k) = n := by rw [HXL.out]; have := HGJ.out; omega
        have HRF := hide (show R = ⟨⟨(gj : Int), bts B, false⟩, [], 0⟩ by
          rw [HRR.out, hm, hB, List.drop_of_length_le (by rw [HXL.out]; exact Nat.le_refl _), List.append_nil, cutS_nil]
          have : ((k : Int) + (n : Int)) = (gj : Int) := by have := HGJ.out; omega
          simp only [fedOf]
          rw [this])
        clear hE hjn hB hm HRR
        go_wp2_with (first | refine wpList_load_blk rfl 23 (.tmp 2) rfl ga rfl 23 _ _ KA.out Try.underlying23 rfl sr_size ?_ | refine wpList_store_blk rfl 23 (.tmp 4) (.tmp 27) rfl gb #[.int .i64 (gj : Int), .string B, .bool false] #[.int .i64 0, .string ⟨#[]⟩, .bool false] 23 rfl rfl KB1.out sr_size rfl (st_one _ _ _) ?_)
        refine bodyPost_ret (results_sr rfl _ _ gb _ _ _ rfl (KB1.out.row _) _ _ rfl rfl) rfl ?_
        rw [HRF.out]
        exact ⟨_, by rw [str_bts]; rfl, World.ownsRow_nil _ _ _ _, below_setRow BB.out LB.out _⟩
      · have he : T.toList.isEmpty = false := by rw [is_empty]; simp [hE]
        have h0 : 0 < T.size := by omega
        have hjn : j < n := by have := HTS.out; omega
        have h1 : (1 : Int) ≤ (T.size : Int) := by omega
        obtain ⟨x, hx⟩ : ∃ x : Int, x = (T[0].toNat : Int) := ⟨_, rfl⟩
        have hs0 := str_at0 T h0 x hx
        have hix := pre_at gj (by omega) (gj : Int) rfl
        obtain ⟨p, hp⟩ : ∃ p, p = preB.getD gj 0 := ⟨_, rfl⟩
        rw [← hp] at hix
        have HX := hide hx
        have HP := hide hp
        clear hx hp
        have HXX := hide (show xs.getD j 0 = x by
          have := bts_get T 0 h0
          rw [HT.out] at this
          have e : (xs.drop j).getD 0 0 = xs.getD j 0 := by simp [List.getD]
          rw [← e, this, HX.out])
        have HT1 := hide (show (T.extract 1 T.size).size < T.size by rw [ext_size]; omega)
        clear HX h0 hE
        go_wp2_with fail
        go_quiet (fail)
        by_cases hxp : x = p
        · have hq : (x != p) = false := by simp [hxp]
          have HE := hide hxp
          have hwr : IntKind.i64.wrap ((gj : Int) + 1) = ((gj + 1 : Nat) : Int) := by rw [IntWalk.i64_in _ (by omega)]; omega
          clear hxp
          go_wp2_with fail
          go_roundw
          case rel =>
            refine ⟨T.extract 1 T.size, j + 1, rfl, hjn, by have := HGJ.out; omega, drop_one HT.out, fun i hi => ?_, ?_, (KB1.out.drewN nq).far (Ne.symm NE.out) _, (below_drewN BB.out nq).setCell LA.out _⟩
            · by_cases hij : i < j
              · exact HALL.out i hij
              · have : i = j := by omega
                subst this
                rw [HXX.out, ← HGJ.out, ← HP.out]
                exact HE.out
            · have := (KA.out.drewN nq).put 0 (.int .i64 ((gj + 1 : Nat) : Int))
              rw [show k + (j + 1) = gj + 1 by have := HGJ.out; omega]
              exact this
          case measure => exact HT1.out
        · have hq : (x != p) = true := by simp [hxp]
          have HE := hide hxp
          have HRF := hide (HNO.out (greet_no (g := k) HXL.out (j := j) (by have := HGJ.out; omega) (by rw [HXX.out, ← HGJ.out, ← HP.out]; exact HE.out)))
          clear hxp
          have KB2 := hide (KB1.out.drewN nq)
          have BB2 := hide (below_drewN BB.out nq)
          go_wp2_with (first | refine wpList_built rfl 23 _ rfl _ sr_built1 ?_ | refine wpList_store_blk rfl 23 (.tmp 4) (.tmp 34) rfl gb #[.int .i64 0, .string ⟨#[]⟩, .bool true] #[.int .i64 0, .string ⟨#[]⟩, .bool false] 23 rfl rfl KB2.out sr_size rfl (st_one _ _ _) ?_)
          refine bodyPost_ret (results_sr rfl _ _ gb _ _ _ rfl (KB2.out.row _) _ _ rfl rfl) rfl ?_
          rw [HRF.out]
          exact ⟨_, rfl, World.ownsRow_nil _ _ _ _, below_setRow BB2.out LB.out _⟩
    · obtain rfl : gj = 24 := by omega
      have hjm : min xs.length (24 - k) = j := by rw [HXL.out]; have := HGJ.out; omega
      have HG := hide (greet_yes (g := k) (xs := xs) HXL.out (fun i hi => HALL.out i (by have := HGJ.out; omega)))
      have HRF := hide (show R = fedOf ⟨(k : Int), bts B, false⟩ j (cutS (bts B ++ xs.drop j)) by rw [HYES.out HG.out, hjm])
      have HKJ := hide (show (k : Int) + (j : Int) = 24 by have := HGJ.out; omega)
      obtain ⟨Y, hY⟩ : ∃ Y, Y = B ++ T := ⟨_, rfl⟩
      have HYB := hide (show bts Y = bts B ++ xs.drop j by rw [hY, bts_app, HT.out])
      have HYS := hide (show Y.size ≤ 5000 by have := HBS.out; have := HTS.out; have := HN.out; rw [hY, ByteArray.size_append]; omega)
      have hadd : ¬ 9223372036854775807 < B.size + T.size := by have := HBS.out; have := HTS.out; have := HN.out; omega
      clear hjm HG HNO HYES HALL HTS f0
      go_wp2_with fail
      rw [← hY]
      clear hadd c0 c1 hY
      go_loopw [7, 8] (fun s l wr => ∃ (T : ByteArray) (pre : List Rw), s = .string T ∧ 9 * pre.length + T.size ≤ Y.size ∧ cutS (bts Y) = (pre ++ (cutS (bts T)).1, (cutS (bts T)).2) ∧ wr.ownsRow w.heap.size 48 5 l pre.length (rcs pre) ∧ BlkIs wr gb 23 #[.int .i64 0, .string ⟨#[]⟩, .bool false] ∧ Below w.heap.size w wr) (fun s _ _ => (match s with | .string T => T.size | _ => 0))
      case atStart => exact ⟨Y, [], rfl, by simp, by simp, World.ownsRow_nil _ _ _ _, KB1.out, BB.out⟩
      case round =>
        obtain ⟨U, pre, rfl, hlen, hcut, hown, hkb, hb⟩ := hrel
        clear KA KB1 BB
        have HU := hide (show U.size ≤ 5000 by have := HYS.out; omega)
        have HW := hide (fun w => rf_whole U (by have := HU.out; omega) w)
        have HLEN := hide hlen
        have HCUT := hide hcut
        have HOWN := hide hown
        have HKB := hide hkb
        have HBB := hide hb
        have HTL := hide (bts_len U)
        have hbd := gL_bd (bts_all U)
        obtain ⟨L, hL⟩ : ∃ L, L = gL (bts U) := ⟨_, rfl⟩
        obtain ⟨V, hV⟩ : ∃ V, V = wholeI (bts U) := ⟨_, rfl⟩
        rw [← hV] at HW
        rw [← hL] at hbd
        have l0 := hbd.1
        have l1 := hbd.2
        have HL := hide hL
        have HV := hide hV
        clear hlen hcut hown hkb hb hbd hL hV
        go_wp2_with fail
        refine (HW.out _).mono ?_
        rintro e w2 ⟨rfl, hb2⟩
        have K2 := hide (HKB.out.keep hb2)
        have O2 := hide (keep_row HOWN.out hb2)
        have B2 := hide (HBB.out.trans (hb2.mono HBB.out.size))
        clear hb2 HKB HOWN HBB
        by_cases h1 : 16384 < L
        · have hv : V = -1 := by rw [HV.out]; exact wholeI_bad (by rw [← HL.out]; exact h1)
          subst hv
          have HGB := hide (gives_bad HCUT.out (by rw [← HL.out]; exact h1))
          go_wp2_with fail
          refine (HW.out _).mono ?_
          rintro e w3 ⟨rfl, hb3⟩
          have K3 := hide (K2.out.keep hb3)
          have O3 := hide (keep_row O2.out hb3)
          have B3 := hide (B2.out.trans (hb3.mono B2.out.size))
          have LGB := hide K2.out.lt
          clear hb3 K2 O2 B2
          go_wp2_with (first | refine wpList_built rfl 23 _ rfl _ sr_built1 ?_ | refine wpList_store_blk rfl 23 (.tmp 4) (.tmp 70) rfl gb #[.int .i64 0, .string ⟨#[]⟩, .bool true] #[.int .i64 0, .string ⟨#[]⟩, .bool false] 23 rfl rfl K3.out sr_size rfl (st_one _ _ _) ?_)
          refine bodyPost_ret (results_sr rfl _ _ gb _ _ _ rfl (K3.out.row _) _ _ rfl rfl) rfl ?_
          rw [HRF.out, ← HYB.out, HGB.out]
          refine ⟨_, rfl, ?_, below_setRow B3.out LB.out _⟩
          exact own_row_ne O3.out K3.out (by decide) _
        · by_cases h2 : (U.size : Int) < 9 + L
          · have hv : V = 0 := by rw [HV.out]; exact wholeI_cut (by rw [← HL.out]; exact h1) (by rw [← HL.out, HTL.out]; exact h2)
            subst hv
            have HGB := hide (gives_end HCUT.out (by rw [← HL.out]; exact h1) (by rw [← HL.out, HTL.out]; exact h2))
            go_wp2_with fail
            refine (HW.out _).mono ?_
            rintro e w3 ⟨rfl, hb3⟩
            have K3 := hide (K2.out.keep hb3)
            have O3 := hide (keep_row O2.out hb3)
            have B3 := hide (B2.out.trans (hb3.mono B2.out.size))
            clear hb3 K2 O2 B2
            go_wp2_with (first | refine wpList_built rfl 23 _ rfl _ (sr_built2 24 U) ?_ | refine wpList_store_blk rfl 23 (.tmp 4) (.tmp 73) rfl gb #[.int .i64 24, .string U, .bool false] #[.int .i64 0, .string ⟨#[]⟩, .bool false] 23 rfl rfl K3.out sr_size rfl (st_one _ _ _) ?_)
            refine bodyPost_ret (results_sr rfl _ _ gb _ _ _ rfl (K3.out.row _) _ _ rfl rfl) rfl ?_
            rw [HRF.out, ← HYB.out, HGB.out]
            refine ⟨_, by simp only [fedOf]; rw [HKJ.out, str_bts]; rfl, ?_, below_setRow B3.out LB.out _⟩
            exact own_row_ne O3.out K3.out (by decide) _
          · obtain ⟨M, hM⟩ : ∃ M : Nat, (M : Int) = 9 + L := ⟨(9 + L).toNat, by omega⟩
            have hv : V = (M : Int) := by rw [HV.out, hM, HL.out]; exact wholeI_yes (by rw [← HL.out]; exact h1) (by rw [← HL.out, HTL.out]; exact h2)
            subst hv
            obtain ⟨ty, hty⟩ : ∃ L, L = gT (bts U) := ⟨_, rfl⟩
            obtain ⟨fl, hfl⟩ : ∃ L, L = gF (bts U) := ⟨_, rfl⟩
            obtain ⟨sr, hsr⟩ : ∃ L, L = gS (bts U) := ⟨_, rfl⟩
            have hE : (0 : Int) = gE (bts U) := by
              rw [gE, if_neg]
              intro h9
              have := gL_short h9
              rw [HTL.out] at h9
              rw [← HL.out] at this
              omega
            have HRR := hide (show rwOf (bts U) = ⟨L, ty, fl, sr, U.extract 9 M⟩ by rw [rw_eq (T := U) (M := M) (by rw [hM, HL.out]), ← HL.out, ← hty, ← hfl, ← hsr])
            have HG := hide (gives_go HCUT.out (by rw [← HL.out]; exact h1) (by rw [← HL.out, HTL.out]; exact h2) (us := bts (U.extract M U.size)) (by rw [bts_drop, ← HL.out]; congr 1; omega))
            have hpos : (0 : Int) < (M : Int) := by omega
            have m9 : 9 ≤ M := by omega
            have m9i : (9 : Int) ≤ (M : Int) := by omega
            have hMU : (M : Int) ≤ (U.size : Int) := by omega
            have hMU' : M ≤ U.size := by omega
            have HTY := hide hty
            have HFL := hide hfl
            have HSR := hide hsr
            have HE := hide hE
            have HM := hide hM
            have HPL := hide (show (pre.length : Int) ≤ 5000 by have := HLEN.out; have := HYS.out; omega)
            have h2k := hide h2
            clear hty hfl hsr hE hM h2
            go_wp2_with fail
            refine (HW.out _).mono ?_
            rintro e w3 ⟨rfl, hb3⟩
            have K3 := hide (K2.out.keep hb3)
            have O3 := hide (keep_row O2.out hb3)
            have B3 := hide (B2.out.trans (hb3.mono B2.out.size))
            clear hb3 K2 O2 B2
            obtain ⟨cp, w4, hcv, hr4, hb4, hcap4, _, _⟩ := str_row w3 U
            have HGT := hide (rf_GetS U cp w4 _ hr4 hcap4 HL.out HTY.out HFL.out HSR.out HE.out)
            have K4 := hide (K3.out.keep hb4)
            have O4 := hide (keep_row O3.out hb4)
            have B4 := hide (B3.out.trans (hb4.mono B3.out.size))
            clear hb4 hr4 hcap4 K3 O3 B3
            have hz2 := run_zero_is rd_zero
            go_wp2_with fail
            clear hcv
            refine HGT.out.mono ?_
            rintro e w5 ⟨rfl, hb5⟩
            have K5 := hide ((K4.out.keep hb5).alloc (.cells #[.int .i64 L, .int .u8 ty, .int .u8 fl, .int .i64 sr] 46))
            have O5 := hide ((keep_row O4.out hb5).alloc (.cells #[.int .i64 L, .int .u8 ty, .int .u8 fl, .int .i64 sr] 46))
            have B5 := hide ((B4.out.trans (hb5.mono B4.out.size)).alloc (B4.out.trans (hb5.mono B4.out.size)).size (.cells #[.int .i64 L, .int .u8 ty, .int .u8 fl, .int .i64 sr] 46))
            have M5 := hide (BlkIs.new w5 46 #[.int .i64 L, .int .u8 ty, .int .u8 fl, .int .i64 sr])
            obtain ⟨gh, hgh⟩ : ∃ g, g = w5.heap.size := ⟨_, rfl⟩
            rw [← hgh] at M5
            have HGH := hide hgh
            clear hb5 K4 O4 B4 hgh
            go_wp2_with fail
            rw [← HGH.out]
            generalize w5.alloc (.cells #[.int .i64 L, .int .u8 ty, .int .u8 fl, .int .i64 sr] 46) = w6 at K5 O5 B5 M5 ⊢
            obtain ⟨q0, q1, q2, q3⟩ := hd_cells M5.out.drew
            obtain ⟨i0, hi0, hz0, hz1, hzb⟩ := info_parts zr_info
            go_region_held3 (fun w' => w'.cell? ⟨gh, 0, none⟩ = some (.int .i64 L) ∧ w'.cell? ⟨gh, 1, none⟩ = some (.int .u8 ty) ∧ w'.cell? ⟨gh, 2, none⟩ = some (.int .u8 fl) ∧ w'.cell? ⟨gh, 3, none⟩ = some (.int .i64 sr))
              (first | exact ⟨q0, q1, q2, q3⟩ | exact hd_cells (M5.out.drew.alloc _) | exact hd_cells (M5.out.alloc _).drew | exact hd_cells M7.out)
              ((refine step_append_lies _ (by rfl) (.tmp 56) (.tmp 62) 32 (by rfl) w.heap.size 48 i0 _ 5 40 Try.underlying32 hi0 hz0 hz1 hzb rfl (by decide) u8 pre.length (rcs pre) (by rfl) (O5.out.alloc _).drew ⟨w6.heap.size, 0, none⟩ 1 1 [.int .i64 L, .int .u8 ty, .int .u8 fl, .int .i64 sr, .string (U.extract 9 M)] (by rfl) (by rfl) (World.news_of_block (cs := #[.int .i64 L, .int .u8 ty, .int .u8 fl, .int .i64 sr, .string (U.extract 9 M)]) (t := 48) (fr := (0, 0)) (heap_alloc_new w6 _)) (by simp [Value.oneCell']) (by omega) (by have := HPL.out; unfold maxLen; omega) (by have := HPL.out; omega) (Nat.le_trans B5.out.size (by simp)) _ rfl ?_; intro gg cap7 w7 hown7 hgrow7 hat7 hlt7; have M7 := hide (own_grown_ne (M5.out.alloc _).drew hgrow7 (O5.out.alloc _).drew (by decide)); have K7 := hide (own_grown_ne (K5.out.alloc _).drew hgrow7 (O5.out.alloc _).drew (by decide)); have O7 := hide hown7; have B7 := hide (own_below' (O5.out.alloc _).drew (B5.out.alloc B5.out.size _).drew (Nat.le_refl _) (Nat.le_refl _) hgrow7); clear hown7 hgrow7 hat7 hlt7))
            all_goals
              go_wp2_with fail
              go_roundw
              case rel => exact ⟨U.extract M U.size, pre ++ [⟨L, ty, fl, sr, U.extract 9 M⟩], rfl, len_snoc HLEN.out m9 hMU', by rw [← HRR.out]; exact HG.out, row_snoc O7.out, K7.out, B7.out⟩
              case measure => show (U.extract M U.size).size < U.size; rw [ext_size]; omega
end Go.Proofs.Ytojcjmjohibpaaa
