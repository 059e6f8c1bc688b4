/-
  Layer 10: Feed (the program's).
-/
import Derived.Test.YtojcjmjohibpaaaSpLeft
import Derived.Test.YtojcjmjohibpaaaSpGreet
import Derived.Test.YtojcjmjohibpaaaSpCut
import Derived.Test.YtojcjmjohibpaaaRegs
namespace Go.Proofs.Ytojcjmjohibpaaa
set_option linter.unusedSimpArgs false
set_option linter.unusedVariables false
open Go.RowKit

theorem bts_app (a b : ByteArray) : bts (a ++ b) = bts a ++ bts b := by
  obtain ⟨l, rfl⟩ := ba_mk a
  obtain ⟨k, rfl⟩ := ba_mk b
  simp [bts]
theorem results_st {fn : Func} {p u v : Tmp} (h : fn.results = #[.cell p 26, .tmp u, .tmp v]) (tmps : Array Value) (w : World) (g : Nat) (a b c : Value)
    (hp : tmps.getD p undef = .pointer (some ⟨g, 0, none⟩)) (hg : BlkIs w g 26 #[a, b, c]) (x y : Value) (hx : tmps.getD u undef = x) (hy : tmps.getD v undef = y) :
    (results fn tmps).run Try.prog w = .ok (.tuple #[.agg #[a, b, c], x, y]) w :=
  results_cell_tmp2_blk h tmps w g _ _ _ hp hg Try.underlying26 rfl st_size x y hx hy
/-- What Feed answers. -/
def GivesFeed (F : Fd10) (w : World) (e : Ending) (w' : World) : Prop :=
  ∃ v, e = .returned (.tuple #[.agg #[.int .i64 F.s.g, .string (strOfNums F.s.b), .bool F.s.d], v, .int .u32 F.c]) ∧ w'.ownsRow w.heap.size 53 5 v F.l.length (rcs F.l) ∧ Below w.heap.size w w'
theorem st_built1 : Try.prog.built 26 [(2, .bool true)] = some #[.int .i64 0, .string ⟨#[]⟩, .bool true] := by kernel_rfl
theorem st_built2 (a : Int) (b : ByteArray) : Try.prog.built 26 [(0, .int .i64 a), (1, .string b)] = some #[.int .i64 a, .string b, .bool false] := by kernel_rfl
theorem st_one (a : Int) (b : ByteArray) (d : Bool) : (#[Value.int .i64 a, .string b, .bool d]).all (·.oneCell') = true := by simp [Value.oneCell']

set_option maxRecDepth 100000 in
set_option maxHeartbeats 1600000 in
theorem sp_Feed_stop (g : Int) (B : ByteArray) (d : Bool) (A : Option Addr) (n cap : Nat) (xs : List Int) (hS : (B.size : Int) ≤ 2000) (hg : Sp.goes ⟨g, bts B, d⟩ = false) (w : World) :
    Calls Try.prog 7 #[.agg #[.int .i64 g, .string B, .bool d], .slice A n cap] w (GivesFeed (feedS ⟨g, bts B, d⟩ xs) w) := by
  rw [feed_stop hg]
  have HC := hide (fun w => sp_goesOn g B d hS w)
  rw [hg] at HC
  clear hg hS
  have hz := run_zero_is st_zero10
  go_enter Try.func7, Try.ntmps7
  go_wp2_with fail
  refine (HC.out _).mono ?_
  rintro e w1 ⟨rfl, hb1⟩
  have B1 := hide ((((Below.refl w.heap.size w).alloc (Nat.le_refl _) (.cells #[.int .i64 g, .string B, .bool d] 26)).alloc (by simp) (.cells #[.int .i64 0, .string ⟨#[]⟩, .bool false] 26)).trans (hb1.mono (by simp; omega)))
  have K1 := hide (((BlkIs.new w 26 #[.int .i64 g, .string B, .bool d]).alloc (.cells #[.int .i64 0, .string ⟨#[]⟩, .bool false] 26)).keep hb1)
  have K2 := hide ((BlkIs.new (w.alloc (.cells #[.int .i64 g, .string B, .bool d] 26)) 26 #[.int .i64 0, .string ⟨#[]⟩, .bool false]).keep hb1)
  rw [World.size_alloc] at K2
  clear hb1
  go_wp2_with (first | refine wpList_load_blk rfl 26 (.tmp 2) rfl w.heap.size rfl 26 _ _ K1.out Try.underlying26 rfl st_size ?_ | refine wpList_store_blk rfl 26 (.tmp 4) (.tmp 15) rfl (w.heap.size + 1) #[.int .i64 g, .string B, .bool d] #[.int .i64 0, .string ⟨#[]⟩, .bool false] 26 rfl rfl K2.out st_size rfl (st_one _ _ _) ?_)
  refine bodyPost_ret (results_st rfl _ _ (w.heap.size + 1) _ _ _ rfl (K2.out.row _) _ _ rfl rfl) rfl ⟨_, by rw [str_bts]; rfl, World.ownsRow_nil _ _ _ _, below_setRow B1.out (by omega) _⟩

set_option maxRecDepth 100000 in
set_option maxHeartbeats 1600000 in
theorem sp_Feed_bad (g : Int) (B : ByteArray) (d : Bool) (A : Option Addr) (n cap : Nat) (xs : List Int) (hS : (B.size : Int) ≤ 2000) (hn : (n : Int) ≤ 1000) (hg : Sp.goes ⟨g, bts B, d⟩ = true) (hgr : greetB g.toNat xs = false) (w : World) (hr : RB w A n xs) :
    Calls Try.prog 7 #[.agg #[.int .i64 g, .string B, .bool d], .slice A n cap] w (GivesFeed (feedS ⟨g, bts B, d⟩ xs) w) := by
  rw [feed_bad hg hgr]
  have hz := run_zero_is st_zero10
  have h0 : 0 ≤ g := (goes_of hg).2.1
  have h1 : g ≤ 24 := (goes_of hg).2.2.1
  obtain ⟨k, rfl⟩ : ∃ k : Nat, g = (k : Int) := ⟨g.toNat, by omega⟩
  have hk : k ≤ 24 := by omega
  rw [show (((k : Nat) : Int)).toNat = k from rfl] at hgr
  have HC := hide (fun w => sp_goesOn (k : Int) B d hS w)
  have HG := hide (fun w (h : RB w A n xs) => sp_greeting k hk A n cap xs w h hn)
  have HR := hide hr
  rw [hg] at HC
  rw [hgr] at HG
  rw [if_neg (by simp)] at HG
  clear hg hS hn h0 h1 hr hgr
  go_enter Try.func7, Try.ntmps7
  go_wp2_with fail
  refine (HC.out _).mono ?_
  rintro e w1 ⟨rfl, hb1⟩
  have B1 := hide ((((Below.refl w.heap.size w).alloc (Nat.le_refl _) (.cells #[.int .i64 k, .string B, .bool d] 26)).alloc (by simp) (.cells #[.int .i64 0, .string ⟨#[]⟩, .bool false] 26)).trans (hb1.mono (by simp; omega)))
  have K1 := hide (((BlkIs.new w 26 #[.int .i64 k, .string B, .bool d]).alloc (.cells #[.int .i64 0, .string ⟨#[]⟩, .bool false] 26)).keep hb1)
  have K2 := hide ((BlkIs.new (w.alloc (.cells #[.int .i64 k, .string B, .bool d] 26)) 26 #[.int .i64 0, .string ⟨#[]⟩, .bool false]).keep hb1)
  rw [World.size_alloc] at K2
  have R1 := hide (HR.out.below (((Below.refl w.heap.size w).alloc (Nat.le_refl _) (.cells #[.int .i64 k, .string B, .bool d] 26)).alloc (by simp) (.cells #[.int .i64 0, .string ⟨#[]⟩, .bool false] 26) |>.trans (hb1.mono (by simp; omega))))
  clear hb1 HR
  have c0 := K1.out.cell 0
  simp only [List.getElem?_toArray, List.getElem?_cons_zero, List.getElem?_cons_succ] at c0
  go_wp2_with fail
  refine (HG.out _ R1.out).mono ?_
  rintro e w2 ⟨rfl, hb2⟩
  have B2 := hide (B1.out.trans (hb2.mono B1.out.size))
  have K3 := hide (K1.out.keep hb2)
  have K4 := hide (K2.out.keep hb2)
  have R2 := hide (R1.out.below hb2)
  clear hb2 c0 B1 K1 K2 R1
  go_wp2_with (first | refine wpList_built rfl 26 _ rfl _ st_built1 ?_ | refine wpList_store_blk rfl 26 (.tmp 4) (.tmp 25) rfl (w.heap.size + 1) #[.int .i64 0, .string ⟨#[]⟩, .bool true] #[.int .i64 0, .string ⟨#[]⟩, .bool false] 26 rfl rfl K4.out st_size rfl (st_one _ _ _) ?_)
  refine bodyPost_ret (results_st rfl _ _ (w.heap.size + 1) _ _ _ rfl (K4.out.row _) _ _ rfl rfl) rfl ⟨_, rfl, World.ownsRow_nil _ _ _ _, below_setRow B2.out (by omega) _⟩

theorem st_cell0 {w : World} {g : Nat} {a b c : Value} (h : BlkIs w g 26 #[a, b, c]) : w.cell? ⟨g, 0, none⟩ = some a := h.cell 0
theorem own_row_far {w : World} {B g : Nat} {e : TypeId} {s n : Nat} {v : Value} {xs : List Value} (h : w.ownsRow B e s v n xs) (hg : g < B) (cs : Array Value) : (w.setRow g cs).ownsRow B e s v n xs :=
  own_kb h ((KB.refl (· = g) w).setRow (fun _ => rfl) cs) (fun k hk he => by omega)
def GivesCut3 (l : List Rw) (T : ByteArray) (c : Int) (w : World) (e : Ending) (w' : World) : Prop :=
  ∃ v, e = .returned (.tuple #[v, .string T, .int .u32 c]) ∧ w'.ownsRow w.heap.size 53 5 v l.length (rcs l) ∧ Below w.heap.size w w'
theorem cut_at {Y B : ByteArray} {xs : List Int} {m : Nat} (hY : Y = B ++ strOfNums (xs.drop m)) {r : List Rw × Option (List Int)} (h : ∀ w, Calls Try.prog 19 #[.string Y] w (GivesCut r w)) (T : ByteArray) (c : Int) (hT : cutT r.2 = T) (hc : cutC r.2 = c) (w : World) :
    Calls Try.prog 19 #[.string (B ++ strOfNums (xs.drop m))] w (GivesCut3 r.1 T c w) := by
  subst hT hc
  rw [← hY]; exact h w

set_option maxRecDepth 100000 in
set_option maxHeartbeats 1600000 in
theorem sp_Feed_long (g : Int) (B : ByteArray) (d : Bool) (A : Option Addr) (n cap : Nat) (xs : List Int) (hS : (B.size : Int) ≤ 2000) (hn : (n : Int) ≤ 1000) (hg : Sp.goes ⟨g, bts B, d⟩ = true) (hgr : greetB g.toNat xs = true) (hq : (cutS (bts B ++ xs.drop (min n (24 - g.toNat)))).2 = none) (hcap : n ≤ cap) (hc63 : (cap : Int) ≤ 9223372036854775807) (hnil : A = none → cap = 0) (w : World) (hr : RB w A n xs) :
    Calls Try.prog 7 #[.agg #[.int .i64 g, .string B, .bool d], .slice A n cap] w (GivesFeed (feedS ⟨g, bts B, d⟩ xs) w) := by
  rw [feed_yes hg hgr]
  have hz := run_zero_is st_zero10
  have h0 : 0 ≤ g := (goes_of hg).2.1
  have h1 : g ≤ 24 := (goes_of hg).2.2.1
  obtain ⟨k, rfl⟩ : ∃ k : Nat, g = (k : Int) := ⟨g.toNat, by omega⟩
  have hk : k ≤ 24 := by omega
  rw [show (((k : Nat) : Int)).toNat = k from rfl] at hgr hq
  have HC := hide (fun w => sp_goesOn (k : Int) B d hS w)
  have HG := hide (fun w (h : RB w A n xs) => sp_greeting k hk A n cap xs w h hn)
  have HR := hide hr
  rw [hg] at HC
  rw [hgr] at HG
  rw [if_pos rfl] at HG
  have hxl : xs.length = n := hr.1
  rw [hxl]
  rw [show ((⟨(k : Int), bts B, d⟩ : Sp).g).toNat = k from rfl]
  obtain ⟨m, hm⟩ : ∃ m, m = min n (24 - k) := ⟨_, rfl⟩
  rw [← hm] at HG hq ⊢
  have hmn : m ≤ n := by omega
  have hmn' : (m : Int) ≤ (n : Int) := by omega
  have hkm : (k : Int) + (m : Int) ≤ 24 := by omega
  obtain ⟨Y, hY⟩ : ∃ Y, Y = B ++ strOfNums (xs.drop m) := ⟨_, rfl⟩
  have HYB := hide (show bts Y = bts B ++ xs.drop m by rw [hY, bts_app, bts_str _ ((rb_all hr).drop m)])
  have HYS := hide (show (Y.size : Int) ≤ 5000 by rw [← bts_len, HYB.out, List.length_append, bts_len, List.length_drop]; omega)
  have HCUT := hide (fun w => sp_cut Y HYS.out w)
  rw [HYB.out] at HCUT
  rw [show (⟨(k : Int), bts B, d⟩ : Sp).b = bts B from rfl, fed_none hq]
  obtain ⟨ql, hql⟩ : ∃ ql, ql = (cutS (bts B ++ xs.drop m)).1 := ⟨_, rfl⟩
  have hQ : cutS (bts B ++ xs.drop m) = (ql, none) := by rw [hql, ← hq]
  rw [hQ] at HCUT ⊢
  simp only
  clear hql hq hQ
  have HADD := hide (show ¬ 9223372036854775807 < B.size + (strOfNums (xs.drop m)).size by
    have e : Y.size = B.size + (strOfNums (xs.drop m)).size := by rw [hY, ByteArray.size_append]
    have := HYS.out
    omega)
  have HY := hide hY
  clear hg hS hn hr hgr hm hxl hY
  go_enter Try.func7, Try.ntmps7
  go_wp2_with fail
  refine (HC.out _).mono ?_
  rintro e w1 ⟨rfl, hb1⟩
  have B1 := hide ((((Below.refl w.heap.size w).alloc (Nat.le_refl _) (.cells #[.int .i64 k, .string B, .bool d] 26)).alloc (by simp) (.cells #[.int .i64 0, .string ⟨#[]⟩, .bool false] 26)).trans (hb1.mono (by simp; omega)))
  have K1 := hide (((BlkIs.new w 26 #[.int .i64 k, .string B, .bool d]).alloc (.cells #[.int .i64 0, .string ⟨#[]⟩, .bool false] 26)).keep hb1)
  have K2 := hide ((BlkIs.new (w.alloc (.cells #[.int .i64 k, .string B, .bool d] 26)) 26 #[.int .i64 0, .string ⟨#[]⟩, .bool false]).keep hb1)
  rw [World.size_alloc] at K2
  have R1 := hide (HR.out.below (((Below.refl w.heap.size w).alloc (Nat.le_refl _) (.cells #[.int .i64 k, .string B, .bool d] 26)).alloc (by simp) (.cells #[.int .i64 0, .string ⟨#[]⟩, .bool false] 26) |>.trans (hb1.mono (by simp; omega))))
  clear hb1 HR
  have c0 := K1.out.cell 0
  simp only [List.getElem?_toArray, List.getElem?_cons_zero, List.getElem?_cons_succ] at c0
  go_wp2_with fail
  refine (HG.out _ R1.out).mono ?_
  rintro e w2 ⟨rfl, hb2⟩
  have B2 := hide (B1.out.trans (hb2.mono B1.out.size))
  have K3 := hide (K1.out.keep hb2)
  have K4 := hide (K2.out.keep hb2)
  have R2 := hide (R1.out.below hb2)
  clear hb2 c0 B1 K1 K2 R1
  obtain ⟨qa, hsl, hqr, hqn⟩ := slice_low R2.out hcap hnil m hmn
  have HQR := hide hqr
  obtain ⟨nm, hnm⟩ : ∃ x, x = n - m := ⟨_, rfl⟩
  obtain ⟨cm, hcm⟩ : ∃ x, x = cap - m := ⟨_, rfl⟩
  rw [← hnm] at HQR
  simp only [← hnm, ← hcm] at hsl
  clear hnm hcm hqr hqn R2
  obtain ⟨ga, hga⟩ : ∃ g, g = w.heap.size := ⟨_, rfl⟩
  have HGA := hide hga
  rw [← hga] at K3 K4 ⊢
  clear hga
  obtain ⟨gb, hgb⟩ : ∃ g, g = ga + 1 := ⟨_, rfl⟩
  have HGB := hide hgb
  rw [← hgb] at K4 ⊢
  clear hgb
  have LG := hide K4.out.lt
  have L2 := hide B2.out.size
  go_wp2_with fail
  refine wp_region_noPanic ?_
  refine wp_region_held_drew (S := fun w' => Below w2.heap.size w2 w') (by kernel_rfl) (Below.refl _ _).drew (fun hS => ?_)
  refine wpAnyH_take (i := 0) (v := ?_) (by simp only [List.getElem?_toArray, List.getElem?_cons_zero] <;> exact rfl) (by kernel_rfl) (by kernel_rfl) (by kernel_rfl) (fun _ _ _ h => h) (Or.inl ⟨by rfl, ?_⟩) hS ?_
  rotate_left
  focus (intro w' hw'; go_simp; all_goals with_reducible rfl)
  try simp only [Act.put, List.setIfInBounds_toArray, List.set_cons_zero, List.set_cons_succ]
  refine wpAnyH_take (i := 1) (v := ?_) (by simp only [List.getElem?_toArray, List.getElem?_cons_succ, List.getElem?_cons_zero] <;> exact rfl) (by kernel_rfl) (by kernel_rfl) (by kernel_rfl) (fun _ _ _ h => h) (Or.inl ⟨by rfl, ?_⟩) hS ?_
  rotate_left
  focus (intro w' hw'; have kk := (K3.out.keep hw').cell 1; simp only [List.getElem?_toArray, List.getElem?_cons_zero, List.getElem?_cons_succ] at kk; go_simp; all_goals with_reducible rfl)
  try simp only [Act.put, List.setIfInBounds_toArray, List.set_cons_zero, List.set_cons_succ]
  refine wpAnyH_take (i := 2) (v := ?_) (by simp only [List.getElem?_toArray, List.getElem?_cons_succ, List.getElem?_cons_zero] <;> exact rfl) (by kernel_rfl) (by kernel_rfl) (by kernel_rfl) (fun _ _ _ h => h) (Or.inl ⟨by rfl, ?_⟩) hS ?_
  rotate_left
  focus (intro w' hw'; go_simp; all_goals with_reducible rfl)
  try simp only [Act.put, List.setIfInBounds_toArray, List.set_cons_zero, List.set_cons_succ]
  refine wpAnyH_take (i := 3) (v := ?_) (by simp only [List.getElem?_toArray, List.getElem?_cons_succ, List.getElem?_cons_zero] <;> exact rfl) (by kernel_rfl) (by kernel_rfl) (by kernel_rfl) (fun _ _ _ h => h) (Or.inl ⟨by rfl, ?_⟩) hS ?_
  rotate_left
  focus (intro w' hw'; go_simp; all_goals with_reducible rfl)
  try simp only [Act.put, List.setIfInBounds_toArray, List.set_cons_zero, List.set_cons_succ]
  refine wpAnyH_take (i := 4) (v := ?_) (by simp only [List.getElem?_toArray, List.getElem?_cons_succ, List.getElem?_cons_zero] <;> exact rfl) (by kernel_rfl) (by kernel_rfl) (by kernel_rfl) (fun _ _ _ h => h) (Or.inl ⟨by rfl, ?_⟩) hS ?_
  rotate_left
  focus (intro w' hw'; have kk := hsl w'; go_simp; all_goals with_reducible rfl)
  try simp only [Act.put, List.setIfInBounds_toArray, List.set_cons_zero, List.set_cons_succ]
  refine wpAnyH_take (i := 5) (v := ?_) (by simp only [List.getElem?_toArray, List.getElem?_cons_succ, List.getElem?_cons_zero] <;> exact rfl) (by kernel_rfl) (by kernel_rfl) (by kernel_rfl) (fun _ _ _ h => h) (Or.inl ⟨by rfl, ?_⟩) hS ?_
  rotate_left
  focus (intro w' hw'; have kk := rb_string cm (HQR.out.below hw'); go_simp; all_goals with_reducible rfl)
  try simp only [Act.put, List.setIfInBounds_toArray, List.set_cons_zero, List.set_cons_succ]
  refine wpAnyH_take (i := 6) (v := ?_) (by simp only [List.getElem?_toArray, List.getElem?_cons_succ, List.getElem?_cons_zero] <;> exact rfl) (by kernel_rfl) (by kernel_rfl) (by kernel_rfl) (fun _ _ _ h => h) (Or.inl ⟨by rfl, ?_⟩) hS ?_
  rotate_left
  focus (intro w' hw'; have hadd := HADD.out; go_simp; all_goals with_reducible rfl)
  try simp only [Act.put, List.setIfInBounds_toArray, List.set_cons_zero, List.set_cons_succ]
  refine wpAnyH_ready (rs := [7]) (by kernel_rfl) (by simp) ?_
  refine AllReadyH.cons (o := _) (by simp only [List.getElem?_toArray, List.getElem?_cons_succ, List.getElem?_cons_zero] <;> exact rfl) (fun K hK => ?_) ?_
  focus (
    go_simp
    go_at_call 19
    refine (cut_at HY.out HCUT.out ⟨#[]⟩ 6 rfl rfl _).mono ?_
    rintro e wc1 ⟨v3, rfl, hown3, hb⟩
    have hS := hS.trans (hb.mono hS.size)
    have O3 := hide hown3
    clear hown3
    clear hb
    go_wp2_with fail
    refine hK.out _ _ hS (fun _ => ?_)
    clear hK K
    try simp only [Act.put, List.setIfInBounds_toArray, List.set_cons_zero, List.set_cons_succ])
  rotate_left
  focus (exact AllReadyH.nil)
  refine wpAnyH_take (i := 8) (v := ?_) (by simp only [List.getElem?_toArray, List.getElem?_cons_succ, List.getElem?_cons_zero] <;> exact rfl) (by kernel_rfl) (by kernel_rfl) (by kernel_rfl) (fun _ _ _ h => h) (Or.inl ⟨by rfl, ?_⟩) hS ?_
  rotate_left
  focus (intro w' hw'; go_simp; all_goals with_reducible rfl)
  try simp only [Act.put, List.setIfInBounds_toArray, List.set_cons_zero, List.set_cons_succ]
  refine wpAnyH_take (i := 9) (v := ?_) (by simp only [List.getElem?_toArray, List.getElem?_cons_succ, List.getElem?_cons_zero] <;> exact rfl) (by kernel_rfl) (by kernel_rfl) (by kernel_rfl) (fun _ _ _ h => h) (Or.inl ⟨by rfl, ?_⟩) hS ?_
  rotate_left
  focus (intro w' hw'; go_simp; all_goals with_reducible rfl)
  try simp only [Act.put, List.setIfInBounds_toArray, List.set_cons_zero, List.set_cons_succ]
  refine wpAnyH_take (i := 10) (v := ?_) (by simp only [List.getElem?_toArray, List.getElem?_cons_succ, List.getElem?_cons_zero] <;> exact rfl) (by kernel_rfl) (by kernel_rfl) (by kernel_rfl) (fun _ _ _ h => h) (Or.inl ⟨by rfl, ?_⟩) hS ?_
  rotate_left
  focus (intro w' hw'; go_simp; all_goals with_reducible rfl)
  try simp only [Act.put, List.setIfInBounds_toArray, List.set_cons_zero, List.set_cons_succ]
  refine wpAnyH_take (i := 11) (v := ?_) (by simp only [List.getElem?_toArray, List.getElem?_cons_succ, List.getElem?_cons_zero] <;> exact rfl) (by kernel_rfl) (by kernel_rfl) (by kernel_rfl) (fun _ _ _ h => h) (Or.inl ⟨by rfl, ?_⟩) hS ?_
  rotate_left
  focus (intro w' hw'; go_simp; all_goals with_reducible rfl)
  try simp only [Act.put, List.setIfInBounds_toArray, List.set_cons_zero, List.set_cons_succ]
  refine wpAnyH_take (i := 12) (v := ?_) (by simp only [List.getElem?_toArray, List.getElem?_cons_succ, List.getElem?_cons_zero] <;> exact rfl) (by kernel_rfl) (by kernel_rfl) (by kernel_rfl) (fun _ _ _ h => h) (Or.inl ⟨by rfl, ?_⟩) hS ?_
  rotate_left
  focus (intro w' hw'; go_simp; all_goals with_reducible rfl)
  try simp only [Act.put, List.setIfInBounds_toArray, List.set_cons_zero, List.set_cons_succ]
  refine wpAnyH_take (i := 13) (v := ?_) (by simp only [List.getElem?_toArray, List.getElem?_cons_succ, List.getElem?_cons_zero] <;> exact rfl) (by kernel_rfl) (by kernel_rfl) (by kernel_rfl) (fun _ _ _ h => h) (Or.inl ⟨by rfl, ?_⟩) hS ?_
  rotate_left
  focus (intro w' hw'; go_simp; all_goals with_reducible rfl)
  try simp only [Act.put, List.setIfInBounds_toArray, List.set_cons_zero, List.set_cons_succ]
  refine wpAnyH_take (i := 14) (v := ?_) (by simp only [List.getElem?_toArray, List.getElem?_cons_succ, List.getElem?_cons_zero] <;> exact rfl) (by kernel_rfl) (by kernel_rfl) (by kernel_rfl) (fun _ _ _ h => h) (Or.inl ⟨by rfl, ?_⟩) hS ?_
  rotate_left
  focus (intro w' hw'; go_simp; all_goals with_reducible rfl)
  try simp only [Act.put, List.setIfInBounds_toArray, List.set_cons_zero, List.set_cons_succ]
  refine wpAnyH_done (by kernel_rfl) ?_ _
  refine NoPanic.normal ?_
  have hb21 := hS
  have Kga21 := hide (K3.out.keep hb21)
  have Kgb21 := hide (K4.out.keep hb21)
  have B21 := hide (B2.out.trans (hb21.mono B2.out.size))
  clear hb21 K3 K4 B2
  clear hS
  have e7 : (6 : Int) != 0 := by decide
  go_wp2_with (first | refine wpList_built rfl 26 _ rfl _ st_built1 ?_ | refine wpList_store_blk rfl 26 (.tmp 4) (.tmp 40) rfl gb #[.int .i64 0, .string ⟨#[]⟩, .bool true] #[.int .i64 0, .string ⟨#[]⟩, .bool false] 26 rfl rfl Kgb21.out st_size rfl (st_one _ _ _) ?_)
  refine bodyPost_ret (results_st rfl _ _ gb _ _ _ rfl (Kgb21.out.row _) _ _ rfl rfl) rfl ⟨v3, rfl, ?_, below_setRow B21.out (by rw [HGB.out, HGA.out]; omega) _⟩
  exact own_base (own_row_far O3.out LG.out _) L2.out

set_option maxRecDepth 100000 in
set_option maxHeartbeats 1600000 in
theorem sp_Feed_go (g : Int) (B : ByteArray) (d : Bool) (A : Option Addr) (n cap : Nat) (xs : List Int) (hS : (B.size : Int) ≤ 2000) (hn : (n : Int) ≤ 1000) (hg : Sp.goes ⟨g, bts B, d⟩ = true) (hgr : greetB g.toNat xs = true) (tl : List Int) (hq : (cutS (bts B ++ xs.drop (min n (24 - g.toNat)))).2 = some tl) (hcap : n ≤ cap) (hc63 : (cap : Int) ≤ 9223372036854775807) (hnil : A = none → cap = 0) (w : World) (hr : RB w A n xs) :
    Calls Try.prog 7 #[.agg #[.int .i64 g, .string B, .bool d], .slice A n cap] w (GivesFeed (feedS ⟨g, bts B, d⟩ xs) w) := by
  rw [feed_yes hg hgr]
  have hz := run_zero_is st_zero10
  have h0 : 0 ≤ g := (goes_of hg).2.1
  have h1 : g ≤ 24 := (goes_of hg).2.2.1
  obtain ⟨k, rfl⟩ : ∃ k : Nat, g = (k : Int) := ⟨g.toNat, by omega⟩
  have hk : k ≤ 24 := by omega
  rw [show (((k : Nat) : Int)).toNat = k from rfl] at hgr hq
  have HC := hide (fun w => sp_goesOn (k : Int) B d hS w)
  have HG := hide (fun w (h : RB w A n xs) => sp_greeting k hk A n cap xs w h hn)
  have HR := hide hr
  rw [hg] at HC
  rw [hgr] at HG
  rw [if_pos rfl] at HG
  have hxl : xs.length = n := hr.1
  rw [hxl]
  rw [show ((⟨(k : Int), bts B, d⟩ : Sp).g).toNat = k from rfl]
  obtain ⟨m, hm⟩ : ∃ m, m = min n (24 - k) := ⟨_, rfl⟩
  rw [← hm] at HG hq ⊢
  have hmn : m ≤ n := by omega
  have hmn' : (m : Int) ≤ (n : Int) := by omega
  have hkm : (k : Int) + (m : Int) ≤ 24 := by omega
  obtain ⟨Y, hY⟩ : ∃ Y, Y = B ++ strOfNums (xs.drop m) := ⟨_, rfl⟩
  have HYB := hide (show bts Y = bts B ++ xs.drop m by rw [hY, bts_app, bts_str _ ((rb_all hr).drop m)])
  have HYS := hide (show (Y.size : Int) ≤ 5000 by rw [← bts_len, HYB.out, List.length_append, bts_len, List.length_drop]; omega)
  have HCUT := hide (fun w => sp_cut Y HYS.out w)
  rw [HYB.out] at HCUT
  rw [show (⟨(k : Int), bts B, d⟩ : Sp).b = bts B from rfl, fed_some hq]
  have htl : (tl.length : Int) ≤ 5000 := by
    have := cutS_le _ tl hq
    rw [List.length_append, bts_len, List.length_drop] at this
    omega
  have hta : AllB tl := cutS_all _ (fun x hx => by
    rcases List.mem_append.1 hx with h | h
    · exact bts_all B x h
    · exact (rb_all hr).drop m x h) tl hq
  obtain ⟨ql, hql⟩ : ∃ ql, ql = (cutS (bts B ++ xs.drop m)).1 := ⟨_, rfl⟩
  have hQ : cutS (bts B ++ xs.drop m) = (ql, some tl) := by rw [hql, ← hq]
  rw [hQ] at HCUT ⊢
  have hst : (strOfNums tl).size = tl.length := by rw [← bts_len, bts_str tl hta]
  have HCL := hide (fun w => fr_clone (strOfNums tl) (by rw [hst]; omega) w)
  have HW := hide (IntWalk.i64_in ((k : Int) + (m : Int)) (by omega))
  simp only
  clear hql hq hQ htl hta hst
  have HADD := hide (show ¬ 9223372036854775807 < B.size + (strOfNums (xs.drop m)).size by
    have e : Y.size = B.size + (strOfNums (xs.drop m)).size := by rw [hY, ByteArray.size_append]
    have := HYS.out
    omega)
  have HY := hide hY
  clear hg hS hn hr hgr hm hxl hY
  go_enter Try.func7, Try.ntmps7
  go_wp2_with fail
  refine (HC.out _).mono ?_
  rintro e w1 ⟨rfl, hb1⟩
  have B1 := hide ((((Below.refl w.heap.size w).alloc (Nat.le_refl _) (.cells #[.int .i64 k, .string B, .bool d] 26)).alloc (by simp) (.cells #[.int .i64 0, .string ⟨#[]⟩, .bool false] 26)).trans (hb1.mono (by simp; omega)))
  have K1 := hide (((BlkIs.new w 26 #[.int .i64 k, .string B, .bool d]).alloc (.cells #[.int .i64 0, .string ⟨#[]⟩, .bool false] 26)).keep hb1)
  have K2 := hide ((BlkIs.new (w.alloc (.cells #[.int .i64 k, .string B, .bool d] 26)) 26 #[.int .i64 0, .string ⟨#[]⟩, .bool false]).keep hb1)
  rw [World.size_alloc] at K2
  have R1 := hide (HR.out.below (((Below.refl w.heap.size w).alloc (Nat.le_refl _) (.cells #[.int .i64 k, .string B, .bool d] 26)).alloc (by simp) (.cells #[.int .i64 0, .string ⟨#[]⟩, .bool false] 26) |>.trans (hb1.mono (by simp; omega))))
  clear hb1 HR
  have c0 := K1.out.cell 0
  simp only [List.getElem?_toArray, List.getElem?_cons_zero, List.getElem?_cons_succ] at c0
  go_wp2_with fail
  refine (HG.out _ R1.out).mono ?_
  rintro e w2 ⟨rfl, hb2⟩
  have B2 := hide (B1.out.trans (hb2.mono B1.out.size))
  have K3 := hide (K1.out.keep hb2)
  have K4 := hide (K2.out.keep hb2)
  have R2 := hide (R1.out.below hb2)
  clear hb2 c0 B1 K1 K2 R1
  obtain ⟨qa, hsl, hqr, hqn⟩ := slice_low R2.out hcap hnil m hmn
  have HQR := hide hqr
  obtain ⟨nm, hnm⟩ : ∃ x, x = n - m := ⟨_, rfl⟩
  obtain ⟨cm, hcm⟩ : ∃ x, x = cap - m := ⟨_, rfl⟩
  rw [← hnm] at HQR
  simp only [← hnm, ← hcm] at hsl
  clear hnm hcm hqr hqn R2
  obtain ⟨ga, hga⟩ : ∃ g, g = w.heap.size := ⟨_, rfl⟩
  have HGA := hide hga
  rw [← hga] at K3 K4 ⊢
  clear hga
  obtain ⟨gb, hgb⟩ : ∃ g, g = ga + 1 := ⟨_, rfl⟩
  have HGB := hide hgb
  rw [← hgb] at K4 ⊢
  clear hgb
  have LG := hide K4.out.lt
  have L2 := hide B2.out.size
  go_wp2_with fail
  refine wp_region_noPanic ?_
  refine wp_region_held_drew (S := fun w' => Below w2.heap.size w2 w') (by kernel_rfl) (Below.refl _ _).drew (fun hS => ?_)
  refine wpAnyH_take (i := 0) (v := ?_) (by simp only [List.getElem?_toArray, List.getElem?_cons_zero] <;> exact rfl) (by kernel_rfl) (by kernel_rfl) (by kernel_rfl) (fun _ _ _ h => h) (Or.inl ⟨by rfl, ?_⟩) hS ?_
  rotate_left
  focus (intro w' hw'; go_simp; all_goals with_reducible rfl)
  try simp only [Act.put, List.setIfInBounds_toArray, List.set_cons_zero, List.set_cons_succ]
  refine wpAnyH_take (i := 1) (v := ?_) (by simp only [List.getElem?_toArray, List.getElem?_cons_succ, List.getElem?_cons_zero] <;> exact rfl) (by kernel_rfl) (by kernel_rfl) (by kernel_rfl) (fun _ _ _ h => h) (Or.inl ⟨by rfl, ?_⟩) hS ?_
  rotate_left
  focus (intro w' hw'; have kk := (K3.out.keep hw').cell 1; simp only [List.getElem?_toArray, List.getElem?_cons_zero, List.getElem?_cons_succ] at kk; go_simp; all_goals with_reducible rfl)
  try simp only [Act.put, List.setIfInBounds_toArray, List.set_cons_zero, List.set_cons_succ]
  refine wpAnyH_take (i := 2) (v := ?_) (by simp only [List.getElem?_toArray, List.getElem?_cons_succ, List.getElem?_cons_zero] <;> exact rfl) (by kernel_rfl) (by kernel_rfl) (by kernel_rfl) (fun _ _ _ h => h) (Or.inl ⟨by rfl, ?_⟩) hS ?_
  rotate_left
  focus (intro w' hw'; go_simp; all_goals with_reducible rfl)
  try simp only [Act.put, List.setIfInBounds_toArray, List.set_cons_zero, List.set_cons_succ]
  refine wpAnyH_take (i := 3) (v := ?_) (by simp only [List.getElem?_toArray, List.getElem?_cons_succ, List.getElem?_cons_zero] <;> exact rfl) (by kernel_rfl) (by kernel_rfl) (by kernel_rfl) (fun _ _ _ h => h) (Or.inl ⟨by rfl, ?_⟩) hS ?_
  rotate_left
  focus (intro w' hw'; go_simp; all_goals with_reducible rfl)
  try simp only [Act.put, List.setIfInBounds_toArray, List.set_cons_zero, List.set_cons_succ]
  refine wpAnyH_take (i := 4) (v := ?_) (by simp only [List.getElem?_toArray, List.getElem?_cons_succ, List.getElem?_cons_zero] <;> exact rfl) (by kernel_rfl) (by kernel_rfl) (by kernel_rfl) (fun _ _ _ h => h) (Or.inl ⟨by rfl, ?_⟩) hS ?_
  rotate_left
  focus (intro w' hw'; have kk := hsl w'; go_simp; all_goals with_reducible rfl)
  try simp only [Act.put, List.setIfInBounds_toArray, List.set_cons_zero, List.set_cons_succ]
  refine wpAnyH_take (i := 5) (v := ?_) (by simp only [List.getElem?_toArray, List.getElem?_cons_succ, List.getElem?_cons_zero] <;> exact rfl) (by kernel_rfl) (by kernel_rfl) (by kernel_rfl) (fun _ _ _ h => h) (Or.inl ⟨by rfl, ?_⟩) hS ?_
  rotate_left
  focus (intro w' hw'; have kk := rb_string cm (HQR.out.below hw'); go_simp; all_goals with_reducible rfl)
  try simp only [Act.put, List.setIfInBounds_toArray, List.set_cons_zero, List.set_cons_succ]
  refine wpAnyH_take (i := 6) (v := ?_) (by simp only [List.getElem?_toArray, List.getElem?_cons_succ, List.getElem?_cons_zero] <;> exact rfl) (by kernel_rfl) (by kernel_rfl) (by kernel_rfl) (fun _ _ _ h => h) (Or.inl ⟨by rfl, ?_⟩) hS ?_
  rotate_left
  focus (intro w' hw'; have hadd := HADD.out; go_simp; all_goals with_reducible rfl)
  try simp only [Act.put, List.setIfInBounds_toArray, List.set_cons_zero, List.set_cons_succ]
  refine wpAnyH_ready (rs := [7]) (by kernel_rfl) (by simp) ?_
  refine AllReadyH.cons (o := _) (by simp only [List.getElem?_toArray, List.getElem?_cons_succ, List.getElem?_cons_zero] <;> exact rfl) (fun K hK => ?_) ?_
  focus (
    go_simp
    go_at_call 19
    refine (cut_at HY.out HCUT.out (strOfNums tl) 0 rfl rfl _).mono ?_
    rintro e wc1 ⟨v3, rfl, hown3, hb⟩
    have hS := hS.trans (hb.mono hS.size)
    have O3 := hide hown3
    clear hown3
    clear hb
    go_wp2_with fail
    refine hK.out _ _ hS (fun _ => ?_)
    clear hK K
    try simp only [Act.put, List.setIfInBounds_toArray, List.set_cons_zero, List.set_cons_succ])
  rotate_left
  focus (exact AllReadyH.nil)
  refine wpAnyH_take (i := 8) (v := ?_) (by simp only [List.getElem?_toArray, List.getElem?_cons_succ, List.getElem?_cons_zero] <;> exact rfl) (by kernel_rfl) (by kernel_rfl) (by kernel_rfl) (fun _ _ _ h => h) (Or.inl ⟨by rfl, ?_⟩) hS ?_
  rotate_left
  focus (intro w' hw'; go_simp; all_goals with_reducible rfl)
  try simp only [Act.put, List.setIfInBounds_toArray, List.set_cons_zero, List.set_cons_succ]
  refine wpAnyH_take (i := 9) (v := ?_) (by simp only [List.getElem?_toArray, List.getElem?_cons_succ, List.getElem?_cons_zero] <;> exact rfl) (by kernel_rfl) (by kernel_rfl) (by kernel_rfl) (fun _ _ _ h => h) (Or.inl ⟨by rfl, ?_⟩) hS ?_
  rotate_left
  focus (intro w' hw'; go_simp; all_goals with_reducible rfl)
  try simp only [Act.put, List.setIfInBounds_toArray, List.set_cons_zero, List.set_cons_succ]
  refine wpAnyH_take (i := 10) (v := ?_) (by simp only [List.getElem?_toArray, List.getElem?_cons_succ, List.getElem?_cons_zero] <;> exact rfl) (by kernel_rfl) (by kernel_rfl) (by kernel_rfl) (fun _ _ _ h => h) (Or.inl ⟨by rfl, ?_⟩) hS ?_
  rotate_left
  focus (intro w' hw'; go_simp; all_goals with_reducible rfl)
  try simp only [Act.put, List.setIfInBounds_toArray, List.set_cons_zero, List.set_cons_succ]
  refine wpAnyH_take (i := 11) (v := ?_) (by simp only [List.getElem?_toArray, List.getElem?_cons_succ, List.getElem?_cons_zero] <;> exact rfl) (by kernel_rfl) (by kernel_rfl) (by kernel_rfl) (fun _ _ _ h => h) (Or.inl ⟨by rfl, ?_⟩) hS ?_
  rotate_left
  focus (intro w' hw'; go_simp; all_goals with_reducible rfl)
  try simp only [Act.put, List.setIfInBounds_toArray, List.set_cons_zero, List.set_cons_succ]
  refine wpAnyH_take (i := 12) (v := ?_) (by simp only [List.getElem?_toArray, List.getElem?_cons_succ, List.getElem?_cons_zero] <;> exact rfl) (by kernel_rfl) (by kernel_rfl) (by kernel_rfl) (fun _ _ _ h => h) (Or.inl ⟨by rfl, ?_⟩) hS ?_
  rotate_left
  focus (intro w' hw'; go_simp; all_goals with_reducible rfl)
  try simp only [Act.put, List.setIfInBounds_toArray, List.set_cons_zero, List.set_cons_succ]
  refine wpAnyH_take (i := 13) (v := ?_) (by simp only [List.getElem?_toArray, List.getElem?_cons_succ, List.getElem?_cons_zero] <;> exact rfl) (by kernel_rfl) (by kernel_rfl) (by kernel_rfl) (fun _ _ _ h => h) (Or.inl ⟨by rfl, ?_⟩) hS ?_
  rotate_left
  focus (intro w' hw'; go_simp; all_goals with_reducible rfl)
  try simp only [Act.put, List.setIfInBounds_toArray, List.set_cons_zero, List.set_cons_succ]
  refine wpAnyH_take (i := 14) (v := ?_) (by simp only [List.getElem?_toArray, List.getElem?_cons_succ, List.getElem?_cons_zero] <;> exact rfl) (by kernel_rfl) (by kernel_rfl) (by kernel_rfl) (fun _ _ _ h => h) (Or.inl ⟨by rfl, ?_⟩) hS ?_
  rotate_left
  focus (intro w' hw'; go_simp; all_goals with_reducible rfl)
  try simp only [Act.put, List.setIfInBounds_toArray, List.set_cons_zero, List.set_cons_succ]
  refine wpAnyH_done (by kernel_rfl) ?_ _
  refine NoPanic.normal ?_
  have hb21 := hS
  have Kga21 := hide (K3.out.keep hb21)
  have Kgb21 := hide (K4.out.keep hb21)
  have B21 := hide (B2.out.trans (hb21.mono B2.out.size))
  clear hb21 K3 K4 B2
  clear hS
  go_wp2_with fail
  have NE := hide (show ga ≠ gb by rw [HGB.out]; omega)
  have L3 := hide B21.out.size
  refine wp_region_noPanic ?_
  refine wp_region_held_drew (S := fun w' => KB (· = gb) wc1 w') (by kernel_rfl) (KB.refl _ _).drew (fun hS => ?_)
  refine wpAnyH_take (i := 0) (v := ?_) (by simp only [List.getElem?_toArray, List.getElem?_cons_zero] <;> exact rfl) (by kernel_rfl) (by kernel_rfl) (by kernel_rfl) (fun _ _ _ h => h) (Or.inl ⟨by rfl, ?_⟩) hS ?_
  rotate_left
  focus (intro w' hw'; go_simp; all_goals with_reducible rfl)
  try simp only [Act.put, List.setIfInBounds_toArray, List.set_cons_zero, List.set_cons_succ]
  refine wpAnyH_take (i := 1) (v := ?_) (by simp only [List.getElem?_toArray, List.getElem?_cons_succ, List.getElem?_cons_zero] <;> exact rfl) (by kernel_rfl) (by kernel_rfl) (by kernel_rfl) (fun _ _ _ h => h) (Or.inl ⟨by rfl, ?_⟩) hS ?_
  rotate_left
  focus (intro w' hw'; have kk := (KB.blk hw' Kga21.out NE.out).cell 0; simp only [List.getElem?_toArray, List.getElem?_cons_zero, List.getElem?_cons_succ] at kk; go_simp; all_goals with_reducible rfl)
  try simp only [Act.put, List.setIfInBounds_toArray, List.set_cons_zero, List.set_cons_succ]
  refine wpAnyH_take (i := 2) (v := ?_) (by simp only [List.getElem?_toArray, List.getElem?_cons_succ, List.getElem?_cons_zero] <;> exact rfl) (by kernel_rfl) (by kernel_rfl) (by kernel_rfl) (fun _ _ _ h => h) (Or.inl ⟨by rfl, ?_⟩) hS ?_
  rotate_left
  focus (intro w' hw'; go_simp; all_goals with_reducible rfl)
  try simp only [Act.put, List.setIfInBounds_toArray, List.set_cons_zero, List.set_cons_succ]
  refine wpAnyH_take (i := 3) (v := ?_) (by simp only [List.getElem?_toArray, List.getElem?_cons_succ, List.getElem?_cons_zero] <;> exact rfl) (by kernel_rfl) (by kernel_rfl) (by kernel_rfl) (fun _ _ _ h => h) (Or.inl ⟨by rfl, ?_⟩) hS ?_
  rotate_left
  focus (intro w' hw'; have kk := HW.out; go_simp; all_goals with_reducible rfl)
  try simp only [Act.put, List.setIfInBounds_toArray, List.set_cons_zero, List.set_cons_succ]
  refine wpAnyH_take (i := 4) (v := ?_) (by simp only [List.getElem?_toArray, List.getElem?_cons_succ, List.getElem?_cons_zero] <;> exact rfl) (by kernel_rfl) (by kernel_rfl) (by kernel_rfl) (fun _ _ _ h => h) (Or.inl ⟨by rfl, ?_⟩) hS ?_
  rotate_left
  focus (intro w' hw'; go_simp; all_goals with_reducible rfl)
  try simp only [Act.put, List.setIfInBounds_toArray, List.set_cons_zero, List.set_cons_succ]
  refine wpAnyH_take (i := 7) (v := ?_) (by simp only [List.getElem?_toArray, List.getElem?_cons_succ, List.getElem?_cons_zero] <;> exact rfl) (by kernel_rfl) (by kernel_rfl) (by kernel_rfl) (fun _ _ _ h => h) (Or.inl ⟨by rfl, ?_⟩) hS ?_
  rotate_left
  focus (intro w' hw'; go_simp; all_goals with_reducible rfl)
  try simp only [Act.put, List.setIfInBounds_toArray, List.set_cons_zero, List.set_cons_succ]
  refine wpAnyH_ready (rs := [5]) (by kernel_rfl) (by simp) ?_
  refine AllReadyH.cons (o := _) (by simp only [List.getElem?_toArray, List.getElem?_cons_succ, List.getElem?_cons_zero] <;> exact rfl) (fun K hK => ?_) ?_
  focus (
    go_simp
    go_at_call 20
    refine (HCL.out _).mono ?_
    rintro e wc2 ⟨rfl, hb⟩
    have KB5 := hide (Kgb21.out.drew.keep hb)
    have BB5 := hide (B21.out.drew.trans (hb.mono B21.out.size))
    have O5 := hide (own_keep5 (w := wc1.drew) (w' := wc2) (own_drew5 O3.out) hb)
    have hS := hS.trans (KB.of_below _ hb)
    clear hb
    go_wp2_with fail
    refine hK.out _ _ hS (fun _ => ?_)
    clear hK K
    try simp only [Act.put, List.setIfInBounds_toArray, List.set_cons_zero, List.set_cons_succ])
  rotate_left
  focus (exact AllReadyH.nil)
  refine wpAnyH_take (i := 6) (v := ?_) (by simp only [List.getElem?_toArray, List.getElem?_cons_succ, List.getElem?_cons_zero] <;> exact rfl) (by kernel_rfl) (by kernel_rfl) (by kernel_rfl) (fun _ _ _ h => h) (Or.inl ⟨by rfl, ?_⟩) hS ?_
  rotate_left
  focus (intro w' hw'; have kk := st_built2 ((k : Int) + (m : Int)) (strOfNums tl); go_simp; all_goals with_reducible rfl)
  try simp only [Act.put, List.setIfInBounds_toArray, List.set_cons_zero, List.set_cons_succ]
  refine wpAnyH_ready (rs := [8]) (by kernel_rfl) (by simp) ?_
  refine AllReadyH.cons (o := _) (by simp only [List.getElem?_toArray, List.getElem?_cons_succ, List.getElem?_cons_zero] <;> exact rfl) (fun K hK => ?_) ?_
  focus (
    refine rgs_store_blk rfl 26 (.tmp 4) (.tmp 49) rfl gb #[.int .i64 ((k : Int) + (m : Int)), .string (strOfNums tl), .bool false] #[.int .i64 0, .string ⟨#[]⟩, .bool false] 26 rfl rfl KB5.out st_size rfl (st_one _ _ _) ?_
    have hS := hS.setRow (g := gb) (fun _ => rfl) #[.int .i64 ((k : Int) + (m : Int)), .string (strOfNums tl), .bool false]
    refine hK.out _ _ hS (fun _ => ?_)
    clear hK K
    try simp only [Act.put, List.setIfInBounds_toArray, List.set_cons_zero, List.set_cons_succ])
  rotate_left
  focus (exact AllReadyH.nil)
  refine wpAnyH_take (i := 9) (v := ?_) (by simp only [List.getElem?_toArray, List.getElem?_cons_succ, List.getElem?_cons_zero] <;> exact rfl) (by kernel_rfl) (by kernel_rfl) (by kernel_rfl) (fun _ _ _ h => h) (Or.inl ⟨by rfl, ?_⟩) hS ?_
  rotate_left
  focus (intro w' hw'; go_simp; all_goals with_reducible rfl)
  try simp only [Act.put, List.setIfInBounds_toArray, List.set_cons_zero, List.set_cons_succ]
  refine wpAnyH_take (i := 10) (v := ?_) (by simp only [List.getElem?_toArray, List.getElem?_cons_succ, List.getElem?_cons_zero] <;> exact rfl) (by kernel_rfl) (by kernel_rfl) (by kernel_rfl) (fun _ _ _ h => h) (Or.inl ⟨by rfl, ?_⟩) hS ?_
  rotate_left
  focus (intro w' hw'; go_simp; all_goals with_reducible rfl)
  try simp only [Act.put, List.setIfInBounds_toArray, List.set_cons_zero, List.set_cons_succ]
  refine wpAnyH_done (by kernel_rfl) ?_ _
  refine NoPanic.normal ?_
  clear hS
  go_wp2_with fail
  refine bodyPost_ret (results_st rfl _ _ gb _ _ _ rfl (KB5.out.row _) _ _ rfl rfl) rfl ⟨v3, rfl, own_base (own_row_far O5.out LG.out _) L2.out, below_setRow BB5.out (by rw [HGB.out, HGA.out]; omega) _⟩

/-- Feed, whatever the state. -/
theorem sp_Feed (g : Int) (B : ByteArray) (d : Bool) (A : Option Addr) (n cap : Nat) (xs : List Int) (hS : (B.size : Int) ≤ 2000) (hn : (n : Int) ≤ 1000) (hcap : n ≤ cap) (hc63 : (cap : Int) ≤ 9223372036854775807) (hnil : A = none → cap = 0) (w : World) (hr : RB w A n xs) :
    Calls Try.prog 7 #[.agg #[.int .i64 g, .string B, .bool d], .slice A n cap] w (GivesFeed (feedS ⟨g, bts B, d⟩ xs) w) := by
  cases hg : Sp.goes ⟨g, bts B, d⟩ with
  | false => exact sp_Feed_stop g B d A n cap xs hS hg w
  | true =>
    cases hgr : greetB g.toNat xs with
    | false => exact sp_Feed_bad g B d A n cap xs hS hn hg hgr w hr
    | true =>
      cases hq : (cutS (bts B ++ xs.drop (min n (24 - g.toNat)))).2 with
      | none => exact sp_Feed_long g B d A n cap xs hS hn hg hgr hq hcap hc63 hnil w hr
      | some tl => exact sp_Feed_go g B d A n cap xs hS hn hg hgr tl hq hcap hc63 hnil w hr
end Go.Proofs.Ytojcjmjohibpaaa
