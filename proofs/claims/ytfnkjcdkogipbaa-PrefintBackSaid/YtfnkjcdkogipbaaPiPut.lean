/-
  Contracts for layer 1's functions that make bytes: putGroups, Put; and the document's Put, Size.
-/
import Derived.Test.YtfnkjcdkogipbaaPiNum
namespace Go.Proofs.Ytfnkjcdkogipbaa
open Go.RowKit

theorem u8_info : (Try.prog.info? 5).map (fun i => (i.zero, i.size, i.bytes)) = some (some (.int .u8 0), 1, 1) := by kernel_rfl

def u8s (l : List Int) : List Value := l.map (Value.int .u8)

/-- What a call of the kind leaves: a slice of its own, with these bytes. -/
def GivesRow (B : Nat) (l : List Int) (w : World) (e : Ending) (w' : World) : Prop :=
  ∃ v, e = .returned v ∧ w'.ownsRow B 5 1 v l.length (u8s l) ∧ Below B w w'

theorem u8s_snoc (l : List Int) (x : Int) : u8s (l ++ [x]) = u8s l ++ [.int .u8 x] := by simp [u8s]

theorem shr_nat (m k : Nat) : (m : Int) / 2 ^ (k * 7) = ((m / 2 ^ (k * 7) : Nat) : Int) := by simp
theorem shr_succ (m k : Nat) : m / 2 ^ ((k + 1) * 7) = m / 2 ^ (k * 7) / 128 := by
  rw [Nat.add_mul, Nat.pow_add, Nat.div_div_eq_div_mul]

theorem one_new (w : World) (t : TypeId) (x : Value) : ∀ j u, [x][j]? = some u → (w.alloc (.cells #[x] t)).cell? ((⟨w.heap.size, 0, none⟩ : Addr).add j) = some u := by
  intro j u hj
  match j, hj with
  | 0, hj =>
    simp at hj; subst hj
    simp [Addr.add, World.cell?_alloc_at]

theorem one_cell (k : IntKind) (n : Int) : ∀ u ∈ [Value.int k n], u.oneCell' = true := by
  intro u hu; simp at hu; subst hu; rfl

theorem own_below {B : Nat} {e : TypeId} {size n : Nat} {v : Value} {xs : List Value} {w w' W : World} (h : W.ownsRow B e size v n xs) (hb : Below B w W) (hB : B ≤ w.heap.size) (hg : W.grownBy w' v.ownBlock) : Below B w w' :=
  hb.grown hg (by have := hb.size; omega) fun k hk => (h.lt k hk).1

set_option maxHeartbeats 800000 in
theorem pi_putGroups (B : Nat) (v : Value) (xs : List Int) (m : Nat) (w : World) (hB : B ≤ w.heap.size) (hm : m < 268435456) (hx : xs.length ≤ 1000) (hown : w.ownsRow B 5 1 v xs.length (u8s xs)) :
    Calls Try.prog 19 #[v, .int .i64 (m : Int)] w (GivesRow B (xs ++ grp m) w) := by
  obtain ⟨i0, hi0, hz0, hz1, hz2⟩ := info_parts u8_info
  have c1 := cnt_le hm
  have c2 := cnt_pos m
  go_enter Try.func19, Try.ntmps19
  go_wp2_with (go_at_call 21; refine (pi_countGroups m hm _).mono ?_; rintro e w' ⟨rfl, rfl⟩)
  go_loopw [0, 11] (fun b i wr => ∃ (k : Nat) (ys : List Int), i = .int .i64 (k : Int) ∧ k + cnt (m / 2 ^ (k * 7)) = cnt m ∧ ys.length = xs.length + k ∧ wr.ownsRow B 5 1 b ys.length (u8s ys) ∧ ys ++ grp (m / 2 ^ (k * 7)) = xs ++ grp m ∧ Below B w wr)
    (fun _ i _ => cnt m - (intOf i).toNat)
  case atStart => exact ⟨0, xs, rfl, by simp, by simp, hown, by simp, Below.refl _ _⟩
  case round =>
    obtain ⟨k, ys, rfl, hk, hy, hownr, hg, hbel⟩ := hrel
    have p1 := cnt_pos (m / 2 ^ (k * 7))
    have hq := shr_nat m k
    have hsz := hbel.size
    have HS := hide (shr_succ m k)
    obtain ⟨q, hqq⟩ : ∃ q, q = m / 2 ^ (k * 7) := ⟨_, rfl⟩
    rw [← hqq] at hk hg hq p1
    have HQ := hide hqq
    have hk4 : k ≤ 3 := by omega
    have hyl : ys.length ≤ 1003 := by omega
    have HK := hide hk
    have HY := hide hy
    have HG := hide hg
    clear hk hy hg hqq
    by_cases hlt : (k : Int) < (cnt m : Int) - 1
    · have q1 : 128 ≤ q := by
        have := HK.out
        by_cases h : q < 128
        · rw [cnt_low h] at this; omega
        · omega
      have hb := bits_or128 ((q : Int) % 256) (by omega) (by omega)
      rw [show (q : Int) % 256 % 128 = (q : Int) % 128 by omega] at hb
      go_wp2_with (at_builtin; refine wpList_append_own _ rfl (.tmp 14) (.tmp 21) 22 rfl B 5 i0 (.int .u8 0) 1 1 Try.underlying22 hi0 hz0 hz1 hz2 rfl (by decide) _ ys.length (u8s ys) rfl (hownr.alloc _) ⟨wr.heap.size, 0, none⟩ 1 1 [.int .u8 (128 + (q : Int) % 128)] rfl rfl (one_new _ _ _) (one_cell _ _) (by unfold maxLen; omega) (by omega) (by simp; omega) ?_; intro v1 w1 hown1 hg1 _)
      have hbel1 := own_below (hownr.alloc _) (hbel.alloc (by omega) _) hB hg1
      rw [← u8s_snoc] at hown1
      go_roundw
      case rel =>
        refine ⟨k + 1, ys ++ [128 + (q : Int) % 128], by go_num, ?_, ?_, by simpa using hown1, ?_, hbel1⟩
        · rw [HS.out, ← HQ.out]
          have := HK.out
          rw [cnt_high q1] at this
          omega
        · have := HY.out
          simp; omega
        · have := HG.out
          rw [grp_high q1] at this
          rw [HS.out, ← HQ.out, ← this]
          simp
      case measure => simp [intOf]; omega
    · have q1 : q < 128 := by
        have := HK.out
        by_cases h : q < 128
        · exact h
        · rw [cnt_high (by omega)] at this
          have := cnt_pos (q / 128)
          omega
      have hke : (cnt m : Int) - 1 = (k : Int) := by
        have := HK.out
        rw [cnt_low q1] at this
        omega
      go_wp2_with (at_builtin; refine wpList_append_own _ rfl (.tmp 24) (.tmp 30) 22 rfl B 5 i0 (.int .u8 0) 1 1 Try.underlying22 hi0 hz0 hz1 hz2 rfl (by decide) _ ys.length (u8s ys) rfl (hownr.alloc _) ⟨wr.heap.size, 0, none⟩ 1 1 [.int .u8 (q : Int)] rfl rfl (one_new _ _ _) (one_cell _ _) (by unfold maxLen; omega) (by omega) (by simp; omega) ?_; intro v1 w1 hown1 hg1 _)
      have hbel1 := own_below (hownr.alloc _) (hbel.alloc (by omega) _) hB hg1
      rw [← u8s_snoc] at hown1
      go_ret
      refine ⟨v1, rfl, ?_, hbel1⟩
      have := HG.out
      rw [grp_low q1] at this
      rw [← this]
      simpa using hown1
theorem pi_putGroups' (x : Int) (B : Nat) (v : Value) (xs : List Int) (m : Nat) (w : World) (hx' : x = m) (hB : B ≤ w.heap.size) (hm : m < 268435456) (hx : xs.length ≤ 1000) (hown : w.ownsRow B 5 1 v xs.length (u8s xs)) :
    Calls Try.prog 19 #[v, .int .i64 x] w (GivesRow B (xs ++ grp m) w) := by
  subst hx'; exact pi_putGroups B v xs m w hB hm hx hown

/-- The bytes of a number. -/
def putI (c : Int) (k n : Nat) : List Int :=
  if n < 2 ^ k - 1 then [restN c k + n] else (restN c k + (2 ^ k - 1)) :: grp (n - (2 ^ k - 1))

theorem putI_low {c : Int} {k n : Nat} (h : n < 2 ^ k - 1) : putI c k n = [restN c k + n] := if_pos h
theorem putI_high {c : Int} {k n : Nat} (h : ¬ n < 2 ^ k - 1) : putI c k n = [restN c k + (2 ^ k - 1)] ++ grp (n - (2 ^ k - 1)) := if_neg h
theorem putI_len (c : Int) (k n : Nat) : (putI c k n).length = sizeN k n := by
  unfold putI sizeN
  split
  · rfl
  · rw [List.length_cons, grp_len]; omega

/-- What Put leaves where all is right. -/
def GivesPut (B : Nat) (l : List Int) (code : Int) (w : World) (e : Ending) (w' : World) : Prop :=
  ∃ v, e = .returned (.tuple #[v, .int .i64 code]) ∧ w'.ownsRow B 5 1 v l.length (u8s l) ∧ Below B w w'

theorem nat_pow_int (k : Nat) : ((2 ^ k - 1 : Nat) : Int) = 2 ^ k - 1 := by
  have h : 0 < 2 ^ k := Nat.pow_pos (by omega)
  have e : ((2 ^ k : Nat) : Int) = (2 : Int) ^ k := by simp
  omega

theorem own_one (w : World) (B : Nat) (x : Int) (hB : B ≤ w.heap.size) : (w.alloc (.cells #[.int .u8 x] 5)).ownsRow B 5 1 (.slice (some ⟨w.heap.size, 0, none⟩) 1 1) 1 (u8s [x]) :=
  ⟨rfl, .inr ⟨w.heap.size, 1, _, rfl, hB, heap_alloc_new w _, by omega, by unfold maxLen; omega, rfl, rfl⟩⟩

theorem pi_Put (c : Int) (h0 : 0 ≤ c) (h1 : c ≤ 255) (k n : Nat) (hk1 : 1 ≤ k) (hk8 : k ≤ 8) (hn : n < 268435456) (w : World) :
    Calls Try.prog 7 #[.int .u8 c, .int .i64 k, .int .i64 n] w (GivesPut w.heap.size (putI c k n) 0 w) := by
  have ⟨b1, b2⟩ := pow_bd k hk8
  have ⟨r1, r2, r3, r4⟩ := restN_bd c h0 h1 k hk8
  clear r3
  have e1 := nat_pow_int k
  by_cases hlow : n < 2 ^ k - 1
  · rw [putI_low hlow]
    have hl : (n : Int) < 2 ^ k - 1 := by omega
    have hb := bits_or_rest c h0 h1 k hk8 n (by omega) (by omega)
    clear hlow e1
    go_enter Try.func7, Try.ntmps7
    go_wp2_with (first
      | (go_at_call 16; refine (pi_rightBits_yes _ (by omega) (by omega) _).mono ?_; rintro e w' ⟨rfl, rfl⟩)
      | (go_at_call 17; refine (pi_rightNumber_yes _ (by omega) (by omega) _).mono ?_; rintro e w' ⟨rfl, rfl⟩)
      | (go_at_call 11; refine (pi_Rest c h0 h1 k k (by omega) _).mono ?_; rintro e w' ⟨rfl, rfl⟩)
      | (go_at_call 18; refine (pi_lowest _ k rfl hk8 _).mono ?_; rintro e w' ⟨rfl, rfl⟩))
    go_ret2
    exact ⟨_, rfl, own_one w _ _ (Nat.le_refl _), (Below.refl _ _).alloc (Nat.le_refl _) _⟩
  · rw [putI_high hlow]
    have hl : ¬ (n : Int) < 2 ^ k - 1 := by omega
    have hb := bits_or_rest c h0 h1 k hk8 (2 ^ k - 1) (by omega) (by omega)
    have HM := hide (show (n : Int) - (2 ^ k - 1) = ((n - (2 ^ k - 1) : Nat) : Int) by omega)
    clear hlow e1
    go_enter Try.func7, Try.ntmps7
    go_wp2_with (first
      | (go_at_call 16; refine (pi_rightBits_yes _ (by omega) (by omega) _).mono ?_; rintro e w' ⟨rfl, rfl⟩)
      | (go_at_call 17; refine (pi_rightNumber_yes _ (by omega) (by omega) _).mono ?_; rintro e w' ⟨rfl, rfl⟩)
      | (go_at_call 11; refine (pi_Rest c h0 h1 k k (by omega) _).mono ?_; rintro e w' ⟨rfl, rfl⟩)
      | (go_at_call 18; refine (pi_lowest _ k rfl hk8 _).mono ?_; rintro e w' ⟨rfl, rfl⟩)
      | (go_at_call 19; refine (pi_putGroups' _ w.heap.size _ [restN c k + (2 ^ k - 1)] (n - (2 ^ k - 1)) _ HM.out (by simp) (by omega) (by simp) (own_one w _ _ (Nat.le_refl _))).mono ?_; rintro e w' ⟨v', rfl, hown', hbel'⟩))
    go_ret2
    exact ⟨_, rfl, hown', ((Below.refl _ _).alloc (Nat.le_refl _) _).trans hbel'⟩

theorem pi_Put_arg (c : Int) (x n : Int) (hx : x < 1 ∨ 8 < x) (w : World) :
    Calls Try.prog 7 #[.int .u8 c, .int .i64 x, .int .i64 n] w fun e w' => e = .returned (.tuple #[.slice none 0 0, .int .i64 2]) ∧ w = w' := by
  have HX := hide hx
  clear hx
  go_enter Try.func7, Try.ntmps7
  go_wp2_with (go_at_call 16; refine (pi_rightBits_no _ HX.out _).mono ?_; rintro e w' ⟨rfl, rfl⟩)
  go_ret2
  exact ⟨rfl, rfl⟩

theorem pi_Put_range (c : Int) (x n : Int) (h1 : 1 ≤ x) (h8 : x ≤ 8) (hn : n < 0 ∨ 268435455 < n) (w : World) :
    Calls Try.prog 7 #[.int .u8 c, .int .i64 x, .int .i64 n] w fun e w' => e = .returned (.tuple #[.slice none 0 0, .int .i64 8]) ∧ w = w' := by
  have HX := hide hn
  clear hn
  go_enter Try.func7, Try.ntmps7
  go_wp2_with (first
      | (go_at_call 16; refine (pi_rightBits_yes _ (by omega) (by omega) _).mono ?_; rintro e w' ⟨rfl, rfl⟩)
      | (go_at_call 17; refine (pi_rightNumber_no _ HX.out _).mono ?_; rintro e w' ⟨rfl, rfl⟩))
  go_ret2
  exact ⟨rfl, rfl⟩

end Go.Proofs.Ytfnkjcdkogipbaa
