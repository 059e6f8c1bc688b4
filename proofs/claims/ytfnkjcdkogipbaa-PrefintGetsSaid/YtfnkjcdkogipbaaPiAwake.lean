/-
  Layer 1's awake: it returns true, and leaves what was there as it was.
-/
import Derived.Test.YtfnkjcdkogipbaaPiRef
namespace Go.Proofs.Ytfnkjcdkogipbaa
open Go.RowKit

theorem own_keep {w w' : World} {B : Nat} {e : TypeId} {s n : Nat} {v : Value} {xs : List Value} (h : w.ownsRow B e s v n xs) (hb : Below w.heap.size w w') : w'.ownsRow B e s v n xs :=
  h.kept (row := none) ⟨hb.os, hb.tape, hb.output, hb.size, fun i hi _ => hb.block i hi⟩ (by cases v.ownBlock <;> simp)

/-- string(v) of a slice that is owned. -/
theorem own_string {w : World} {B : Nat} {v : Value} {l : List Int} (h : w.ownsRow B 5 1 v l.length (u8s l)) :
    (convert 22 9 v).run Try.prog w = .ok (.string (strOfNums l)) w := by
  rcases h.2 with ⟨rfl, hl⟩ | ⟨g, cap, cur, rfl, _, hg, hn, hm, hs, ht⟩
  · have : l = [] := List.eq_nil_of_length_eq_zero hl
    subst this
    rw [run_convert_bytes_nil w 22 5 Try.underlying22 Try.underlying5 0 0 9 Try.underlying9]
    rfl
  · refine run_convert_bytes_arg w 22 5 Try.underlying22 Try.underlying5 g 0 l.length cap l rfl (fun i hi => ?_) 9 Try.underlying9
    have := h.cells (g := g) rfl i (.int .u8 (l.getD i 0)) (by simp [u8s, List.getD, hi])
    simpa [Addr.add_lit] using this

/-- What Put answers, whatever it is given. -/
def putA (c x n : Int) : List Int × Int :=
  if x < 1 ∨ 8 < x then ([], 2) else if n < 0 ∨ 268435455 < n then ([], 8) else (putI c x.toNat n.toNat, 0)
def sizeA (x n : Int) : Int := (putA 0 x n).1.length

theorem gives_nil (w : World) (e : Ending) (w' : World) (code : Int) (h : e = .returned (.tuple #[.slice none 0 0, .int .i64 code]) ∧ w = w') : GivesPut w.heap.size [] code w e w' := by
  obtain ⟨rfl, rfl⟩ := h
  exact ⟨_, rfl, World.ownsRow_nil _ _ _ _, Below.refl _ _⟩

theorem pi_Put_any (c : Int) (h0 : 0 ≤ c) (h1 : c ≤ 255) (x n : Int) (w : World) :
    Calls Try.prog 7 #[.int .u8 c, .int .i64 x, .int .i64 n] w (GivesPut w.heap.size (putA c x n).1 (putA c x n).2 w) := by
  by_cases hx : x < 1 ∨ 8 < x
  · rw [show putA c x n = ([], 2) from if_pos hx]
    exact (pi_Put_arg c x n hx w).mono fun e w' h => gives_nil _ _ _ _ h
  by_cases hn : n < 0 ∨ 268435455 < n
  · rw [show putA c x n = ([], 8) by rw [putA, if_neg hx, if_pos hn]]
    exact (pi_Put_range c x n (by omega) (by omega) hn w).mono fun e w' h => gives_nil _ _ _ _ h
  · rw [show putA c x n = (putI c x.toNat n.toNat, 0) by rw [putA, if_neg hx, if_neg hn]]
    have := pi_Put c h0 h1 x.toNat n.toNat (by omega) (by omega) (by omega) w
    rwa [show ((x.toNat : Nat) : Int) = x by omega, show ((n.toNat : Nat) : Int) = n by omega] at this

theorem rf_Put_any (c : Int) (h0 : 0 ≤ c) (h1 : c ≤ 255) (x n : Int) (w : World) :
    Calls Try.prog 8 #[.int .u8 c, .int .i64 x, .int .i64 n] w (GivesPut w.heap.size (putA c x n).1 (putA c x n).2 w) := by
  by_cases hx : x < 1 ∨ 8 < x
  · rw [show putA c x n = ([], 2) from if_pos hx]
    exact (rf_Put_arg c x n hx w).mono fun e w' h => gives_nil _ _ _ _ h
  by_cases hn : n < 0 ∨ 268435455 < n
  · rw [show putA c x n = ([], 8) by rw [putA, if_neg hx, if_pos hn]]
    exact (rf_Put_range c x n (by omega) (by omega) hn w).mono fun e w' h => gives_nil _ _ _ _ h
  · rw [show putA c x n = (putI c x.toNat n.toNat, 0) by rw [putA, if_neg hx, if_neg hn]]
    have := rf_Put c h0 h1 x.toNat n.toNat (by omega) (by omega) (by omega) w
    rwa [show ((x.toNat : Nat) : Int) = x by omega, show ((n.toNat : Nat) : Int) = n by omega] at this

theorem sizeA_no {x n : Int} (h : (x < 1 ∨ 8 < x) ∨ (n < 0 ∨ 268435455 < n)) : sizeA x n = 0 := by
  unfold sizeA putA
  by_cases hx : x < 1 ∨ 8 < x
  · rw [if_pos hx]; rfl
  · rw [if_neg hx, if_pos (by omega)]; rfl
theorem sizeA_yes {x n : Int} (h : ¬ ((x < 1 ∨ 8 < x) ∨ (n < 0 ∨ 268435455 < n))) : sizeA x n = (sizeN x.toNat n.toNat : Int) := by
  unfold sizeA putA
  rw [if_neg (by omega), if_neg (by omega), putI_len]

theorem pi_Size_any (x n : Int) (w : World) :
    Calls Try.prog 9 #[.int .i64 x, .int .i64 n] w fun e w' => e = .returned (.int .i64 (sizeA x n)) ∧ w = w' := by
  by_cases h : (x < 1 ∨ 8 < x) ∨ (n < 0 ∨ 268435455 < n)
  · rw [sizeA_no h]; exact pi_Size_no x n h w
  · rw [sizeA_yes h]
    have := pi_Size x.toNat n.toNat (by omega) (by omega) (by omega) w
    rwa [show ((x.toNat : Nat) : Int) = x by omega, show ((n.toNat : Nat) : Int) = n by omega] at this
theorem rf_Size_any (x n : Int) (w : World) :
    Calls Try.prog 10 #[.int .i64 x, .int .i64 n] w fun e w' => e = .returned (.int .i64 (sizeA x n)) ∧ Below w.heap.size w w' := by
  by_cases h : (x < 1 ∨ 8 < x) ∨ (n < 0 ∨ 268435455 < n)
  · rw [sizeA_no h]; exact (rf_Size_no x n h w).mono fun e w' ⟨a, b⟩ => ⟨a, by subst b; exact Below.refl _ _⟩
  · rw [sizeA_yes h]
    have := rf_Size x.toNat n.toNat (by omega) (by omega) (by omega) w
    rwa [show ((x.toNat : Nat) : Int) = x by omega, show ((n.toNat : Nat) : Int) = n by omega] at this

/-- The clamp of Rest. -/
def clampN (x : Int) : Nat := (max 1 (min 8 x)).toNat
theorem clampN_eq (x : Int) : (clampN x : Int) = max 1 (min 8 x) := by unfold clampN; omega

/-- What Get answers, whatever it is given. -/
def getA (xs : List Int) (x : Int) : Int × Int × Int := if x < 1 ∨ 8 < x then (0, 0, 2) else getI xs x.toNat

theorem pi_Get_any (A : Option Addr) (n cap : Nat) (xs : List Int) (x : Int) (w : World) (hr : RB w A n xs) (hnc : n ≤ cap) (hn : cap ≤ 9223372036854775807) :
    Calls Try.prog 14 #[.slice A n cap, .int .i64 x] w fun e w' => e = .returned (.tuple #[.int .i64 (getA xs x).1, .int .i64 (getA xs x).2.1, .int .i64 (getA xs x).2.2]) ∧ w = w' := by
  by_cases h : x < 1 ∨ 8 < x
  · rw [getA, if_pos h]; exact pi_Get_arg _ x h w
  · rw [getA, if_neg h]
    have := pi_Get A n cap xs x.toNat (by omega) (by omega) w hr hnc hn
    rwa [show ((x.toNat : Nat) : Int) = x by omega] at this
theorem rf_Get_any (A : Option Addr) (n cap : Nat) (xs : List Int) (x : Int) (w : World) (hr : RB w A n xs) (hnc : n ≤ cap) (hn : cap ≤ 9223372036854775807) :
    Calls Try.prog 15 #[.slice A n cap, .int .i64 x] w fun e w' => e = .returned (.tuple #[.int .i64 (getA xs x).1, .int .i64 (getA xs x).2.1, .int .i64 (getA xs x).2.2]) ∧ w = w' := by
  by_cases h : x < 1 ∨ 8 < x
  · rw [getA, if_pos h]; exact rf_Get_arg _ x h w
  · rw [getA, if_neg h]
    have := rf_Get A n cap xs x.toNat (by omega) (by omega) w hr hnc hn
    rwa [show ((x.toNat : Nat) : Int) = x by omega] at this

/-- What the walk of a law is told of a slice of integers that came in. -/
def IsRow (k : IntKind) (w : World) (a : Option Addr) (len cap : Nat) (zs : List Int) : Prop :=
  (a = none ∧ len = 0 ∧ cap = 0 ∧ zs = []) ∨
  ∃ x, a = some x ∧ len ≤ cap ∧ cap ≤ maxLen ∧ zs.length = cap ∧ (∀ i, i < zs.length → w.cell? (x.add i) = some (.int k (zs.getD i 0))) ∧ ∀ n ∈ zs, (Lit.int k n).wf = true

theorem grp1306 : grp 1306 = [154, 10] := by rw [grp_high (by decide), grp_low (by decide)]; rfl

theorem aw_put1 (w : World) : Calls Try.prog 7 #[.int .u8 0, .int .i64 5, .int .i64 10] w (GivesPut w.heap.size [10] 0 w) := by
  have h := pi_Put 0 (by omega) (by omega) 5 10 (by omega) (by omega) (by omega) w
  rw [show putI 0 5 10 = [10] from putI_low (by decide)] at h
  exact h
theorem aw_put2 (w : World) : Calls Try.prog 7 #[.int .u8 224, .int .i64 5, .int .i64 1337] w (GivesPut w.heap.size [255, 154, 10] 0 w) := by
  have h := pi_Put 224 (by omega) (by omega) 5 1337 (by omega) (by omega) (by omega) w
  rw [show putI 224 5 1337 = [255, 154, 10] by rw [putI_high (by decide), show 1337 - (2 ^ 5 - 1) = 1306 from rfl, grp1306]; rfl] at h
  exact h
theorem aw_put3 (w : World) : Calls Try.prog 7 #[.int .u8 0, .int .i64 9, .int .i64 1] w fun e w' => e = .returned (.tuple #[.slice none 0 0, .int .i64 2]) ∧ w = w' :=
  pi_Put_arg 0 9 1 (by omega) w

theorem rb_new (w : World) (t : TypeId) (xs : List Int) (n : Nat) (hn : xs.length = n) (hb : ∀ i, 0 ≤ xs.getD i 0 ∧ xs.getD i 0 ≤ 255) : RB (w.alloc (.cells (u8s xs).toArray t)) (some ⟨w.heap.size, 0, none⟩) n xs := by
  refine ⟨hn, fun h => ⟨w.heap.size, 0, rfl, by simp, fun i hi => ?_⟩, hb⟩
  simp [World.cell?_alloc_at, u8s, List.getD, show i < xs.length by omega]

theorem aw_get1 (w : World) : Calls Try.prog 14 #[.slice (some ⟨w.heap.size, 0, none⟩) 4 4, .int .i64 5] (w.alloc (.cells #[.int .u8 31, .int .u8 154, .int .u8 10, .int .u8 9] 5))
    fun e w' => e = .returned (.tuple #[.int .i64 1337, .int .i64 3, .int .i64 0]) ∧ (w.alloc (.cells #[.int .u8 31, .int .u8 154, .int .u8 10, .int .u8 9] 5)) = w' := by
  have h := pi_Get _ 4 4 [31, 154, 10, 9] 5 (by omega) (by omega) _ (rb_new w 5 [31, 154, 10, 9] 4 rfl (fun i => by match i with | 0 | 1 | 2 | 3 => simp [List.getD] | _ + 4 => simp [List.getD])) (by omega) (by omega)
  rw [show getI [31, 154, 10, 9] 5 = (1337, 3, 0) by decide +kernel] at h
  exact h
theorem aw_get2 (g : Nat) (w : World) (hg : g = w.heap.size) : Calls Try.prog 14 #[.slice (some ⟨g, 0, none⟩) 2 2, .int .i64 5] (w.alloc (.cells #[.int .u8 31, .int .u8 154] 5))
    fun e w' => e = .returned (.tuple #[.int .i64 0, .int .i64 0, .int .i64 3]) ∧ (w.alloc (.cells #[.int .u8 31, .int .u8 154] 5)) = w' := by
  subst hg
  have h := pi_Get _ 2 2 [31, 154] 5 (by omega) (by omega) _ (rb_new w 5 [31, 154] 2 rfl (fun i => by match i with | 0 | 1 => simp [List.getD] | _ + 2 => simp [List.getD])) (by omega) (by omega)
  rw [show getI [31, 154] 5 = (0, 0, 3) by decide +kernel] at h
  exact h
theorem aw_size (w : World) : Calls Try.prog 9 #[.int .i64 5, .int .i64 1337] w fun e w' => e = .returned (.int .i64 3) ∧ w = w' := by
  have h := pi_Size 5 1337 (by omega) (by omega) (by omega) w
  rw [show sizeN 5 1337 = 3 by rw [sizeN, if_neg (by decide), show 1337 - (2 ^ 5 - 1) = 1306 from rfl, cnt_high (by decide), cnt_low (by decide)]] at h
  exact h
theorem aw_rest (w : World) : Calls Try.prog 11 #[.int .u8 255, .int .i64 5] w fun e w' => e = .returned (.int .u8 224) ∧ w = w' :=
  pi_Rest 255 (by omega) (by omega) 5 5 (by omega) w

set_option maxHeartbeats 800000 in
theorem aw_awake (w : World) : Calls Try.prog 13 #[] w fun e w' => e = .returned (.bool true) ∧ Below w.heap.size w w' := by
  go_enter Try.func13, Try.ntmps13
  go_wp2_with fail
  refine (aw_put1 _).mono ?_
  rintro e w1 ⟨v1, rfl, hown1, hb1⟩
  go_wp2_with fail
  refine (aw_put2 _).mono ?_
  rintro e w2 ⟨v2, rfl, hown2, hb2⟩
  go_wp2_with fail
  refine (aw_get1 _).mono ?_
  rintro e w' ⟨rfl, rfl⟩
  go_wp2_with fail
  refine (aw_get2 _ _ (by simp)).mono ?_
  rintro e w' ⟨rfl, rfl⟩
  go_wp2_with fail
  refine (aw_put3 _).mono ?_
  rintro e w' ⟨rfl, rfl⟩
  have hb3 : Below w2.heap.size w2 ((w2.alloc (.cells #[.int .u8 31, .int .u8 154, .int .u8 10, .int .u8 9] 5)).alloc (.cells #[.int .u8 31, .int .u8 154] 5)) := ((Below.refl _ _).alloc (Nat.le_refl _) _).alloc (by simp) _
  have s1 := own_string (own_keep (own_keep hown1 hb2) hb3)
  have s2 := own_string (own_keep hown2 hb3)
  rw [show strOfNums [10] = ⟨#[10]⟩ by rfl] at s1
  rw [show strOfNums [255, 154, 10] = ⟨#[255, 154, 10]⟩ by rfl] at s2
  have hb : Below w.heap.size w ((w2.alloc (.cells #[.int .u8 31, .int .u8 154, .int .u8 10, .int .u8 9] 5)).alloc (.cells #[.int .u8 31, .int .u8 154] 5)) :=
    hb1.trans ((hb2.mono hb1.size).trans (hb3.mono (by have := hb1.size; have := hb2.size; omega)))
  have HB := hide hb
  clear hb hb1 hb2 hb3 hown1 hown2
  go_wp2_with (first
    | (go_at_call 9; refine (aw_size _).mono ?_; rintro e w' ⟨rfl, rfl⟩)
    | (go_at_call 11; refine (aw_rest _).mono ?_; rintro e w' ⟨rfl, rfl⟩))
  go_ret
  exact ⟨rfl, HB.out⟩
end Go.Proofs.Ytfnkjcdkogipbaa
