/-
  Layer 8: the program's Put.
-/
import Derived.Test.YtojcjmjohibpaaaFhNum
namespace Go.Proofs.Ytojcjmjohibpaaa
set_option linter.unusedSimpArgs false
set_option linter.unusedVariables false
open Go.RowKit

/-- What a call leaves: a slice of its own, with these bytes. -/
def GivesRow (B : Nat) (l : List Int) (w : World) (e : Ending) (w' : World) : Prop :=
  ∃ v, e = .returned v ∧ w'.ownsRow B 5 1 v l.length (u8s l) ∧ Below B w w'
/-- What Put leaves. -/
def GivesPut (B : Nat) (l : List Int) (code : Int) (w : World) (e : Ending) (w' : World) : Prop :=
  ∃ v, e = .returned (.tuple #[v, .int .i64 code]) ∧ w'.ownsRow B 5 1 v l.length (u8s l) ∧ Below B w w'

theorem hdB_form (l t f s : Int) (h1 : 0 ≤ l) (h2 : l ≤ 16777215) (h3 : 0 ≤ s) (h4 : s ≤ 2147483647) :
    hdB l t f s = [l / 65536, l / 256 % 256, l % 256, t, f, s / 16777216, s / 65536 % 256, s / 256 % 256, s % 256] := by
  unfold hdB
  rw [show l / 65536 % 256 = l / 65536 by omega, show s / 16777216 % 256 = s / 16777216 by omega]
theorem hdB_len (l t f s : Int) : (hdB l t f s).length = 9 := rfl
theorem hdB_all (l t f s : Int) (ht0 : 0 ≤ t) (ht1 : t ≤ 255) (hf0 : 0 ≤ f) (hf1 : f ≤ 255) : AllB (hdB l t f s) := by
  intro x hx
  simp only [hdB, List.mem_cons, List.not_mem_nil, or_false] at hx
  omega

/-- What Put leaves, its block known whole. -/
def PutBlk (l t f s : Int) (w : World) (e : Ending) (w' : World) : Prop :=
  ∃ h, e = .returned (.tuple #[.slice (some ⟨h, 0, none⟩) 9 9, .int .i64 0]) ∧ BlkIs w' h 5 (u8s (hdB l t f s)).toArray ∧ w.heap.size ≤ h ∧ Below w.heap.size w w'

set_option maxHeartbeats 800000 in
theorem fh_Put_blk (l t f s : Int) (h1 : 0 ≤ l) (h2 : l ≤ 16777215) (h3 : 0 ≤ s) (h4 : s ≤ 2147483647) (w : World) :
    Calls Try.prog 16 #[.agg #[.int .i64 l, .int .u8 t, .int .u8 f, .int .i64 s]] w (PutBlk l t f s w) := by
  have HC := hide (fun w => fh_Check l t f s w)
  have HK := hide (chkH_yes ((okH_iff l s).2 ⟨h1, h2, h3, h4⟩))
  have HF := hide (hdB_form l t f s h1 h2 h3 h4)
  go_enter Try.func16, Try.ntmps16
  go_wp2_with fail
  refine (HC.out _).mono ?_
  rintro e w1 ⟨rfl, hb1⟩
  rw [HK.out]
  obtain ⟨c0, c1⟩ : w1.cell? ⟨w.heap.size, 0, none⟩ = some (.int .i64 l) ∧ w1.cell? ⟨w.heap.size, 1, none⟩ = some (.int .u8 t) := by
    constructor <;> (rw [hb1.cell (by simp)]; simp [World.cell?_alloc_at])
  obtain ⟨c2, c3⟩ : w1.cell? ⟨w.heap.size, 2, none⟩ = some (.int .u8 f) ∧ w1.cell? ⟨w.heap.size, 3, none⟩ = some (.int .i64 s) := by
    constructor <;> (rw [hb1.cell (by simp)]; simp [World.cell?_alloc_at])
  have HB := hide (((Below.refl _ _).alloc (Nat.le_refl _) _).trans (hb1.mono (by simp)))
  clear hb1
  go_wp2
  go_ret2
  refine ⟨w1.heap.size, rfl, ?_, HB.out.size, HB.out.alloc HB.out.size _⟩
  rw [HF.out]
  exact BlkIs.new w1 _ _

theorem fh_Put_yes (l t f s : Int) (h1 : 0 ≤ l) (h2 : l ≤ 16777215) (h3 : 0 ≤ s) (h4 : s ≤ 2147483647) (w : World) :
    Calls Try.prog 16 #[.agg #[.int .i64 l, .int .u8 t, .int .u8 f, .int .i64 s]] w (GivesPut w.heap.size (hdB l t f s) 0 w) :=
  (fh_Put_blk l t f s h1 h2 h3 h4 w).mono fun _ _ ⟨_, he, hk, hB, hb⟩ => ⟨_, he, own_blk _ _ 9 rfl (by omega) hk hB, hb⟩

theorem fh_Put_no (l t f s : Int) (h : okH l s = false) (w : World) :
    Calls Try.prog 16 #[.agg #[.int .i64 l, .int .u8 t, .int .u8 f, .int .i64 s]] w (GivesPut w.heap.size [] 8 w) := by
  have HC := hide (fun w => fh_Check l t f s w)
  have HK := hide (chkH_no h)
  clear h
  go_enter Try.func16, Try.ntmps16
  go_wp2_with fail
  refine (HC.out _).mono ?_
  rintro e w1 ⟨rfl, hb1⟩
  rw [HK.out]
  have HB := hide (((Below.refl _ _).alloc (Nat.le_refl _) _).trans (hb1.mono (by simp)))
  clear hb1
  go_wp2
  go_ret2
  exact ⟨_, rfl, World.ownsRow_nil _ _ _ _, HB.out⟩

/-- What Put answers. -/
def putH (l t f s : Int) : List Int := if okH l s then hdB l t f s else []
theorem putH_yes {l s : Int} (t f : Int) (h : okH l s = true) : putH l t f s = hdB l t f s := by simp [putH, h]
theorem putH_no {l s : Int} (t f : Int) (h : okH l s = false) : putH l t f s = [] := by simp [putH, h]
theorem fh_Put (l t f s : Int) (w : World) :
    Calls Try.prog 16 #[.agg #[.int .i64 l, .int .u8 t, .int .u8 f, .int .i64 s]] w (GivesPut w.heap.size (putH l t f s) (chkH l s) w) := by
  cases h : okH l s with
  | true =>
    rw [putH_yes t f h, chkH_yes h]
    obtain ⟨h1, h2, h3, h4⟩ := (okH_iff l s).1 h
    exact fh_Put_yes l t f s h1 h2 h3 h4 w
  | false =>
    rw [putH_no t f h, chkH_no h]
    exact fh_Put_no l t f s h w

theorem hd_cells {w : World} {g : Nat} {t : TypeId} {a b c d : Value} (h : BlkIs w g t #[a, b, c, d]) :
    w.cell? ⟨g, 0, none⟩ = some a ∧ w.cell? ⟨g, 1, none⟩ = some b ∧ w.cell? ⟨g, 2, none⟩ = some c ∧ w.cell? ⟨g, 3, none⟩ = some d :=
  ⟨h.cell 0, h.cell 1, h.cell 2, h.cell 3⟩
end Go.Proofs.Ytojcjmjohibpaaa
