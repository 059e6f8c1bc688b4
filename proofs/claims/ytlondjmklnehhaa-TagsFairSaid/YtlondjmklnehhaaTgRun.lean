/-
  Layer 25: Run: the program's.
-/
import Derived.Test.YtlondjmklnehhaaTgTurn
import Derived.Test.YtlondjmklnehhaaTgClone
import Derived.Test.YtlondjmklnehhaaTgRunM
import Derived.Laws.MakeOwn
namespace Go.Proofs.Ytlondjmklnehhaa
set_option linter.unusedSimpArgs false
set_option linter.unusedVariables false
open Go.RowKit

set_option maxRecDepth 100000 in
set_option maxHeartbeats 3200000 in
theorem tg_Run (A : Option Addr) (n c : Nat) (l : List Tg) (B : Option Addr) (N d : Nat) (cs : List Int) (w : World) (hl : SL tgF w A n c l) (hc : NL .i64 w B N d cs) (hn : (n : Int) ≤ 1000) (hN : (N : Int) ≤ 1000) :
    Calls Try.prog 18 #[.slice A n c, .slice B N d] w (GivesR l cs n N w) := by
  have HCL := hide (tg_Clone A n c l w hl hn)
  have HC := hide hc
  have HLN := hide hl.len
  have HN := hide hN
  have HLE := hide hc.len
  clear hl hc
  obtain ⟨i0, hi0, hz0, hz1, hz2⟩ := info_parts num_info
  have hmk : ∀ w : World, (Instr.makeSlice 45 (.int .i64 0) (.int .i64 (N : Int))).run Try.prog w = .ok (.slice (some ⟨w.heap.size, 0, none⟩) 0 N) (w.alloc (.cells (madeCells #[.int .i64 0] N) 3)) := fun w => by
    have h := run_make (P := Try.prog) w 45 3 i0 (.int .i64 0) Try.underlying45 hi0 hz0 .i64 .i64 0 (N : Int) (by omega) (by omega) (by rw [hz2]; omega) (by omega)
    rw [hz1, show (N : Int).toNat = N by omega, Nat.mul_one] at h
    exact h
  have HMK := hide (fun w (B0 : Nat) (hb : B0 ≤ w.heap.size) => World.ownsRow_made (base := B0) (e := 3) (size := 1) w (madeCells #[.int .i64 0] N) N hb (by unfold maxLen; omega) (by rw [size_madeCells, Nat.mul_one]))
  clear hi0 hz0 hz1 hz2
  go_enter Try.func18, Try.ntmps18
  go_wp2_with fail
  refine HCL.out.mono ?_
  rintro e w1 ⟨A1, c1, rfl, ho1, hb1⟩
  have HJ0 := hide (show RnJ 24 w (w1.alloc (.cells (madeCells #[.int .i64 0] N) 3)) (.slice (some ⟨w1.heap.size, 0, none⟩) 0 N) A1 n c1 l cs 0 from
    ⟨HMK.out w1 w.heap.size hb1.size, ho1.alloc _, fun x hx hy => by
      simp only [Value.ownBlock, Option.some.injEq] at hx
      have := (ho1.lt x hy).2
      omega, hb1.alloc hb1.size _⟩)
  clear ho1 hb1 HCL HMK
  go_wp2_with fail
  clear hmk
  go_loopw [6, 16] (fun s6 s16 wr => ∃ i : Nat, i ≤ N ∧ s16 = .int .i64 (i : Int) ∧ Hid (RnJ 24 w wr s6 A1 n c1 l cs i)) (fun _ s16 _ => N - (intOf s16).toNat)
  case atStart => exact ⟨0, by omega, rfl, HJ0.out⟩
  case round =>
    clear HJ0
    obtain ⟨i, hi, rfl, HJ⟩ := hrel
    by_cases h2 : i < N
    · have h2' : (i : Int) < (N : Int) := by omega
      have HI := hide h2
      obtain ⟨x, b, off, hx, rfl, hbl, x0, hwf⟩ := (HC.out.keep HJ.out.bel).round h2
      have HX := hide hx
      clear hx hwf hbl
      have HT := hide (tg_turn A1 n c1 w.heap.size (runT l (cs.take i)).1 x wr HJ.out.oh hn)
      have HJT := hide (run_take (l := l) HX.out)
      obtain ⟨who, hwho⟩ : ∃ q, q = (turnT (runT l (cs.take i)).1 x).2 := ⟨_, rfl⟩
      obtain ⟨l2, hl2⟩ : ∃ q, q = (turnT (runT l (cs.take i)).1 x).1 := ⟨_, rfl⟩
      rw [← hwho, ← hl2] at HT HJT
      clear hwho hl2
      go_wp2_with fail
      refine HT.out.mono ?_
      rintro e w2 ⟨rfl, ho2, hg2⟩
      have HH2 := hide ho2
      have HL2 := hide (own_growS HJ.out.ol hg2 (fun b hb hh => HJ.out.ap b hh hb))
      have HB2 := hide (own_bel HJ.out.oh HJ.out.bel (Nat.le_refl _) (Nat.le_refl _) hg2)
      clear ho2 hg2 x0
      have HAPS := hide HJ.out.ap
      have KX := hide (BlkIs.new w2 3 #[.int .i64 who])
      have HL6 := hide (HL2.out.alloc (.cells #[.int .i64 who] 3))
      have HH6 := hide (HH2.out.alloc (.cells #[.int .i64 who] 3))
      have HB6 := hide (HB2.out.alloc HB2.out.size (.cells #[.int .i64 who] 3))
      have HLT6 := hide (fun b (e : (Value.slice A1 n c1).ownBlock = some b) => (HH6.out.lt b e).2)
      go_wp2_with (at_builtin; refine wpList_append_n1 _ rfl (.tmp 20) (.tmp 24) rfl w.heap.size _ i _ rfl HL6.out w2.heap.size who rfl KX.out (by have := HI.out; have := HN.out; omega) HB6.out.size ?_; intro g7 c7 w7 ho7 hg7 hl7; have HL7 := hide ho7; have HH7 := hide (own_growS HH6.out hg7 HAPS.out); have HB7 := hide (own_bel HL6.out HB6.out (Nat.le_refl _) (Nat.le_refl _) hg7); have HA7 := hide (show u6.ownBlock = some g7 ∨ g7 = (w2.alloc (.cells #[.int .i64 who] 3)).heap.size from hl7); clear ho7 hg7 hl7)
      go_roundw
      case rel =>
        refine ⟨i + 1, HI.out, by go_num, ?_, ?_, ?_, HB7.out⟩
        · rw [HJT.out]; exact HL7.out
        · rw [HJT.out]; exact HH7.out
        · intro y hy he
          simp only [Value.ownBlock, Option.some.injEq] at hy
          subst hy
          rcases HA7.out with h1 | h1
          · exact HJ.out.ap g7 h1 he
          · have := HLT6.out g7 he
            omega
      case measure => simp [intOf]; omega
    · obtain rfl : i = N := by omega
      have h2' : ¬ (i : Int) < (i : Int) := by omega
      obtain ⟨B6, d6, hs6⟩ := own_slice HJ.out.ol
      subst hs6
      obtain ⟨r1, r2, r3⟩ := HJ.out.done HLE.out (by rw [HLN.out]; exact hn)
      have HR1 := hide r1
      have HR2 := hide r2
      have HR3 := hide r3
      clear r1 r2 r3 HJ
      go_wp2_with fail
      go_ret2
      exact ⟨A1, c1, B6, d6, rfl, HR1.out, HR2.out, HR3.out⟩
end Go.Proofs.Ytlondjmklnehhaa
