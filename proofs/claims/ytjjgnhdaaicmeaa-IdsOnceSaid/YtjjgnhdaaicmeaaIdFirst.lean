/-
  Layer 15: first: both lists, one after the other, up to the first number of which a function says yes (written by gen15first.py).
-/
import Derived.Test.YtjjgnhdaaicmeaaIdNum
import Derived.Deep.LoopGhost
import Derived.WalkMore
import Derived.Shelf.Abstract
namespace Go.Proofs.Ytjjgnhdaaicmeaa
set_option linter.unusedSimpArgs false
set_option linter.unusedVariables false
open Go.RowKit

/-- A function value that captured one block and is asked number after number: what it answers, what it may write (S), what holds ahead of each asking (I). -/
structure AsksIs (fn : FuncId) (cb : Nat) (p : Nat → Bool) (x : Nat → Int) (N : Nat) (S : Nat → Prop) (I : Nat → World → Prop) (w0 : World) : Prop where
  ent : ∀ args w, (callFunc fn args).run Try.prog w = .ok (.enter fn args) w
  step : ∀ k w, k < N → I k w → Calls Try.prog fn #[.int .i64 (x k), .pointer (some ⟨cb, 0, none⟩)] w fun e w' => e = .returned (.bool (p k)) ∧ I (k + 1) w' ∧ KB S w w'
  far : ∀ k w w', I k w → Below w.heap.size w w' → I k w'
  keep : ∀ k w, I k w → Below w0.heap.size w0 w

theorem no_more {p : Nat → Bool} {k : Nat} (h : ∀ j, j < k → p j = false) (hk : p k = false) : ∀ j, j < k + 1 → p j = false := fun j hj => by
  by_cases e : j = k
  · subst e; exact hk
  · exact h j (by omega)

theorem first_idx1 (A B : Option Addr) (n c m d : Nat) (w : World) : (Instr.index 54 (.agg #[.int .i64 2, .slice A n c, .int .i64 4, .slice B m d]) (.int .i64 0)).run Try.prog w = .ok (.agg #[.int .i64 2, .slice A n c]) w := by
  have := run_index_agg (P := Try.prog) (n := 2) (k := 2) Try.underlying54 (by kernel_rfl) Try.underlying53 rfl #[.int .i64 2, .slice A n c, .int .i64 4, .slice B m d] .i64 0 (by omega) w
  simpa using this
theorem first_idx0 (A B : Option Addr) (n c m d : Nat) (w : World) : (Instr.index 54 (.agg #[.int .i64 2, .slice A n c, .int .i64 4, .slice B m d]) (.int .i64 1)).run Try.prog w = .ok (.agg #[.int .i64 4, .slice B m d]) w := by
  have := run_index_agg (P := Try.prog) (n := 2) (k := 2) Try.underlying54 (by kernel_rfl) Try.underlying53 rfl #[.int .i64 2, .slice A n c, .int .i64 4, .slice B m d] .i64 1 (by omega) w
  simpa using this

set_option maxRecDepth 100000 in
set_option maxHeartbeats 3200000 in
theorem id_first (T : Tb) (A : Option Addr) (n c : Nat) (B : Option Addr) (m d : Nat) (fn : FuncId) (cb : Nat) (p : Nat → Bool) (S : Nat → Prop) (I : Nat → World → Prop) (w0 w : World)
    (ha : AsksIs fn cb p (nth T) (n + m) S I w0) (hS : ∀ b, S b → b < w.heap.size) (h0 : I 0 w) (hop : NL .i64 w0 A n c T.op) (hcu : NL .i64 w0 B m d T.cu) (hn : (n : Int) ≤ 1000000) (hm : (m : Int) ≤ 1000000) :
    Calls Try.prog 16 #[.agg #[.int .i64 T.l, .slice A n c, .slice B m d], .func (.func fn) #[] #[.pointer (some ⟨cb, 0, none⟩)]] w fun e w' => ∃ cl, e = .returned (.int .i64 cl) ∧ FirstIs p n m cl ∧ ∃ k, I k w' := by
  have HA := hide ha
  have HS := hide hS
  have HOP := hide hop
  have HCU := hide hcu
  have eg := ha.ent
  have HI0 := hide (ha.far 0 w _ h0 (bel2 w (.cells #[.int .i64 T.l, .slice A n c, .slice B m d] 28) (.cells #[.int .i64 2, .slice A n c, .int .i64 4, .slice B m d] 54)))
  obtain ⟨L, hL⟩ : ∃ L, L = T.l := ⟨_, rfl⟩
  rw [← hL] at HI0 ⊢
  clear ha hS hop hcu h0 hL
  go_enter Try.func16, Try.ntmps16
  go_wp2
  go_step3
  go_wp2
  go_step3
  go_wp2
  go_loopg [6, 19] 2 (fun g s6 s19 wr => ∃ i k : Nat, i + g = 2 ∧ s19 = .int .i64 (i : Int) ∧ s6 = .int .i64 3 ∧ Hid ((i = 0 ∧ 0 = k) ∨ (i = 1 ∧ n = k) ∨ (i = 2 ∧ n + m = k)) ∧ Hid (∀ j, j < k → p j = false) ∧ Hid (I k wr) ∧ Hid (w.heap.size ≤ wr.heap.size))
  case atStart => exact ⟨0, 0, rfl, rfl, rfl, .inl ⟨rfl, rfl⟩, fun j hj => by omega, HI0.out, by simp [Hid]; omega⟩
  case round =>
    obtain ⟨i, k, hig, rfl, rfl, hik, HO, HI, HZ⟩ := hrel
    obtain ⟨wq, rfl⟩ : ∃ wq, wq = wr := ⟨_, rfl⟩
    rcases hik.out with ⟨rfl, rfl⟩ | ⟨rfl, rfl⟩ | ⟨rfl, rfl⟩
    · clear hik HI0
      obtain rfl : gk = 1 + 1 := by omega
      have HBK := hide (BlkIs.new wq 53 #[.int .i64 2, .slice A n c])
      have HI2 := hide (HA.out.far _ _ _ HI.out (bel1 wq (.cells #[.int .i64 2, .slice A n c] 53)))
      have hidx := first_idx1 A B n c m d
      go_wp2
      go_loopg [6, 25] n (fun g s6 s25 wy => ∃ j : Nat, j + g = n ∧ s6 = .int .i64 3 ∧ s25 = .int .i64 (j : Int) ∧ Hid (∀ q, q < 0 + j → p q = false) ∧ Hid (I (0 + j) wy) ∧ Hid (w.heap.size ≤ wy.heap.size) ∧ Hid (BlkIs wy wq.heap.size 53 #[.int .i64 2, .slice A n c]))
      case atStart => exact ⟨0, by omega, rfl, rfl, HO.out, HI2.out, (by have := HZ.out; simp [Hid]; omega), HBK.out⟩
      case round =>
        obtain ⟨j, hjg, rfl, rfl, HO2, HI3, HZ2, HB2⟩ := hrel
        cases gk with
        | zero =>
          obtain rfl : n = j := by omega
          have hge : ¬ ((n : Nat) : Int) < ((n : Nat) : Int) := by omega
          go_wp2
          go_roundg 1
          case measure => omega
          case rel => exact ⟨1, 0 + n, by omega, by go_num, rfl, .inr (.inl ⟨rfl, by omega⟩), HO2.out, HI3.out, HZ2.out⟩
        | succ g2 =>
          have hlt : j < n := by omega
          have hlt' : (j : Int) < ((n : Nat) : Int) := by omega
          obtain ⟨x, b, off, hx, rfl, hbl, c0, -⟩ := HOP.out.round hlt
          have e0 := ((HA.out.keep _ _ HI3.out).cell (p := ⟨b, off + j, none⟩) hbl).trans c0
          have hxn : nth T (0 + j) = x := by rw [Nat.zero_add]; exact nth_op hx
          have HC := hide (HA.out.step (0 + j) wr (by omega) HI3.out)
          rw [hxn] at HC
          clear hx hxn c0
          obtain ⟨v, hv⟩ : ∃ v, v = p (0 + j) := ⟨_, rfl⟩
          rw [← hv] at HC
          have HV := hide hv.symm
          clear hv
          cases v with
          | true =>
            go_wp2_with (go_at_fn fn; refine HC.out.mono ?_; rintro e w3 ⟨rfl, hi3, hk3⟩; have HI4 := hide hi3; have HBK3 := hide (hk3.blk HB2.out (fun h => by have := HS.out _ h; have := HZ.out; omega)); clear hi3 hk3; have k0 := HBK3.out.cell 0; simp only [List.getElem?_toArray, List.getElem?_cons_zero] at k0)
            rw [Exit.noGoto_ret]
            go_ret
            exact ⟨2, rfl, .inl ⟨0 + j, by omega, HV.out, HO2.out, by rw [if_pos (by omega)]⟩, _, HI4.out⟩
          | false =>
            go_wp2_with (go_at_fn fn; refine HC.out.mono ?_; rintro e w3 ⟨rfl, hi3, hk3⟩; have HI4 := hide hi3; have HBK3 := hide (hk3.blk HB2.out (fun h => by have := HS.out _ h; have := HZ.out; omega)); have HZ3 := hide (Nat.le_trans HZ2.out hk3.size); clear hi3 hk3)
            go_roundg g2
            case measure => omega
            case rel => exact ⟨j + 1, by omega, rfl, by go_num, no_more HO2.out HV.out, HI4.out, HZ3.out, HBK3.out⟩
    · clear hik HI0
      obtain rfl : gk = 0 + 1 := by omega
      have HBK := hide (BlkIs.new wq 53 #[.int .i64 4, .slice B m d])
      have HI2 := hide (HA.out.far _ _ _ HI.out (bel1 wq (.cells #[.int .i64 4, .slice B m d] 53)))
      have hidx := first_idx0 A B n c m d
      go_wp2
      go_loopg [6, 25] m (fun g s6 s25 wy => ∃ j : Nat, j + g = m ∧ s6 = .int .i64 3 ∧ s25 = .int .i64 (j : Int) ∧ Hid (∀ q, q < n + j → p q = false) ∧ Hid (I (n + j) wy) ∧ Hid (w.heap.size ≤ wy.heap.size) ∧ Hid (BlkIs wy wq.heap.size 53 #[.int .i64 4, .slice B m d]))
      case atStart => exact ⟨0, by omega, rfl, rfl, HO.out, HI2.out, (by have := HZ.out; simp [Hid]; omega), HBK.out⟩
      case round =>
        obtain ⟨j, hjg, rfl, rfl, HO2, HI3, HZ2, HB2⟩ := hrel
        cases gk with
        | zero =>
          obtain rfl : m = j := by omega
          have hge : ¬ ((m : Nat) : Int) < ((m : Nat) : Int) := by omega
          go_wp2
          go_roundg 0
          case measure => omega
          case rel => exact ⟨2, n + m, by omega, by go_num, rfl, .inr (.inr ⟨rfl, rfl⟩), HO2.out, HI3.out, HZ2.out⟩
        | succ g2 =>
          have hlt : j < m := by omega
          have hlt' : (j : Int) < ((m : Nat) : Int) := by omega
          obtain ⟨x, b, off, hx, rfl, hbl, c0, -⟩ := HCU.out.round hlt
          have e0 := ((HA.out.keep _ _ HI3.out).cell (p := ⟨b, off + j, none⟩) hbl).trans c0
          have hxn : nth T (n + j) = x := by have h := nth_cu hx; rwa [HOP.out.len] at h
          have HC := hide (HA.out.step (n + j) wr (by omega) HI3.out)
          rw [hxn] at HC
          clear hx hxn c0
          obtain ⟨v, hv⟩ : ∃ v, v = p (n + j) := ⟨_, rfl⟩
          rw [← hv] at HC
          have HV := hide hv.symm
          clear hv
          cases v with
          | true =>
            go_wp2_with (go_at_fn fn; refine HC.out.mono ?_; rintro e w3 ⟨rfl, hi3, hk3⟩; have HI4 := hide hi3; have HBK3 := hide (hk3.blk HB2.out (fun h => by have := HS.out _ h; have := HZ.out; omega)); clear hi3 hk3; have k0 := HBK3.out.cell 0; simp only [List.getElem?_toArray, List.getElem?_cons_zero] at k0)
            rw [Exit.noGoto_ret]
            go_ret
            exact ⟨4, rfl, .inl ⟨n + j, by omega, HV.out, HO2.out, by rw [if_neg (by omega)]⟩, _, HI4.out⟩
          | false =>
            go_wp2_with (go_at_fn fn; refine HC.out.mono ?_; rintro e w3 ⟨rfl, hi3, hk3⟩; have HI4 := hide hi3; have HBK3 := hide (hk3.blk HB2.out (fun h => by have := HS.out _ h; have := HZ.out; omega)); have HZ3 := hide (Nat.le_trans HZ2.out hk3.size); clear hi3 hk3)
            go_roundg g2
            case measure => omega
            case rel => exact ⟨j + 1, by omega, rfl, by go_num, no_more HO2.out HV.out, HI4.out, HZ3.out, HBK3.out⟩
    · clear hik HI0
      obtain rfl : gk = 0 := by omega
      go_wp2
      go_ret
      exact ⟨3, rfl, .inr ⟨HO.out, rfl⟩, _, HI.out⟩
end Go.Proofs.Ytjjgnhdaaicmeaa
