/-
  Layer 13: Values, Least, Greatest: the document's.
-/
import Derived.Test.YtjfdlgmdlfbeoaaUkMem
import Derived.Test.YtjfdlgmdlfbeoaaUkSame
import Derived.Lib.MinMax
namespace Go.Proofs.Ytjfdlgmdlfbeoaa
set_option linter.unusedSimpArgs false
set_option linter.unusedVariables false
open Go.RowKit

/-- Numbers as cells. -/
def ncs (l : List Int) : List Value := l.map (Value.int .i64)
/-- A row of numbers of the call's own reads so. -/
theorem own_num {w : World} {B n : Nat} {e : TypeId} {v : Value} {l : List Int} (h : w.ownsRow B e 1 v n (ncs l)) : (l = [] ∧ n = 0 ∧ v = .slice none 0 0) ∨ ∃ g c, v = .slice (some ⟨g, 0, none⟩) n c ∧ g < w.heap.size ∧ ∀ k z, l[k]? = some z → w.cell? ⟨g, k, none⟩ = some (.int .i64 z) := by
  rcases h.2 with ⟨rfl, rfl⟩ | ⟨g, cap, cur, rfl, hb, hg, _⟩
  · have := h.1
    simp [ncs] at this
    exact .inl ⟨this, rfl, rfl⟩
  · refine .inr ⟨g, cap, rfl, (Array.getElem?_eq_some_iff.1 hg).1, fun k z hz => ?_⟩
    have := h.cells (g := g) rfl k (.int .i64 z) (by simp [ncs, hz])
    rw [Addr.add_lit, Nat.zero_add] at this
    exact this
theorem own_num_len {w : World} {B n : Nat} {e : TypeId} {v : Value} {l : List Int} (h : w.ownsRow B e 1 v n (ncs l)) : l.length = n := by
  have := h.1
  simpa [ncs] using this
theorem num_info : (Try.prog.info? 3).map (fun i => (i.zero, i.size, i.bytes)) = some (some (.int .i64 0), 1, 8) := by kernel_rfl
/-- Few settings in each item: fewer. -/
def Few3 (l : List It) : Prop := ∀ x ∈ l, (x.ps.length : Int) ≤ 1000
/-- What Values answers. -/
def GivesNums (l : List Int) (w : World) (e : Ending) (w' : World) : Prop := ∃ v, e = .returned v ∧ w'.ownsRow w.heap.size 3 1 v l.length (ncs l) ∧ Below w.heap.size w w'

set_option maxRecDepth 100000 in
set_option maxHeartbeats 3200000 in
theorem rk_Values (A : Option Addr) (n c : Nat) (l : List It) (id : Int) (w : World) (hl : IL w A n c l) (hn : (n : Int) ≤ 1000) (hf : Few3 l) :
    Calls Try.prog 38 #[.slice A n c, .int .u16 id] w (GivesNums (valsU id l) w) := by
  obtain ⟨i0, hi0, hz0, hz1, hz2⟩ := info_parts num_info
  have HIL := hide hl
  have HF := hide hf
  have HU := hide (fun i (x : It) (hx : l[i]? = some x) => valsU_take (id := id) hx)
  clear hl hf
  go_enter Try.func38, Try.ntmps38
  go_wp2_with fail
  go_loopw [5, 6] (fun s5 s6 wr => ∃ i : Nat, i ≤ n ∧ s6 = .int .i64 (i : Int) ∧ wr.ownsRow w.heap.size 3 1 s5 (valsU id (l.take i)).length (ncs (valsU id (l.take i))) ∧ Below w.heap.size w wr) (fun _ k _ => n - (intOf k).toNat)
  case atStart => exact ⟨0, by omega, rfl, World.ownsRow_nil _ _ _ _, Below.refl _ _⟩
  case round =>
    obtain ⟨i, hi, rfl, ho, hb⟩ := hrel
    have HO := hide ho
    have HB := hide hb
    clear ho hb
    by_cases hlt : i < n
    · have hlt' : (i : Int) < (n : Int) := by omega
      obtain ⟨x, A', c', b, off, hx, rfl, hbl0, e0, e1, hp0⟩ := HIL.out.round hlt
      have HP := hide hp0
      have HE0 := hide e0
      have HBL := hide hbl0
      have hnp : (x.ps.length : Int) ≤ 1000 := HF.out x (List.mem_of_getElem? hx)
      have HU2 := hide (HU.out i x hx)
      have HLN := hide (show (valsU id (l.take i)).length ≤ 1000000 by
        have h1 := valsU_len (id := id) (l := l.take i) (fun y hy => HF.out y (List.mem_of_mem_take hy))
        have h2 : (l.take i).length ≤ 1000 := by rw [List.length_take, HIL.out.len]; omega
        omega)
      clear hx e0 e1 hbl0 hp0
      go_wp2_with fail
      go_loopw [5, 7] (fun s5 s7 wr => ∃ j : Nat, j ≤ x.ps.length ∧ s7 = .int .i64 (j : Int) ∧ wr.ownsRow w.heap.size 3 1 s5 (valsU id (l.take i) ++ valsP id (x.ps.take j)).length (ncs (valsU id (l.take i) ++ valsP id (x.ps.take j))) ∧ Below w.heap.size w wr) (fun _ k _ => x.ps.length - (intOf k).toNat)
      case atStart => exact ⟨0, by omega, rfl, by simpa [valsP] using HO.out, HB.out⟩
      case round =>
        clear HO HB
        obtain ⟨j, hj, rfl, ho, hb⟩ := hrel
        have HO := hide ho
        have HB := hide hb
        have c0 := (hb.cell (p := ⟨b, off + i * 2, none⟩) HBL.out).trans HE0.out
        clear ho hb
        by_cases hlj : j < x.ps.length
        · have hlj' : (j : Int) < (x.ps.length : Int) := by omega
          obtain ⟨f, b2, off2, hf, e, hbl2, d0, d1⟩ := (HP.out.keep HB.out).round hlj
          subst e
          have HFX := hide hf
          clear hf
          cases hid : (f.i == id) with
          | true =>
            have HT := hide (valsP_take_yes (id := id) HFX.out hid)
            have HL2 := hide (show (valsU id (l.take i) ++ valsP id (x.ps.take j)).length ≤ 1001000 by
              have h1 := HLN.out
              have h2 := valsP_len id (x.ps.take j)
              rw [List.length_take] at h2
              rw [List.length_append]
              omega)
            have HA2 := hide (show valsU id (l.take i) ++ valsP id (x.ps.take (j + 1)) = (valsU id (l.take i) ++ valsP id (x.ps.take j)) ++ [IntKind.i64.wrap f.v] by rw [HT.out, List.append_assoc])
            obtain ⟨v, hv⟩ : ∃ v, v = IntKind.i64.wrap f.v := ⟨_, rfl⟩
            rw [← hv] at HA2
            have hv1 : IntKind.i64.wrap f.v = v := hv.symm
            generalize valsU id (l.take i) ++ valsP id (x.ps.take j) = L at *
            have HBK := hide (BlkIs.new wr 3 #[.int .i64 v])
            have HO2 := hide (own_low HO.out (bel1 wr (.cells #[.int .i64 v] 3)))
            have HB2 := hide (HB.out.alloc HB.out.size (.cells #[.int .i64 v] 3))
            have HZ := hide HB.out.size
            clear hv HFX HT HO
            go_wp2_with (at_builtin; refine wpList_append_own _ rfl (.tmp 35) (.tmp 46) _ rfl w.heap.size 3 i0 _ 1 8 Try.underlying75 hi0 hz0 hz1 hz2 rfl (by omega) _ L.length (ncs L) rfl HO2.out ⟨wr.heap.size, 0, none⟩ 1 1 [.int .i64 v] rfl rfl (World.news_of_block HBK.out) (by simp [Value.oneCell']) (by have := HL2.out; unfold maxLen; omega) (by have := HL2.out; omega) (by have := HZ.out; simp; omega) ?_; intro v9 w9 ho9 hg9 _; have HO9 := hide ho9; have HB9 := hide (own_bel HO2.out HB2.out (Nat.le_refl _) (Nat.le_refl _) hg9); clear ho9 hg9)
            go_roundw
            case rel => exact ⟨j + 1, by omega, by go_num, by rw [HA2.out, List.length_append]; have h := HO9.out; simpa [ncs] using h, HB9.out⟩
            case measure => simp [intOf]; omega
          | false =>
            have HT := hide (valsP_take_no (id := id) HFX.out hid)
            clear HFX
            go_wp2
            go_roundw
            case rel => exact ⟨j + 1, by omega, by go_num, by rw [HT.out]; exact HO.out, HB.out⟩
            case measure => simp [intOf]; omega
        · have hge : ¬ (j : Int) < (x.ps.length : Int) := by omega
          obtain rfl : j = x.ps.length := by omega
          go_wp2
          go_roundw
          case rel => exact ⟨i + 1, by omega, by go_num, by have h := HO.out; rw [List.take_length, ← HU2.out] at h; exact h, HB.out⟩
          case measure => simp [intOf]; omega
    · have hge : ¬ (i : Int) < (n : Int) := by omega
      obtain rfl : i = n := by omega
      have HE := hide (show l.take i = l by rw [← HIL.out.len, List.take_length])
      go_wp2
      go_ret
      exact ⟨_, rfl, by have h := HO.out; rw [HE.out] at h; exact h, HB.out⟩

set_option maxRecDepth 100000 in
set_option maxHeartbeats 1600000 in
theorem rk_Least (A : Option Addr) (n c : Nat) (l : List It) (id held : Int) (w : World) (hl : IL w A n c l) (hn : (n : Int) ≤ 1000) (hf : Few3 l) :
    Calls Try.prog 22 #[.slice A n c, .int .u16 id, .int .i64 held] w fun e w' => e = .returned (.int .i64 (leastU id held l)) ∧ Below w.heap.size w w' := by
  have HV := hide (rk_Values A n c l id w hl hn hf)
  have HLN := hide (show (valsU id l).length ≤ 1000000 by
    have h1 := valsU_len (id := id) (l := l) hf
    rw [hl.len] at h1
    omega)
  rw [show leastU id held l = (valsU id l).foldl min held from rfl]
  generalize valsU id l = L at *
  clear hl hf
  go_enter Try.func22, Try.ntmps22
  go_wp2_with fail
  refine HV.out.mono ?_
  rintro e w2 ⟨v, rfl, ho, hb⟩
  have HB := hide hb
  have hLn : (L.length : Int) ≤ 1000000 := by have := HLN.out; omega
  rcases own_num ho with ⟨rfl, h0, rfl⟩ | ⟨g, c2, rfl, hg, hcell⟩
  · clear ho hb HV
    go_wp2_with fail
    go_loopw [2, 8] (fun s2 s8 wr => s2 = .int .i64 held ∧ s8 = .int .i64 0 ∧ wr = w2) (fun _ _ _ => 0)
    case atStart => exact ⟨rfl, rfl, rfl⟩
    case round =>
      obtain ⟨rfl, rfl, rfl⟩ := hrel
      go_wp2
      go_ret
      exact ⟨rfl, HB.out⟩
  · have HC := hide hcell
    clear ho hb HV hcell
    go_wp2_with fail
    go_loopw [2, 8] (fun s2 s8 wr => ∃ i : Nat, i ≤ L.length ∧ s8 = .int .i64 (i : Int) ∧ s2 = .int .i64 ((L.take i).foldl min held) ∧ wr = w2) (fun _ k _ => L.length - (intOf k).toNat)
    case atStart => exact ⟨0, by omega, rfl, rfl, rfl⟩
    case round =>
      obtain ⟨i, hi, rfl, rfl, rfl⟩ := hrel
      by_cases hlt : i < L.length
      · have hlt' : (i : Int) < (L.length : Int) := by omega
        obtain ⟨z, hz⟩ : ∃ z, L[i]? = some z := ⟨L[i], List.getElem?_eq_getElem hlt⟩
        have c0 := HC.out i z hz
        have HT := hide (show (L.take (i + 1)).foldl min held = min ((L.take i).foldl min held) z by rw [List.take_add_one, hz, List.foldl_append]; rfl)
        clear hz
        generalize (L.take i).foldl min held = q at *
        go_wp2
        go_roundw
        case rel => exact ⟨i + 1, by omega, by go_num, by rw [HT.out], trivial⟩
        case measure => simp [intOf]; omega
      · have hge : ¬ (i : Int) < (L.length : Int) := by omega
        obtain rfl : i = L.length := by omega
        rw [List.take_length]
        go_wp2
        go_ret
        exact ⟨rfl, HB.out⟩

set_option maxRecDepth 100000 in
set_option maxHeartbeats 1600000 in
theorem rk_Greatest (A : Option Addr) (n c : Nat) (l : List It) (id held : Int) (w : World) (hl : IL w A n c l) (hn : (n : Int) ≤ 1000) (hf : Few3 l) :
    Calls Try.prog 24 #[.slice A n c, .int .u16 id, .int .i64 held] w fun e w' => e = .returned (.int .i64 (mostU id held l)) ∧ Below w.heap.size w w' := by
  have HV := hide (rk_Values A n c l id w hl hn hf)
  have HLN := hide (show (valsU id l).length ≤ 1000000 by
    have h1 := valsU_len (id := id) (l := l) hf
    rw [hl.len] at h1
    omega)
  rw [show mostU id held l = (valsU id l).foldl max held from rfl]
  generalize valsU id l = L at *
  clear hl hf
  go_enter Try.func24, Try.ntmps24
  go_wp2_with fail
  refine HV.out.mono ?_
  rintro e w2 ⟨v, rfl, ho, hb⟩
  have HB := hide hb
  have hLn : (L.length : Int) ≤ 1000000 := by have := HLN.out; omega
  rcases own_num ho with ⟨rfl, h0, rfl⟩ | ⟨g, c2, rfl, hg, hcell⟩
  · clear ho hb HV
    go_wp2_with fail
    go_loopw [2, 8] (fun s2 s8 wr => s2 = .int .i64 held ∧ s8 = .int .i64 0 ∧ wr = w2) (fun _ _ _ => 0)
    case atStart => exact ⟨rfl, rfl, rfl⟩
    case round =>
      obtain ⟨rfl, rfl, rfl⟩ := hrel
      go_wp2
      go_ret
      exact ⟨rfl, HB.out⟩
  · have HC := hide hcell
    clear ho hb HV hcell
    go_wp2_with fail
    go_loopw [2, 8] (fun s2 s8 wr => ∃ i : Nat, i ≤ L.length ∧ s8 = .int .i64 (i : Int) ∧ s2 = .int .i64 ((L.take i).foldl max held) ∧ wr = w2) (fun _ k _ => L.length - (intOf k).toNat)
    case atStart => exact ⟨0, by omega, rfl, rfl, rfl⟩
    case round =>
      obtain ⟨i, hi, rfl, rfl, rfl⟩ := hrel
      by_cases hlt : i < L.length
      · have hlt' : (i : Int) < (L.length : Int) := by omega
        obtain ⟨z, hz⟩ : ∃ z, L[i]? = some z := ⟨L[i], List.getElem?_eq_getElem hlt⟩
        have c0 := HC.out i z hz
        have HT := hide (show (L.take (i + 1)).foldl max held = max ((L.take i).foldl max held) z by rw [List.take_add_one, hz, List.foldl_append]; rfl)
        clear hz
        generalize (L.take i).foldl max held = q at *
        go_wp2
        go_roundw
        case rel => exact ⟨i + 1, by omega, by go_num, by rw [HT.out], trivial⟩
        case measure => simp [intOf]; omega
      · have hge : ¬ (i : Int) < (L.length : Int) := by omega
        obtain rfl : i = L.length := by omega
        rw [List.take_length]
        go_wp2
        go_ret
        exact ⟨rfl, HB.out⟩
end Go.Proofs.Ytjfdlgmdlfbeoaa
