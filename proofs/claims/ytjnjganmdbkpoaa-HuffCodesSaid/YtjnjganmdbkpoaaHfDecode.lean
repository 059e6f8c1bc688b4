/-
  Layer 2: Decode's walk.
-/
import Derived.Test.YtjnjganmdbkpoaaHfDec
namespace Go.Proofs.Ytjnjganmdbkpoaa
open Go.RowKit Go.ChangeShapes

def ints (l : List Nat) : List Int := l.map fun n : Nat => (n : Int)
/-- A text of these bytes. -/
def strL (l : List Nat) : Value := .string (strOfNums (ints l))
/-- What Decode leaves. -/
def Decodes (xs : List Int) (w : World) (g : Nat) (e : Ending) (w' : World) : Prop :=
  ∃ (r : List Nat) (c : Int), e = .returned (.tuple #[strL r, .int .i64 c]) ∧ IsDec xs r c ∧ (∃ T, BlkIs w' g 68 (coderA 1 0 1 (.slice (some ⟨T, 0, none⟩) 256 256)) ∧ BlkIs w' T 72 (treeA treeL)) ∧ KB (· = g) w w'

theorem lens_ge : ∀ k, k < 256 → 5 ≤ lensL.getD k 0 := by decide +kernel
theorem sumL_ge (l : List Nat) (h : ∀ c ∈ l, c < 256) : 5 * l.length ≤ sumL l := by
  induction l with
  | nil => simp
  | cons c l ih =>
    have h1 := lens_ge c (h c (by simp))
    have h2 := ih (fun x hx => h x (by simp [hx]))
    simp only [sumL, List.map_cons, List.sum_cons, List.length_cons] at *
    omega
theorem strL_nil : strL [] = .string ⟨#[]⟩ := rfl

theorem tree_bit (T p b : Nat) (hp : p < 256) (hb : b < 2) {w : World} (hT : BlkIs w T 72 (treeA treeL)) : w.cell? ⟨T, p * 2 + b, none⟩ = some (.int .i16 (bitGet (treeL.getD p (0, 0)) b)) :=
  (hT.cell _).trans (treeA_at treeL p b hp hb)

set_option maxRecDepth 100000 in
set_option maxHeartbeats 3200000 in
theorem hf_Decode (g : Nat) (A : Option Addr) (n cap : Nat) (xs : List Int) (w : World) (hg : CoderIs w g) (hr : RB w A n xs) (hA : 0 < n → ∀ a, A = some a → a.block ≠ g) (hn : n ≤ 4000) :
    Calls Try.prog 15 #[.pointer (some ⟨g, 0, none⟩), .slice A n cap] w (Decodes xs w g) := by
  obtain ⟨i0, hi0, hz0', hz1, hz2⟩ := info_parts u8_info
  obtain ⟨c0, hc0⟩ : ∃ c, c = n * 8 / 5 := ⟨_, rfl⟩
  have hci : (n : Int) * 8 / 5 = (c0 : Int) := by omega
  have hc1 : c0 ≤ 7000 := by omega
  have hmk := fun W => @run_make Try.prog W 28 5 i0 (.int .u8 0) Try.underlying28 hi0 hz0' .i64 .i64 0 (c0 : Int) (by omega) (by omega) (by rw [hz2]; omega) (by omega)
  rw [hz1] at hmk
  simp only [Int.toNat_natCast, Nat.mul_one] at hmk
  have hmf : ∀ (fn : Fn) (first cap : Array Value) (w : World), (Instr.makeFunc fn first cap).run Try.prog w = .ok (.func fn first cap) w := fun _ _ _ _ => rfl
  have hlen := hr.1
  have hni : (n : Int) ≤ 4000 := by omega
  have HD := hide (hf_do g w hg)
  have HR := hide hr
  have HA := hide hA
  have HLEN := hide hlen
  have HCI := hide hci
  have HC1 := hide hc1
  clear hg hr hA hn hc0 hlen hc1
  go_enter Try.func15, Try.ntmps15
  go_wp2_with (go_at_call 23; refine HD.out.mono ?_; rintro e w1 ⟨T, rfl, hg1, hT1, hK1⟩; have HG1 := hide hg1; have HT1 := hide hT1; have HK1 := hide hK1; clear hg1 hT1 hK1)
  have gB : g < w1.heap.size := HG1.out.lt
  have HRA := hide (HR.out.kb HK1.out (fun hp a e => by have := HA.out hp a e; intro h; exact this h))
  have M0 : (w1.alloc (.cells (madeCells #[Value.int IntKind.u8 0] c0) 5)).ownsRow w1.heap.size 5 1 (.slice (some ⟨w1.heap.size, 0, none⟩) 0 c0) ([] : List Int).length (u8s []) :=
    World.ownsRow_made w1 _ c0 (Nat.le_refl _) (by have := HC1.out; unfold maxLen; omega) (by rw [size_madeCells, Nat.mul_one])
  have HM := hide M0
  have HG2 := hide (HG1.out.alloc (.cells (madeCells #[Value.int IntKind.u8 0] c0) 5))
  have HT2 := hide (HT1.out.alloc (.cells (madeCells #[Value.int IntKind.u8 0] c0) 5))
  have HK2 := hide ((KB.refl (fun _ => False) w1).alloc (.cells (madeCells #[Value.int IntKind.u8 0] c0) 5))
  have TB := HT1.out.lt
  have HTB := hide TB
  have HGB := hide gB
  clear M0 hmk hmf TB gB HD HG1 HT1 hci
  obtain ⟨B, hB⟩ : ∃ B, B = w1.heap.size := ⟨_, rfl⟩
  have HBB := hide hB
  generalize (w1.alloc (.cells (madeCells #[Value.int IntKind.u8 0] c0) 5)) = w2 at HM HG2 HT2 HK2 ⊢
  rw [← hB] at HM HTB HGB ⊢
  clear hB
  go_loopw [6, 7, 8, 10, 11, 27] (fun b p j x sh i wr => ∃ (k pl : Nat) (r : List Nat), i = .int .i64 (k : Int) ∧ k ≤ n ∧ p = .int .i16 (pl : Int) ∧ pl < 256 ∧ j = .int .i64 ((path pl).length : Int) ∧
      wr.ownsRow B 5 1 b (ints r).length (u8s (ints r)) ∧ (∀ c ∈ r, c < 256) ∧ unpackI (xs.take k) = tb r ++ path pl ∧ BlkIs wr g 68 (coderA 1 0 1 (.slice (some ⟨T, 0, none⟩) 256 256)) ∧ BlkIs wr T 72 (treeA treeL) ∧ KB (fun _ => False) w1 wr)
    (fun _ _ _ _ _ i _ => n - (intOf i).toNat)
  case atStart => exact ⟨0, 0, [], rfl, by omega, rfl, by omega, by rw [path_zero]; rfl, HM.out, by simp, by rw [path_zero]; rfl, HG2.out, HT2.out, HK2.out⟩
  case round =>
    clear HM HG2 HT2 HK2
    obtain ⟨k, pl, r, rfl, hk, rfl, hpl, rfl, hown, hrc, hun, hg, hT, hK⟩ := hrel
    have HPL := hide hpl
    have HO := hide hown
    have HRC := hide hrc
    have HUN := hide hun
    have HG := hide hg
    have HTT := hide hT
    have HK := hide hK
    have hpn := path_len pl hpl
    obtain ⟨pn, hpnn⟩ : ∃ pn, pn = (path pl).length := ⟨_, rfl⟩
    have HPN := hide hpnn
    rw [← hpnn] at hpn ⊢
    have hpi : (pn : Int) ≤ 29 := by omega
    clear hpl hown hrc hun hg hT hK hpn hpnn
    by_cases hlt : k < n
    · have hlt' : (k : Int) < (n : Int) := by omega
      have hrb := HRA.out.kb HK.out (fun _ _ _ h => h)
      obtain ⟨b, off, hAe, hbl, hcell⟩ := hrb.2.1 (by omega)
      have hx := hrb.2.2 k
      have hcx := hcell k hlt
      obtain ⟨x, hxx⟩ : ∃ x : Nat, xs.getD k 0 = (x : Int) := ⟨(xs.getD k 0).toNat, by omega⟩
      rw [hxx] at hcx hx
      have hx8 : x < 256 := by omega
      have HX := hide hxx
      subst hAe
      clear hrb hcell hxx hx
      go_wp2
      have HUN1 : Hid (unpackI (xs.take k) ++ bitsOf (x / 2 ^ 8) 0 = tb r ++ path pl) := by rw [HUN.out]; simp [bitsOf]; exact hide trivial
      go_loopw [6, 7, 8, 11] (fun b' p j sh wr => ∃ (m pl : Nat) (z : Int) (r : List Nat), sh = .int .i64 z ∧ z = (m : Int) - 1 ∧ m ≤ 8 ∧ p = .int .i16 (pl : Int) ∧ pl < 256 ∧ j = .int .i64 ((path pl).length : Int) ∧
          wr.ownsRow B 5 1 b' (ints r).length (u8s (ints r)) ∧ (∀ c ∈ r, c < 256) ∧ unpackI (xs.take k) ++ bitsOf (x / 2 ^ m) (8 - m) = tb r ++ path pl ∧ BlkIs wr g 68 (coderA 1 0 1 (.slice (some ⟨T, 0, none⟩) 256 256)) ∧ BlkIs wr T 72 (treeA treeL) ∧ KB (fun _ => False) w1 wr)
        (fun _ _ _ sh _ => (intOf sh + 1).toNat)
      case atStart => exact ⟨8, pl, _, r, rfl, by omega, by omega, rfl, HPL.out, by rw [HPN.out], HO.out, HRC.out, HUN1.out, HG.out, HTT.out, HK.out⟩
      case round =>
        clear HPL HO HRC HUN HUN1 HG HTT HK HPN hpi hcx hbl
        obtain ⟨m, pl, z, r, rfl, hz, hm, rfl, hpl, rfl, hown, hrc, hun, hg, hT, hK⟩ := hrel
        have HZ := hide hz
        have HPL := hide hpl
        have HO := hide hown
        have HRC := hide hrc
        have HUN := hide hun
        have HG := hide hg
        have HTT := hide hT
        have HK := hide hK
        have hpn := path_len pl hpl
        obtain ⟨pn, hpnn⟩ : ∃ pn, pn = (path pl).length := ⟨_, rfl⟩
        have HPN := hide hpnn
        rw [← hpnn] at hpn ⊢
        have hpi : (pn : Int) ≤ 29 := by omega
        have hm8 : (m : Int) ≤ 8 := by omega
        by_cases h0 : m = 0
        · have hz0 : ¬ (0 : Int) ≤ z := by omega
          have HM0 := hide h0
          clear hpl hown hrc hun hg hT hK hpn hpnn hz hm h0
          go_wp2
          go_roundw
          case rel =>
            refine ⟨k + 1, pl, r, by go_num, by omega, rfl, HPL.out, by rw [← HPN.out], HO.out, HRC.out, ?_, HG.out, HTT.out, HK.out⟩
            have := HUN.out
            rw [HM0.out, Nat.pow_zero, Nat.div_one] at this
            rw [unpackI_take xs k (by rw [HLEN.out]; exact hlt), HX.out]
            exact this
          case measure => simp [intOf]; omega
        · obtain ⟨m, rfl⟩ : ∃ k, m = k + 1 := ⟨m - 1, by omega⟩
          obtain rfl : z = (m : Int) := by omega
          have hz0 : (0 : Int) ≤ (m : Int) := by omega
          obtain ⟨bb, hbb⟩ : ∃ bb, bb = x / 2 ^ m % 2 := ⟨_, rfl⟩
          have hb2 : bb < 2 := by rw [hbb]; exact Nat.mod_lt _ (by omega)
          have hbi : (bb : Int) < 2 := by omega
          have hbj : (0 : Int) ≤ (bb : Int) := by omega
          have hand : bits .and .u8 ((x : Int) / 2 ^ m) 1 = (bb : Int) := by
            have := u8_and_nat (x / 2 ^ m) 1 (by have := Nat.div_le_self x (2 ^ m); omega) (by omega)
            rw [Nat.and_one_is_mod, ← hbb] at this
            rw [← this]; simp
          have hbits : unpackI (xs.take k) ++ bitsOf (x / 2 ^ m) (8 - m) = tb r ++ (path pl ++ [(bb : Int)]) := by
            rw [← List.append_assoc, ← hun, show 8 - m = (8 - (m + 1)) + 1 by omega, bitsOf, Nat.div_div_eq_div_mul, ← Nat.pow_succ, ← hbb, List.append_assoc]
          have hts := tree_step pl hpl bb hb2
          have cq := tree_bit T pl bb hpl hb2 hT
          have c4 : wr.cell? ⟨g, 4, none⟩ = some (.slice (some ⟨T, 0, none⟩) 256 256) := hg.cell 4
          obtain ⟨q, hqq⟩ : ∃ q, q = bitGet (treeL.getD pl (0, 0)) bb := ⟨_, rfl⟩
          simp only [← hqq] at hts cq
          have hpli : (pl : Int) < 256 := by omega
          have hplj : (0 : Int) ≤ (pl : Int) := by omega
          have HBITS := hide hbits
          have hwm : IntKind.i64.wrap (m : Int) = (m : Int) := IntWalk.i64_in _ (by omega)
          clear hpl hown hrc hun hg hT hK hpn hpnn hz hbits hbb hqq h0 HUN
          rcases hts with ⟨q1, q2, hpath⟩ | ⟨q1, q2, hcd⟩ | ⟨q0, hones⟩
          · have hq0 : (q == 0) = false := by simp; omega
            have hqn : ¬ q < 0 := by omega
            have HPATH := hide hpath
            clear hpath
            go_wp2
            go_quiet (fail)
            go_wp2
            go_roundw
            case rel =>
              obtain ⟨q', rfl⟩ : ∃ q' : Nat, q = (q' : Int) := ⟨q.toNat, by omega⟩
              have hp' : path q' = path pl ++ [(bb : Int)] := by simpa using HPATH.out
              refine ⟨m, q', (m : Int) - 1, r, rfl, rfl, by omega, rfl, by omega, ?_, HO.out, HRC.out, ?_, HG.out, HTT.out, HK.out.drewN nq⟩
              · rw [hp', List.length_append, ← HPN.out]; rfl
              · rw [hp']; exact HBITS.out
            case measure => simp [intOf]
          · have hq0 : (q == 0) = false := by simp; omega
            obtain ⟨c, rfl⟩ : ∃ c : Nat, q = -(c : Int) - 1 := ⟨(-q - 1).toNat, by omega⟩
            have hc : c < 256 := by omega
            have HCD := hide (show cd c = path pl ++ [(bb : Int)] by have := hcd; rwa [show (-(-(c : Int) - 1) - 1).toNat = c by omega] at this)
            have HC := hide hc
            have HB0 := hide (show (ints r).length ≤ 10000 by
              have h1 := congrArg List.length HBITS.out
              rw [List.length_append, unpackI_len, bitsOf_len, List.length_append, tb_len] at h1
              have h2 := sumL_ge r HRC.out
              have h3 := List.length_take_le k xs
              rw [ints, List.length_map]
              omega)
            clear hcd hc
            go_wp2_with fail
            go_quiet (fail)
            have HO2 := hide (own_drewN HO.out nq)
            have HG2 := hide (HG.out.drewN nq)
            have HTT2 := hide (HTT.out.drewN nq)
            have HK2 := hide (HK.out.drewN nq)
            have HBW := hide (show B ≤ (wr.drewN nq).heap.size by have := HK.out.size; have := HBB.out; show B ≤ wr.heap.size; omega)
            clear HO HG HTT HK cq c4
            generalize wr.drewN nq = wq at HO2 HG2 HTT2 HK2 HBW ⊢
            go_wp2_with (first
              | (go_at_call 25; refine (hf_leafByte c HC.out _).mono ?_; rintro e w' ⟨rfl, rfl⟩)
              | (at_builtin; refine wpList_append_own _ rfl (.tmp 53) (.tmp 56) 28 rfl B 5 i0 (.int .u8 0) 1 1 Try.underlying28 hi0 hz0' hz1 hz2 rfl (by decide) u6 (ints r).length (u8s (ints r)) rfl (HO2.out.alloc _) ⟨wq.heap.size, 0, none⟩ 1 1 [_] rfl rfl (one_new _ _ _) (one_cell _ _) (by have := HB0.out; unfold maxLen; omega) (by have := HB0.out; omega) (by rw [World.size_alloc]; have := HBW.out; omega) ?_; intro v1 w3 hown1 hg1 _; have HO3 := hide hown1; have HGR := hide hg1; clear hown1 hg1))
            have hlt3 : ∀ k', u6.ownBlock = some k' → B ≤ k' := fun k' e => (HO2.out.lt k' e).1
            have hg3 : BlkIs w3 g 68 (coderA 1 0 1 (.slice (some ⟨T, 0, none⟩) 256 256)) := (HG2.out.alloc _).grown HGR.out (fun e => by have := hlt3 g e.symm; have := HGB.out; omega)
            have hT3 : BlkIs w3 T 72 (treeA treeL) := (HTT2.out.alloc _).grown HGR.out (fun e => by have := hlt3 T e.symm; have := HTB.out; omega)
            have hK3 : KB (fun _ => False) w1 w3 := (HK2.out.alloc _).trans' (KB.of_grown (S := fun k => B ≤ k) HGR.out (fun k' e _ => hlt3 k' e)) (fun i hi e => by have := HBB.out; omega)
            have hO3 := HO3.out
            rw [← u8s_snoc] at hO3
            have H1 := hide hg3
            have H2 := hide hT3
            have H3 := hide hK3
            have H4 := hide hO3
            clear hg3 hT3 hK3 hO3 hlt3
            go_roundw
            case rel =>
              refine ⟨m, 0, (m : Int) - 1, r ++ [c], rfl, rfl, by omega, rfl, by omega, by rw [path_zero]; rfl, ?_, ?_, ?_, H1.out, H2.out, H3.out⟩
              · have e : ints (r ++ [c]) = ints r ++ [(c : Int)] := by simp [ints]
                rw [e, List.length_append]
                exact H4.out
              · intro y hy
                rcases List.mem_append.1 hy with hy | hy
                · exact HRC.out y hy
                · simp at hy; rw [hy]; exact HC.out
              · rw [HBITS.out, tb_snoc, HCD.out, path_zero, List.append_nil]
            case measure => simp [intOf]
          · subst q0
            have hdec : IsDec xs [] 4 := by
              have hx := HX.out
              have hm' : m < 8 := by omega
              have e : unpackI xs = tb r ++ (List.replicate 30 1 ++ (bitsOf x m ++ unpackI (xs.drop (k + 1)))) := by
                rw [unpackI_mid xs k (by rw [HLEN.out]; exact hlt), hx, show ((x : Nat) : Int).toNat = x from rfl, show bitsOf x 8 = bitsOf (x / 2 ^ m) (8 - m) ++ bitsOf x m by rw [← bitsOf_add, show 8 - m + m = 8 by omega], ← List.append_assoc, ← List.append_assoc, HBITS.out, hones]
                simp only [List.append_assoc]
              refine no_dec_of_parse HRC.out (ones_noCode 30 _ (.inr (by omega))) e (fun j hj h => ?_)
              have := congrArg List.length h
              rw [List.length_append, List.length_replicate, List.length_replicate] at this
              omega
            have HDEC := hide hdec
            clear hdec hones
            go_wp2_with fail
            go_quiet (fail)
            go_wp2
            go_ret2
            exact ⟨[], 4, rfl, HDEC.out, ⟨T, HG.out.drewN nq, HTT.out.drewN nq⟩, HK1.out.trans' (HK.out.drewN nq) (fun _ _ h => h.elim)⟩
    · have hge : ¬ (k : Int) < (n : Int) := by omega
      have hun : unpackI xs = tb r ++ path pl := by
        have := HUN.out
        rwa [List.take_of_length_le (by rw [HLEN.out]; omega)] at this
      have hrb := HRA.out.kb HK.out (fun _ _ _ h => h)
      have hfi := fill_iff hun
      rw [← HPN.out, HLEN.out] at hfi
      have hfl := hf_filled A n cap xs pn wr hrb (by omega) (by omega) (fun h => by
        have h1 := congrArg List.length hun
        rw [unpackI_len, List.length_append, ← HPN.out, HLEN.out] at h1
        omega)
      have hstr := own_string HO.out
      have HFL := hide hfl
      have HU := hide hun
      have HFI := hide hfi
      clear hrb hfi hfl hun hlt
      obtain ⟨f, hf⟩ : ∃ f, f = fillB (xs.getD (n - 1) 0) pn := ⟨_, rfl⟩
      rw [← hf] at HFL HFI
      clear hf
      cases f with
      | true =>
        have hdec : IsDec xs r 0 := dec_of_parse (fun y hy => by
          obtain ⟨i, hi, rfl⟩ := List.getElem_of_mem hy
          have := HRA.out.2.2 i
          simpa [List.getD, hi] using this) HRC.out (path_noCode pl HPL.out) HU.out (HFI.out.1 rfl)
        have HDEC := hide hdec
        clear hdec
        go_wp2_with (go_at_call 26; refine HFL.out.mono ?_; rintro e w' ⟨rfl, mm, rfl⟩; have hstr' := own_string (own_drewN HO.out mm))
        go_ret2
        exact ⟨r, 0, rfl, HDEC.out, ⟨T, HG.out.drewN mm, HTT.out.drewN mm⟩, HK1.out.trans' (HK.out.drewN mm) (fun _ _ h => h.elim)⟩
      | false =>
        have hdec : IsDec xs [] 4 := no_dec_of_parse HRC.out (path_noCode pl HPL.out) HU.out (fun j hj h => by
          have := HFI.out.2 ⟨j, hj, h⟩
          cases this)
        have HDEC := hide hdec
        clear hdec hstr
        go_wp2_with (go_at_call 26; refine HFL.out.mono ?_; rintro e w' ⟨rfl, mm, rfl⟩)
        go_ret2
        exact ⟨[], 4, rfl, HDEC.out, ⟨T, HG.out.drewN mm, HTT.out.drewN mm⟩, HK1.out.trans' (HK.out.drewN mm) (fun _ _ h => h.elim)⟩

theorem hf_Decode_nil (v : Value) (w : World) : Calls Try.prog 15 #[.pointer none, v] w fun e w' => e = .returned (.tuple #[strL [], .int .i64 1]) ∧ w = w' := by
  go_enter Try.func15, Try.ntmps15
  go_wp2
  go_ret2
  exact ⟨rfl, rfl⟩

theorem hf_Built_nil (w : World) : Calls Try.prog 17 #[.pointer none] w fun e w' => e = .returned (.int .i64 0) ∧ w = w' := by
  go_enter Try.func17, Try.ntmps17
  go_wp2
  go_ret
  exact ⟨rfl, rfl⟩
theorem hf_Built (g : Nat) (d m b : Int) (T : Value) (w : World) (hg : BlkIs w g 68 (coderA d m b T)) (hb : 0 ≤ b ∧ b ≤ 1) :
    Calls Try.prog 17 #[.pointer (some ⟨g, 0, none⟩)] w fun e w' => e = .returned (.int .i64 b) ∧ w = w' := by
  have c3 : w.cell? ⟨g, 3, none⟩ = some (.int .i64 b) := hg.cell 3
  obtain ⟨hb0, hb1⟩ := hb
  go_enter Try.func17, Try.ntmps17
  go_wp2_with (go_at_call 29; refine (sy_load64 _ _ _ c3).mono ?_; rintro e w' ⟨rfl, rfl⟩)
  go_ret
  exact ⟨rfl, rfl⟩
theorem hf_New (w : World) : Calls Try.prog 14 #[] w fun e w' => e = .returned (.pointer (some ⟨w.heap.size, 0, none⟩)) ∧ w.alloc (.cells (coderA 0 0 0 (.slice none 0 0)) 68) = w' := by
  have hz := run_zero_is hf_zero_coder
  go_enter Try.func14, Try.ntmps14
  go_wp2
  go_ret
  exact ⟨rfl, rfl⟩
end Go.Proofs.Ytjnjganmdbkpoaa
