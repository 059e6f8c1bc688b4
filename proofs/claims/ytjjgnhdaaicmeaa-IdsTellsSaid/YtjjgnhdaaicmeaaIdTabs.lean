/-
  Layer 15: Class, hasStranger, hasTwice, Same.
-/
import Derived.Test.YtjjgnhdaaicmeaaIdAsk
import Derived.Test.YtjjgnhdaaicmeaaIdLists
import Derived.Test.YtjjgnhdaaicmeaaIdRows
import Derived.BigGuardPart
namespace Go.Proofs.Ytjjgnhdaaicmeaa
set_option linter.unusedSimpArgs false
set_option linter.unusedVariables false
open Go.RowKit

/-- The lists of a table as they lie. -/
structure TL (w : World) (T : Tb) (A : Option Addr) (n c : Nat) (B : Option Addr) (m d : Nat) : Prop where
  op : NL .i64 w A n c T.op
  cu : NL .i64 w B m d T.cu
theorem TL.keep {w w' : World} {T : Tb} {A : Option Addr} {n c : Nat} {B : Option Addr} {m d : Nat} (h : TL w T A n c B m d) (hb : Below w.heap.size w w') : TL w' T A n c B m d := ⟨h.op.keep hb, h.cu.keep hb⟩
theorem TL.nth_wf {w : World} {T : Tb} {A : Option Addr} {n c : Nat} {B : Option Addr} {m d : Nat} (h : TL w T A n c B m d) {k : Nat} (hk : k < n + m) : (Lit.int .i64 (nth T k)).wf = true := by
  have h1 := h.op.len
  have h2 := h.cu.len
  rcases List.mem_append.1 (List.mem_of_getElem? (nth_lt (T := T) (k := k) (by omega))) with e | e
  · exact h.op.all _ e
  · exact h.cu.all _ e

set_option maxRecDepth 100000 in
set_option maxHeartbeats 1600000 in
theorem id_Class (T : Tb) (A : Option Addr) (n c : Nat) (B : Option Addr) (m d : Nat) (id : Int) (w : World) (hl : TL w T A n c B m d) (hn : (n : Int) ≤ 1000000) (hm : (m : Int) ≤ 1000000) :
    Calls Try.prog 7 #[.agg #[.int .i64 T.l, .slice A n c, .slice B m d], .int .i64 id] w fun e w' => e = .returned (.int .i64 (clsI T id)) ∧ Below w.heap.size w w' := by
  have HC := hide (fun w => id_isNumber id w)
  cases ho : oddB id with
  | false =>
    rw [cls_0 ho]
    rw [ho] at HC
    clear ho hl
    go_enter Try.func7, Try.ntmps7
    go_wp2_with (go_at_call 15; refine (HC.out _).mono ?_; rintro e w2 ⟨rfl, rfl⟩)
    go_ret
    exact ⟨rfl, bel2 _ _ _⟩
  | true =>
    rw [ho] at HC
    by_cases hlt : T.l < id
    · rw [cls_1 ho hlt]
      clear ho hl
      go_enter Try.func7, Try.ntmps7
      go_wp2_with (go_at_call 15; refine (HC.out _).mono ?_; rintro e w2 ⟨rfl, rfl⟩)
      go_ret
      exact ⟨rfl, bel2 _ _ _⟩
    · have HE := hide (cls_in ho hlt)
      have HB2 := hide (bel2 w (.cells #[.int .i64 T.l, .slice A n c, .slice B m d] 28) (.cells #[.int .i64 id] 3))
      have HF := hide (id_first T A n c B m d _ _ _ _ _ w _ (asks_class T id (w.heap.size + 1) (n + m) w) (fun _ h => h.elim)
        ⟨new2 w (.cells #[.int .i64 T.l, .slice A n c, .slice B m d] 28) 3 #[.int .i64 id], HB2.out⟩ hl.op hl.cu hn hm)
      have HLN := hide (And.intro hl.op.len hl.cu.len)
      clear ho hl
      obtain ⟨r, hr⟩ : ∃ r, r = clsI T id := ⟨_, rfl⟩
      rw [← hr]
      have HR := hide hr
      clear hr
      go_enter Try.func7, Try.ntmps7
      go_wp2_with (first | (go_at_call 15; refine (HC.out _).mono ?_; rintro e w2 ⟨rfl, rfl⟩) | (go_at_call 16; refine HF.out.mono ?_; rintro e w3 ⟨cl, rfl, hf, k, hi⟩; have HFI := hide hf; have HB3 := hide hi.2; clear hf hi))
      go_ret
      have hf := HFI.out
      rw [← HLN.out.1, ← HLN.out.2] at hf
      exact ⟨by rw [first_class hf, HR.out, HE.out]; rfl, HB3.out⟩

set_option maxRecDepth 100000 in
set_option maxHeartbeats 1600000 in
theorem id_stranger (T : Tb) (A : Option Addr) (n c : Nat) (B : Option Addr) (m d : Nat) (w : World) (hl : TL w T A n c B m d) (hn : (n : Int) ≤ 1000000) (hm : (m : Int) ≤ 1000000) :
    Calls Try.prog 21 #[.agg #[.int .i64 T.l, .slice A n c, .slice B m d]] w fun e w' => e = .returned (.bool (strB T)) ∧ Below w.heap.size w w' := by
  have HF := hide (id_first T A n c B m d _ _ _ _ _ w _ (asks_str T (.slice A n c) (.slice B m d) w.heap.size (n + m) w) (fun _ h => h.elim)
    ⟨BlkIs.new w 28 #[.int .i64 T.l, .slice A n c, .slice B m d], bel1 w _⟩ hl.op hl.cu hn hm)
  have HLN := hide (And.intro hl.op.len hl.cu.len)
  clear hl
  obtain ⟨r, hr⟩ : ∃ r, r = strB T := ⟨_, rfl⟩
  rw [← hr]
  have HR := hide hr
  clear hr
  go_enter Try.func21, Try.ntmps21
  go_wp2_with (go_at_call 16; refine HF.out.mono ?_; rintro e w3 ⟨cl, rfl, hf, k, hi⟩; have HFI := hide hf; have HB3 := hide hi.2; clear hf hi)
  go_ret
  have hf := HFI.out
  rw [← HLN.out.1, ← HLN.out.2] at hf
  exact ⟨by rw [HR.out, ← first_str hf]; rfl, HB3.out⟩

set_option maxRecDepth 100000 in
set_option maxHeartbeats 1600000 in
theorem id_twice (T : Tb) (A : Option Addr) (n c : Nat) (B : Option Addr) (m d : Nat) (w : World) (hl : TL w T A n c B m d) (hn : (n : Int) ≤ 1000000) (hm : (m : Int) ≤ 1000000) :
    Calls Try.prog 22 #[.agg #[.int .i64 T.l, .slice A n c, .slice B m d]] w fun e w' => e = .returned (.bool (twB T)) ∧ Below w.heap.size w w' := by
  have HMET := hide (MetIs.none_ (w.alloc (.cells #[.int .i64 T.l, .slice A n c, .slice B m d] 28)))
  rw [World.size_alloc] at HMET
  have HF := hide (id_first T A n c B m d _ _ _ _ _ w _ (asks_tw T (w.heap.size + 1 + 1) (w.heap.size + 1) (n + m) w (by rw [hl.op.len, hl.cu.len]) (by omega) (fun k hk => hl.nth_wf hk) (by omega) (by omega)) (fun b h => by subst h; simp only [World.size_alloc]; omega)
    ⟨new3 w (.cells #[.int .i64 T.l, .slice A n c, .slice B m d] 28) (.map #[] 0) 55 #[.map (some (w.heap.size + 1))], HMET.out.keep (bel1 _ _), bel3 w _ _ _⟩ hl.op hl.cu hn hm)
  have HLN := hide (And.intro hl.op.len hl.cu.len)
  clear hl
  obtain ⟨r, hr⟩ : ∃ r, r = twB T := ⟨_, rfl⟩
  rw [← hr]
  have HR := hide hr
  clear hr
  have hmm := @run_makeMap Try.prog
  go_enter Try.func22, Try.ntmps22
  go_wp2_with (go_at_call 16; refine HF.out.mono ?_; rintro e w3 ⟨cl, rfl, hf, k, hi⟩; have HFI := hide hf; have HB3 := hide hi.2.2; clear hf hi)
  go_ret
  have hf := HFI.out
  rw [← HLN.out.1, ← HLN.out.2] at hf
  exact ⟨by rw [HR.out, ← first_tw hf]; rfl, HB3.out⟩
end Go.Proofs.Ytjjgnhdaaicmeaa
