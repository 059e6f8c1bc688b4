/-
  Layer 15: the document's Check: what its loops know (written by gen15rcheck.py).
-/
import Derived.Test.YtjjgnhdaaicmeaaRdTabs
namespace Go.Proofs.Ytjjgnhdaaicmeaa
set_option linter.unusedSimpArgs false
set_option linter.unusedVariables false
open Go.RowKit

theorem all_split {l : List Int} {p : Int → Bool} (h : l.all p = true) : ∀ x ∈ l, p x = true := List.all_eq_true.1 h
theorem str_of {L : Int} {op cu : List Int} : strB ⟨L, op, cu⟩ = !(begunB op L && begunB cu L) := by
  rw [Bool.eq_iff_iff]
  constructor
  · intro h
    cases hb : begunB op L && begunB cu L with
    | false => rfl
    | true =>
      exfalso
      have : strB ⟨L, op, cu⟩ = false := str_no.2 fun n hn => by
        rw [Bool.and_eq_true] at hb
        rcases List.mem_append.1 hn with e | e
        · have := List.all_eq_true.1 hb.1 n e
          simpa using this
        · have := List.all_eq_true.1 hb.2 n e
          simpa using this
      rw [this] at h; cases h
  · intro h
    cases hs : strB ⟨L, op, cu⟩ with
    | true => rfl
    | false =>
      exfalso
      have hs' := str_no.1 hs
      have h1 : begunB op L = true := List.all_eq_true.2 fun x hx => by
        have := hs' x (by simp [hx])
        simp [this.1]; exact this.2
      have h2 : begunB cu L = true := List.all_eq_true.2 fun x hx => by
        have := hs' x (by simp [hx])
        simp [this.1]; exact this.2
      rw [h1, h2] at h; cases h
theorem tw_hit {L : Int} {op cu : List Int} {i : Nat} {x : Int} (hx : cu[i]? = some x) (h : x ∈ op ∨ x ∈ cu.take i) : twB ⟨L, op, cu⟩ = true := by
  cases ht : twB ⟨L, op, cu⟩ with
  | true => rfl
  | false =>
    have hn := List.nodup_append.1 (tw_no.1 ht)
    rcases h with e | e
    · exact absurd rfl (hn.2.2 x e x (List.mem_of_getElem? hx))
    · exact absurd e (nodup_take hn.2.1 hx)
theorem tw_none {L : Int} {op cu : List Int} (hr : riseB op = true) (h : ∀ i x, cu[i]? = some x → x ∉ op ∧ x ∉ cu.take i) : twB ⟨L, op, cu⟩ = false :=
  tw_no.2 (List.nodup_append.2 ⟨pw_nodup (rise_pw.1 hr), nodup_of fun j x hx => (h j x hx).2, fun a ha b hb e => by
    subst e
    obtain ⟨i, hi, he⟩ := List.getElem_of_mem hb
    exact (h i a (by rw [List.getElem?_eq_getElem hi, he])).1 ha⟩)
theorem rd_In2 (A : Option Addr) (n c : Nat) (l : List Int) (x : Int) (w : World) (hl : NL .i64 w A n c l) (hn : (n : Int) ≤ 1000000) :
    Calls Try.prog 19 #[.slice A n c, .int .i64 x] w fun e w' => e = .returned (.bool (decide (x ∈ l))) ∧ w' = w := (rd_In A n c l x w hl hn).mono fun e w' h => ⟨h.1, h.2.symm⟩
/-- What Check knows ahead. -/
structure Known (L : Int) (op cu : List Int) (ck : Int) : Prop where
  r10 : riseB op = false → ck = 10
  r4a : riseB op = true → begunB op L = false → ck = 4
  r4b : riseB op = true → begunB op L = true → begunB cu L = false → ck = 4
  r12 : riseB op = true → begunB op L = true → begunB cu L = true → twB ⟨L, op, cu⟩ = true → ck = 12
  r0 : riseB op = true → begunB op L = true → begunB cu L = true → twB ⟨L, op, cu⟩ = false → ck = 0
theorem known {L : Int} {op cu : List Int} (h : L = 0 ∨ oddB L = true) (h2 : op.length ≤ 16 ∧ cu.length ≤ 8) : Known L op cu (chkI ⟨L, op, cu⟩) where
  r10 h3 := chk_10 (T := ⟨L, op, cu⟩) h h2 h3
  r4a h3 h4 := chk_4 (T := ⟨L, op, cu⟩) h h2 h3 (by rw [str_of, h4]; rfl)
  r4b h3 h4 h5 := chk_4 (T := ⟨L, op, cu⟩) h h2 h3 (by rw [str_of, h4, h5]; rfl)
  r12 h3 h4 h5 h6 := chk_12 (T := ⟨L, op, cu⟩) h h2 h3 (by rw [str_of, h4, h5]; rfl) h6
  r0 h3 h4 h5 h6 := chk_0 (T := ⟨L, op, cu⟩) h h2 h3 (by rw [str_of, h4, h5]; rfl) h6
set_option maxHeartbeats 1600000 in
theorem rd_chk_zero_7a (A : Option Addr) (n c : Nat) (B : Option Addr) (m d : Nat) (w : World) (h7 : 16 < (n : Int)) :
    Calls Try.prog 10 #[.agg #[.int .i64 0, .slice A n c, .slice B m d]] w fun e w' => e = .returned (.int .i64 7) ∧ Below w.heap.size w w' := by
  go_enter Try.func10, Try.ntmps10
  go_wp2
  go_ret
  exact ⟨rfl, bel1 _ _⟩
set_option maxHeartbeats 1600000 in
theorem rd_chk_zero_7b (A : Option Addr) (n c : Nat) (B : Option Addr) (m d : Nat) (w : World) (hf : ¬ 16 < (n : Int)) (h7 : 8 < (m : Int)) :
    Calls Try.prog 10 #[.agg #[.int .i64 0, .slice A n c, .slice B m d]] w fun e w' => e = .returned (.int .i64 7) ∧ Below w.heap.size w w' := by
  go_enter Try.func10, Try.ntmps10
  go_wp2
  go_ret
  exact ⟨rfl, bel1 _ _⟩
set_option maxHeartbeats 1600000 in
theorem rd_chk_odd_7a (L : Int) (A : Option Addr) (n c : Nat) (B : Option Addr) (m d : Nat) (w : World) (h0 : ¬ L = 0) (ho : oddB L = true) (h7 : 16 < (n : Int)) :
    Calls Try.prog 10 #[.agg #[.int .i64 L, .slice A n c, .slice B m d]] w fun e w' => e = .returned (.int .i64 7) ∧ Below w.heap.size w w' := by
  have HC := hide (fun w => rd_odd L w)
  rw [ho] at HC
  clear ho
  go_enter Try.func10, Try.ntmps10
  go_wp2_with (go_at_call 18; refine (HC.out _).mono ?_; rintro e w2 ⟨rfl, rfl⟩)
  go_ret
  exact ⟨rfl, bel1 _ _⟩
set_option maxHeartbeats 1600000 in
theorem rd_chk_odd_7b (L : Int) (A : Option Addr) (n c : Nat) (B : Option Addr) (m d : Nat) (w : World) (h0 : ¬ L = 0) (ho : oddB L = true) (hf : ¬ 16 < (n : Int)) (h7 : 8 < (m : Int)) :
    Calls Try.prog 10 #[.agg #[.int .i64 L, .slice A n c, .slice B m d]] w fun e w' => e = .returned (.int .i64 7) ∧ Below w.heap.size w w' := by
  have HC := hide (fun w => rd_odd L w)
  rw [ho] at HC
  clear ho
  go_enter Try.func10, Try.ntmps10
  go_wp2_with (go_at_call 18; refine (HC.out _).mono ?_; rintro e w2 ⟨rfl, rfl⟩)
  go_ret
  exact ⟨rfl, bel1 _ _⟩
set_option maxHeartbeats 1600000 in
theorem rd_chk_8 (L : Int) (s1 s2 : Value) (w : World) (h0 : ¬ L = 0) (ho : oddB L = false) :
    Calls Try.prog 10 #[.agg #[.int .i64 L, s1, s2]] w fun e w' => e = .returned (.int .i64 8) ∧ Below w.heap.size w w' := by
  have HC := hide (fun w => rd_odd L w)
  rw [ho] at HC
  clear ho
  go_enter Try.func10, Try.ntmps10
  go_wp2_with (go_at_call 18; refine (HC.out _).mono ?_; rintro e w2 ⟨rfl, rfl⟩)
  go_ret
  exact ⟨rfl, bel1 _ _⟩
end Go.Proofs.Ytjjgnhdaaicmeaa
