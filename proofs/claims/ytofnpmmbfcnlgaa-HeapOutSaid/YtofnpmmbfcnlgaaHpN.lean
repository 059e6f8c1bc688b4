/-
  Layer 24: the contracts once more, with how many there are said beside.
-/
import Derived.Test.YtofnpmmbfcnlgaaHpAwake
import Derived.Test.YtofnpmmbfcnlgaaRhCheck
import Derived.Test.YtofnpmmbfcnlgaaRhFirst
import Derived.Test.YtofnpmmbfcnlgaaHpWith
namespace Go.Proofs.Ytofnpmmbfcnlgaa
set_option linter.unusedSimpArgs false
set_option linter.unusedVariables false
open Go.RowKit

theorem n_own (A : Option Addr) (n c : Nat) (l : List It) (w : World) (hl : IL w A n c l) (hn : (n : Int) ≤ 200) : Calls Try.prog 8 #[.slice A n c] w (GivesN 38 n l w) := (lh_own A n c l w hl (by omega)).mono fun e w' k => gives_n hl.len k
theorem n_back (A : Option Addr) (n c : Nat) (l : List It) (w : World) (hl : IL w A n c l) (hn : (n : Int) ≤ 200) : Calls Try.prog 10 #[.slice A n c] w (GivesN 24 n l w) := (lh_back A n c l w hl (by omega)).mono fun e w' k => gives_n hl.len k
theorem n_Of (A : Option Addr) (n c : Nat) (l : List It) (w : World) (hl : IL w A n c l) (hn : (n : Int) ≤ 200) : Calls Try.prog 7 #[.slice A n c] w (GivesN 38 n (ofL l) w) := (hp_Of A n c l w hl (by omega)).mono fun e w' k => gives_n (by rw [of_len, hl.len]) k
theorem n_Sorted (A : Option Addr) (n c : Nat) (l : List It) (w : World) (hl : IL w A n c l) (hn : (n : Int) ≤ 200) : Calls Try.prog 11 #[.slice A n c] w (GivesN 38 n (sortL l) w) := (hp_Sorted A n c l w hl (by omega)).mono fun e w' k => gives_n (by rw [sort_len, hl.len]) k
theorem n_Push (A : Option Addr) (n c : Nat) (l : List It) (w : World) (hl : IL w A n c l) (hn : (n : Int) ≤ 200) (x : It) : Calls Try.prog 17 #[.slice A n c, .agg #[.int .i64 x.k, .int .i64 x.d]] w (GivesN 38 (n + 1) (pushL l x) w) := (hp_Push A n c l x w hl (by omega)).mono fun e w' k => gives_n (by rw [push_len, hl.len]) k
theorem n_Check (A : Option Addr) (n c : Nat) (l : List It) (w : World) (hl : IL w A n c l) (hn : (n : Int) ≤ 200) : Calls Try.prog 13 #[.slice A n c] w fun e w' => e = .returned (.int .i64 (chkL l)) ∧ Below w.heap.size w w' := hp_Check A n c l w hl (by omega)
theorem n_Check0 (A : Option Addr) (n c : Nat) (l : List It) (w : World) (hl : IL w A n c l) (hn : (n : Int) ≤ 200) (h : Hp l) : Calls Try.prog 13 #[.slice A n c] w fun e w' => e = .returned (.int .i64 0) ∧ Below w.heap.size w w' := (hp_Check A n c l w hl (by omega)).mono fun e w' k => ⟨by rw [k.1, chk_hp h], k.2⟩
theorem r_Check (A : Option Addr) (n c : Nat) (l : List It) (w : World) (hl : IL w A n c l) (hn : (n : Int) ≤ 200) : Calls Try.prog 14 #[.slice A n c] w fun e w' => e = .returned (.int .i64 (chkL l)) ∧ Below w.heap.size w w' := rh_Check A n c l w hl (by omega)
theorem r_Sorted (A : Option Addr) (n c : Nat) (l : List It) (w : World) (hl : IL w A n c l) (hn : (n : Int) ≤ 200) : Calls Try.prog 12 #[.slice A n c] w (GivesN 24 n (sortR l) w) := (rh_Sorted A n c l w hl (by omega)).mono fun e w' k => gives_n (by rw [sortR_len, hl.len]) k
theorem r_With (A : Option Addr) (n c : Nat) (l : List It) (w : World) (hl : IL w A n c l) (hn : (n : Int) ≤ 200) (x : It) : Calls Try.prog 21 #[.slice A n c, .agg #[.int .i64 x.k, .int .i64 x.d]] w (GivesN 24 (n + 1) (withL l x) w) := (rh_With A n c l x w hl (by omega)).mono fun e w' k => gives_n (by rw [withL, sortR_len]; simp [hl.len]) k
theorem r_Without (A : Option Addr) (n c : Nat) (l : List It) (w : World) (hl : IL w A n c l) (hn : (n : Int) ≤ 200) (i : Nat) (hi : i < n) : Calls Try.prog 23 #[.slice A n c, .int .i64 (i : Int)] w (GivesN 24 (n - 1) (woL l i) w) := (rh_Without A n c l i w hl hi (by omega)).mono fun e w' k => gives_n (by unfold woL; simp [hl.len]; omega) k
theorem r_Same (A : Option Addr) (n c : Nat) (l : List It) (w : World) (hl : IL w A n c l) (hn : (n : Int) ≤ 200) (B : Option Addr) (m d : Nat) (b : List It) (hm : IL w B m d b) (hn2 : (m : Int) ≤ 200) (h : l = b) : Calls Try.prog 9 #[.slice A n c, .slice B m d] w fun e w' => e = .returned (.bool true) ∧ Below w.heap.size w w' := (rh_Same A n c l B m d b w hl hm (by omega) (by omega)).mono fun e w' k => ⟨by rw [k.1, decide_eq_true h], k.2⟩
theorem n_Pop (A : Option Addr) (n c : Nat) (l : List It) (w : World) (hl : IL w A n c l) (hn : (n : Int) ≤ 200) (hp : Hp l) (h0 : 0 < n) : Calls Try.prog 18 #[.slice A n c] w (GivesPopN (n - 1) (takeL l 0) (gt l 0) true w) := (hp_Pop A n c l w hl (by omega)).mono fun e w' k => gives_pop (by rw [popR, if_neg (by rw [hl.len]; omega), of_hp hp]) (by rw [take_len, hl.len]) k
end Go.Proofs.Ytofnpmmbfcnlgaa
