/-
  Layer 8's numbers: a number of bytes, a head's bytes, what Check, Get and Has answer; plain arithmetic.
-/
import Derived.Test.YtighhdgaaelcdaaBytes2
import Derived.Laws.BitsAllLaws
namespace Go.Proofs.Ytighhdgaaelcdaa
set_option linter.unusedSimpArgs false
set_option linter.unusedVariables false

/-- The number of bytes, the highest first. -/
def numL (l : List Int) : Int := l.foldl (fun n c => 256 * n + c) 0
theorem numL_nil : numL [] = 0 := rfl
theorem numL_snoc (l : List Int) (c : Int) : numL (l ++ [c]) = 256 * numL l + c := by simp [numL]
theorem numL_take_succ (l : List Int) (k : Nat) (h : k < l.length) : numL (l.take (k + 1)) = 256 * numL (l.take k) + l.getD k 0 := by
  rw [List.take_succ_eq_append_getElem h, numL_snoc]
  simp [List.getD, h]
theorem numL_bd (k : Nat) : ∀ (l : List Int), AllB l → 0 ≤ numL (l.take k) ∧ numL (l.take k) < 256 ^ k := by
  induction k with
  | zero => intro l _; simp [numL]
  | succ k ih =>
    intro l h
    obtain ⟨a, b⟩ := ih l h
    by_cases hk : k < l.length
    · rw [numL_take_succ l k hk]
      have hm := h (l.getD k 0) (by simp [List.getD, hk])
      rw [Int.pow_succ]
      omega
    · rw [List.take_of_length_le (by omega)] at a b ⊢
      rw [Int.pow_succ]
      omega

theorem or_byte (n c : Int) (h0 : 0 ≤ n) (h1 : n < 16777216) (c0 : 0 ≤ c) (c1 : c ≤ 255) : bits .or .i64 (n * 256) c = 256 * n + c := by
  rw [bits_join .i64 62 (by decide) (fun n a b => IntWalk.i64_in n ⟨by omega, by omega⟩) 8 (n * 256) c (by omega) (by omega) (by omega) c0 (by omega) (by omega)]
  omega
theorem and_low31 (n : Int) (h0 : 0 ≤ n) (h1 : n < 4294967296) : bits .and .i64 n 2147483647 = n % 2147483648 := by
  have := bits_mask .i64 62 (by decide) (fun n a b => IntWalk.i64_in n ⟨by omega, by omega⟩) 31 (by omega) n h0 (by omega)
  simpa using this

/-- Whether a head may be; what Check answers. -/
def okH (l s : Int) : Bool := decide (0 ≤ l) && decide (l ≤ 16777215) && decide (0 ≤ s) && decide (s ≤ 2147483647)
def chkH (l s : Int) : Int := if okH l s then 0 else 8
theorem okH_iff (l s : Int) : okH l s = true ↔ 0 ≤ l ∧ l ≤ 16777215 ∧ 0 ≤ s ∧ s ≤ 2147483647 := by simp [okH, and_assoc]
theorem okH_no (l s : Int) : okH l s = false ↔ (l < 0 ∨ 16777215 < l ∨ s < 0 ∨ 2147483647 < s) := by
  rw [← Bool.not_eq_true, okH_iff]; omega
theorem chkH_yes {l s : Int} (h : okH l s = true) : chkH l s = 0 := by simp [chkH, h]
theorem chkH_no {l s : Int} (h : okH l s = false) : chkH l s = 8 := by simp [chkH, h]

/-- A head's bytes. -/
def hdB (l t f s : Int) : List Int := [l / 65536 % 256, l / 256 % 256, l % 256, t, f, s / 16777216 % 256, s / 65536 % 256, s / 256 % 256, s % 256]

/-- Whether all bits of a flag are among the flags. -/
def hasB (flags flag : Int) : Bool := decide (bits .and .u8 flags flag = flag)

theorem hasB_fin : ∀ a : Fin 256, hasB (a.val : Int) (a.val : Int) = true := by decide +kernel
theorem hasB_self (f : Int) (h0 : 0 ≤ f) (h1 : f ≤ 255) : hasB f f = true := by
  have := hasB_fin ⟨f.toNat, by omega⟩
  simpa only [Int.toNat_of_nonneg h0] using this
theorem hasB_zero_fin : ∀ a : Fin 256, hasB (a.val : Int) 0 = true := by decide +kernel
theorem hasB_zero (f : Int) (h0 : 0 ≤ f) (h1 : f ≤ 255) : hasB f 0 = true := by
  have := hasB_zero_fin ⟨f.toNat, by omega⟩
  simpa only [Int.toNat_of_nonneg h0] using this

/-- What Get answers. -/
def gL (xs : List Int) : Int := if xs.length < 9 then 0 else numL (xs.take 3)
def gT (xs : List Int) : Int := if xs.length < 9 then 0 else xs.getD 3 0
def gF (xs : List Int) : Int := if xs.length < 9 then 0 else xs.getD 4 0
def gS (xs : List Int) : Int := if xs.length < 9 then 0 else numL ((xs.drop 5).take 4) % 2147483648
def gE (xs : List Int) : Int := if xs.length < 9 then 3 else 0

theorem get_put (l t f s : Int) (h : okH l s = true) (tail : List Int) :
    gL (hdB l t f s ++ tail) = l ∧ gT (hdB l t f s ++ tail) = t ∧ gF (hdB l t f s ++ tail) = f ∧ gS (hdB l t f s ++ tail) = s ∧ gE (hdB l t f s ++ tail) = 0 := by
  obtain ⟨h1, h2, h3, h4⟩ := (okH_iff l s).1 h
  unfold gL gT gF gS gE hdB
  simp [numL]
  omega
end Go.Proofs.Ytighhdgaaelcdaa
