/-
  Layer 9: the document's reading (Read): its words.
-/
import Derived.Test.YtefdhbljcnpggaaRfTexts
namespace Go.Proofs.Ytefdhbljcnpggaa
open Go.RowKit

theorem rg_start (w : World) (ln t f s : Int) :
    BlkIs (((w.alloc (.cells #[.int .i64 ln, .int .u8 t, .int .u8 f, .int .i64 s] 23)).alloc (.cells #[.int .u8 0, .int .u8 0, .int .i64 0, .string ⟨#[]⟩, .int .i64 0, .int .i64 0, .bool false, .int .u8 0, .int .u32 0, .int .i64 0, .int .i64 0, .slice none 0 0] 35)).alloc (.cells #[.int .i64 0, .int .i64 0] 37)) w.heap.size 23 #[.int .i64 ln, .int .u8 t, .int .u8 f, .int .i64 s] ∧
    BlkIs (((w.alloc (.cells #[.int .i64 ln, .int .u8 t, .int .u8 f, .int .i64 s] 23)).alloc (.cells #[.int .u8 0, .int .u8 0, .int .i64 0, .string ⟨#[]⟩, .int .i64 0, .int .i64 0, .bool false, .int .u8 0, .int .u32 0, .int .i64 0, .int .i64 0, .slice none 0 0] 35)).alloc (.cells #[.int .i64 0, .int .i64 0] 37)) (w.heap.size + 1) 35 (Fr.zero.cs none 0 0) ∧
    BlkIs (((w.alloc (.cells #[.int .i64 ln, .int .u8 t, .int .u8 f, .int .i64 s] 23)).alloc (.cells #[.int .u8 0, .int .u8 0, .int .i64 0, .string ⟨#[]⟩, .int .i64 0, .int .i64 0, .bool false, .int .u8 0, .int .u32 0, .int .i64 0, .int .i64 0, .slice none 0 0] 35)).alloc (.cells #[.int .i64 0, .int .i64 0] 37)) (w.heap.size + 1 + 1) 37 #[.int .i64 0, .int .i64 0] ∧
    Below w.heap.size w (((w.alloc (.cells #[.int .i64 ln, .int .u8 t, .int .u8 f, .int .i64 s] 23)).alloc (.cells #[.int .u8 0, .int .u8 0, .int .i64 0, .string ⟨#[]⟩, .int .i64 0, .int .i64 0, .bool false, .int .u8 0, .int .u32 0, .int .i64 0, .int .i64 0, .slice none 0 0] 35)).alloc (.cells #[.int .i64 0, .int .i64 0] 37)) := by
  refine ⟨((BlkIs.new w _ _).alloc _).alloc _, blk_mid, ?_, below_three⟩
  have := BlkIs.new ((w.alloc (.cells #[.int .i64 ln, .int .u8 t, .int .u8 f, .int .i64 s] 23)).alloc (.cells #[.int .u8 0, .int .u8 0, .int .i64 0, .string ⟨#[]⟩, .int .i64 0, .int .i64 0, .bool false, .int .u8 0, .int .u32 0, .int .i64 0, .int .i64 0, .slice none 0 0] 35)) 37 #[.int .i64 0, .int .i64 0]
  simpa using this
theorem rr_ge {t f s : Int} {xs : List Int} (ht : 2 ≤ t) (hm : misB t s = false) : readR t f s xs =
    if rightB t f xs.length = false then Rd.fault 6 (if t = 2 then s else 0) else if shI t = true ∧ (fillF (shD t f) (shL t) (shC t) (shI t) (shX t) (Fr.start t f s 0) xs).inc = 0 then Rd.fault 1 s
    else ⟨fillF (shD t f) (shL t) (shC t) (shI t) (shX t) (Fr.start t f s 0) xs, prsR (shR t f) xs (xs.length / 6), 0, 0⟩ := by
  have hP : shP t f = false := by
    have h0 : ¬ t = 0 := by omega
    have h1 : ¬ t = 1 := by omega
    simp [shP, h0, h1]
  have hb : bodyR t f xs = xs := by rw [bodyR, hP]; rfl
  have hp : padR t f xs = 0 := by rw [padR, hP]; rfl
  rw [readR, if_neg (by rw [hm]; simp), if_neg (by rw [hP]; simp), if_neg (by rw [hP]; simp), fillR, prsRd, hb, hp]
theorem sz_right {t f n : Int} (ht : 3 ≤ t) (hn : 0 ≤ n) : rightB t f n = !sizB t f n := by
  rcases t_cases (show 0 ≤ t by omega) with rfl | rfl | rfl | rfl | rfl | rfl | rfl | rfl | rfl | rfl | h
  · omega
  · omega
  · omega
  · simp [rightB, sizB, shR, shX, fixT, fixN, shD, shL, shC, shI, b4]
  · by_cases hh : hasB f 1 = true
    · by_cases h0 : n = 0
      · subst h0; simp [rightB, sizB, shR, shX, fixT, fixN, shD, shL, shC, shI, b4, hh]
      · simp [rightB, sizB, shR, shX, fixT, fixN, shD, shL, shC, shI, b4, hh, h0]
    · simp only [Bool.not_eq_true] at hh
      simp [rightB, sizB, shR, shX, fixT, fixN, shD, shL, shC, shI, b4, hh]
  · simp [rightB, sizB, shR, shX, fixT, fixN, shD, shL, shC, shI, b4, hn]
  · simp [rightB, sizB]
  · simp [rightB, sizB, shR, shX, fixT, fixN, shD, shL, shC, shI, b4]
    by_cases h : n < 8
    · have h' : ¬ 8 ≤ n := by omega
      simp [h, h']
    · have h' : 8 ≤ n := by omega
      simp [h, h']
  · simp [rightB, sizB, shR, shX, fixT, fixN, shD, shL, shC, shI, b4]
  · simp [rightB, sizB, shR, shX, fixT, fixN, shD, shL, shC, shI, b4, hn]
  · have e (k : Int) (hk : k ≤ 9) : ¬ t = k := by omega
    simp [rightB, sizB, shR, shX, fixT, fixN, shD, shL, shC, shI, b4, hn, e 1 (by omega), e 2 (by omega), e 3 (by omega), e 4 (by omega), e 6 (by omega), e 7 (by omega), e 8 (by omega)]
theorem rr2 {f s : Int} {xs : List Int} (hm : misB 2 s = false) : readR 2 f s xs = if xs.length = 5 then ⟨fillD true (Fr.start 2 f s 0) xs, [], 0, 0⟩ else Rd.fault 6 s := by
  rw [rr_ge (by omega) hm]
  have h1 : shL 2 = false := by kernel_rfl
  have h2 : shC 2 = false := by kernel_rfl
  have h3 : shI 2 = false := by kernel_rfl
  have h4 : shX 2 = false := by kernel_rfl
  have h5 : shR 2 f = false := by rfl
  have h6 : shD 2 f = true := by rfl
  have hr : rightB 2 f xs.length = decide ((xs.length : Int) = 5) := by
    rw [rightB, if_neg (by decide), h5, h4, fixT, h1, h2, h3, h6]; rfl
  rw [hr, h1, h2, h3, h4, h5, h6]
  by_cases h : xs.length = 5
  · have hi : (xs.length : Int) = 5 := by omega
    rw [if_pos h, if_neg (by simp [hi]), if_neg (by simp)]; rfl
  · have hi : ¬ (xs.length : Int) = 5 := by omega
    rw [if_neg h, if_pos (by simp [hi]), if_pos rfl]
theorem rr3 {t f s : Int} {xs : List Int} (ht : 3 ≤ t) (hm : misB t s = false) (hI : shI t = false) : readR t f s xs = if sizB t f xs.length = true then Rd.fault 6 0 else ⟨fillF (shD t f) (shL t) (shC t) (shI t) (shX t) (Fr.start t f s 0) xs, prsR (shR t f) xs (xs.length / 6), 0, 0⟩ := by
  rw [rr_ge (by omega) hm, sz_right ht (by omega)]
  cases sizB t f xs.length with
  | true => rw [if_pos (show (!true) = false by rfl), if_pos (show true = true by rfl), if_neg (show ¬ t = 2 by omega)]
  | false => rw [if_neg (show ¬ (!false) = false by simp), if_neg (show ¬ false = true by simp), if_neg (by rw [hI]; simp)]
theorem rr8 {f s : Int} {xs : List Int} (hm : misB 8 s = false) : readR 8 f s xs = if sizB 8 f xs.length = true then Rd.fault 6 0 else if numL (xs.take 4) % 2147483648 = 0 then Rd.fault 1 s else ⟨({ Fr.start 8 f s 0 with inc := numL (xs.take 4) % 2147483648 } : Fr), [], 0, 0⟩ := by
  rw [rr_ge (by omega) hm, sz_right (by omega) (by omega)]
  have h1 : shL 8 = false := by kernel_rfl
  have h2 : shC 8 = false := by kernel_rfl
  have h3 : shI 8 = true := by kernel_rfl
  have h4 : shX 8 = false := by kernel_rfl
  have h5 : shR 8 f = false := by rfl
  have h6 : shD 8 f = false := by rfl
  have hF : fillF false false false true false (Fr.start 8 f s 0) xs = ({ Fr.start 8 f s 0 with inc := numL (xs.take 4) % 2147483648 } : Fr) := rfl
  rw [h1, h2, h3, h4, h5, h6, hF]
  cases sizB 8 f xs.length with
  | true => rw [if_pos (show (!true) = false by rfl), if_pos (show true = true by rfl), if_neg (show ¬ (8 : Int) = 2 by omega)]
  | false =>
    rw [if_neg (show ¬ (!false) = false by simp), if_neg (show ¬ false = true by simp)]
    by_cases h : numL (xs.take 4) % 2147483648 = 0
    · rw [if_pos (show true = true ∧ _ from ⟨rfl, h⟩), if_pos h]
    · rw [if_neg (fun hh => h hh.2), if_neg h]; rfl
end Go.Proofs.Ytefdhbljcnpggaa
