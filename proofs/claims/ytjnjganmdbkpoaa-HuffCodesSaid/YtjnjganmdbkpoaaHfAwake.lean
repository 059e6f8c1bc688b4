/-
  Layer 2: awake.
-/
import Derived.Test.YtjnjganmdbkpoaaHfRef5
namespace Go.Proofs.Ytjnjganmdbkpoaa
open Go.RowKit Go.ChangeShapes Go.Lib

theorem CoderIs.keep {w w' : World} {g : Nat} (h : CoderIs w g) (hb : Below w.heap.size w w') : CoderIs w' g := by
  rcases h with h | ⟨T, h1, h2⟩
  · exact .inl (h.keep hb)
  · exact .inr ⟨T, h1.keep hb, h2.keep hb⟩
theorem CoderIs.alloc {w : World} {g : Nat} (h : CoderIs w g) (o : Obj) : CoderIs (w.alloc o) g := h.keep ((Below.refl _ _).alloc (Nat.le_refl _) _)
theorem strB_sb (s : ByteArray) : strB (sb s) = s := by
  apply ByteArray.ext
  rw [← Array.toList_inj]
  show (strB (sb s)).data.toList = s.data.toList
  unfold strB sb ints
  rw [strOfNums_data, List.map_map, List.map_map]
  conv => rhs; rw [← List.map_id s.data.toList]
  refine List.map_congr_left (fun c _ => ?_)
  simp
theorem strL_sb (s : ByteArray) : strL (sb s) = .string s := by rw [strL, ← strB, strB_sb]

def wwwS : ByteArray := ⟨#[119, 119, 119, 46, 101, 120, 97, 109, 112, 108, 101, 46, 99, 111, 109]⟩
def wwwE : List Int := [241, 227, 194, 229, 242, 58, 107, 160, 171, 144, 244, 255]
theorem www_sb : sb wwwS = [119, 119, 119, 46, 101, 120, 97, 109, 112, 108, 101, 46, 99, 111, 109] := by decide +kernel
theorem www_enc : IsEnc (sb wwwS) wwwE := by
  refine ⟨by decide, 7, by omega, ?_⟩
  rw [www_sb]
  decide +kernel
theorem www_size : (sumL (sb wwwS) + 7) / 8 = 12 := by rw [www_sb]; decide +kernel
theorem ff_dec : IsDec [255] [] 4 := by
  refine no_dec_of_parse (l := []) (u := List.replicate 8 1) (by simp) (by have := ones_noCode 8 [] (.inl rfl); rwa [List.append_nil] at this) (by decide +kernel) (fun k hk h => ?_)
  have := congrArg List.length h
  rw [List.length_replicate, List.length_replicate] at this
  omega
theorem fffc_dec : IsDec [255, 255, 255, 252] [] 4 := by
  refine no_dec_of_parse (l := []) (u := List.replicate 30 1 ++ [0, 0]) (by simp) (ones_noCode 30 [0, 0] (.inr (by omega))) (by decide +kernel) (fun k hk h => ?_)
  have := congrArg List.length h
  rw [List.length_append, List.length_replicate, List.length_replicate] at this
  simp at this
  omega
theorem code48 : bitsL.getD 48 0 = 0 ∧ lensL.getD 48 0 = 5 := by decide +kernel

theorem hf_Code48 (w : World) : Calls Try.prog 8 #[.int .u8 48] w fun e w' => e = .returned (.tuple #[.int .u32 0, .int .i64 5]) ∧ Below w.heap.size w w' := by
  have := hf_Code 48 (by omega) w
  rw [code48.1, code48.2] at this
  exact this
theorem hf_SizeW (w : World) : Calls Try.prog 12 #[.string ⟨#[119, 119, 119, 46, 101, 120, 97, 109, 112, 108, 101, 46, 99, 111, 109]⟩] w fun e w' => e = .returned (.int .i64 12) ∧ Below w.heap.size w w' := by
  have := hf_Size wwwS (by decide) w
  rw [www_size] at this
  exact this

/-- What a Decode whose answer is known leaves. -/
def Gives2 (V : Value) (c : Int) (w : World) (g : Nat) (e : Ending) (w' : World) : Prop :=
  e = .returned (.tuple #[V, .int .i64 c]) ∧ (∃ T, BlkIs w' g 68 (coderA 1 0 1 (.slice (some ⟨T, 0, none⟩) 256 256)) ∧ BlkIs w' T 72 (treeA treeL)) ∧ KB (· = g) w w'
theorem hf_Decode_is {r : List Nat} {c : Int} {V : Value} (hV : strL r = V) (g : Nat) (A : Option Addr) (n cap : Nat) (xs : List Int) (w : World) (hg : CoderIs w g) (hr : RB w A n xs) (hA : 0 < n → ∀ a, A = some a → a.block ≠ g) (hn : n ≤ 4000) (hd : IsDec xs r c) :
    Calls Try.prog 15 #[.pointer (some ⟨g, 0, none⟩), .slice A n cap] w (Gives2 V c w g) :=
  (hf_Decode g A n cap xs w hg hr hA hn).mono fun e w' ⟨r', c', he, hd', hT, hk⟩ => by
    obtain ⟨rfl, rfl⟩ := hd'.one hd
    exact ⟨by rw [← hV]; exact he, hT, hk⟩

theorem rb_new' (w : World) (t : TypeId) (xs : List Int) (n : Nat) (hn : xs.length = n) (hb : ∀ x ∈ xs, 0 ≤ x ∧ x ≤ 255) : RB (w.alloc (.cells (u8s xs).toArray t)) (some ⟨w.heap.size, 0, none⟩) n xs := by
  refine ⟨hn, fun h => ⟨w.heap.size, 0, rfl, by simp, fun i hi => ?_⟩, fun i => ?_⟩
  · simp [World.cell?_alloc_at, u8s, List.getD, show i < xs.length by omega]
  · by_cases hi : i < xs.length
    · simp only [List.getD, List.getElem?_eq_getElem hi, Option.getD_some]
      exact hb _ (List.getElem_mem hi)
    · simp [List.getD, List.getElem?_eq_none (show xs.length ≤ i by omega)]

set_option maxRecDepth 100000 in
set_option maxHeartbeats 1600000 in
theorem aw_awake (w : World) : Calls Try.prog 7 #[] w fun e w' => e = .returned (.bool true) ∧ Below w.heap.size w w' := by
  go_enter Try.func7, Try.ntmps7
  go_wp2_with fail
  refine (hf_Encode wwwS (by decide) _).mono ?_
  rintro e w1 ⟨v1, ys, rfl, henc, hown, hb1⟩
  obtain rfl : ys = wwwE := henc.one www_enc
  obtain ⟨g1, c1, rfl, hg1B, hg1lt⟩ := own_at hown (by decide)
  have HRB1 := hide (rb_of_own hown www_enc.1).1
  have HB1 := hide hb1
  have HG1 := hide hg1lt
  clear hown hb1 henc hg1B
  go_wp2_with fail
  refine (hf_New _).mono ?_
  rintro e w' ⟨rfl, rfl⟩
  obtain ⟨g, hg⟩ : ∃ g, g = w1.heap.size := ⟨_, rfl⟩
  have hblk := BlkIs.new w1 68 (coderA 0 0 0 (.slice none 0 0))
  have HRB2 := hide (HRB1.out.below ((Below.refl _ w1).alloc (Nat.le_refl _) (.cells (coderA 0 0 0 (.slice none 0 0)) 68)))
  have hk2 := (KB.refl (fun k => k = g) w1).alloc (.cells (coderA 0 0 0 (.slice none 0 0)) 68)
  rw [← hg] at hblk
  have HBLK := hide hblk
  have HK2 := hide hk2
  rw [← hg]
  have HGG := hide hg
  have hgne : g1 ≠ g := by have := HG1.out; omega
  have HNE := hide hgne
  clear hblk hk2 hg hg1lt hgne
  generalize w1.alloc (.cells (coderA 0 0 0 (.slice none 0 0)) 68) = w2 at HRB2 HBLK HK2 ⊢
  go_wp2_with fail
  refine (hf_Built g 0 0 0 _ _ HBLK.out (by omega)).mono ?_
  rintro e w' ⟨rfl, rfl⟩
  go_wp2_with fail
  refine (hf_Decode_is (V := .string ⟨#[119, 119, 119, 46, 101, 120, 97, 109, 112, 108, 101, 46, 99, 111, 109]⟩) (strL_sb wwwS) g (some ⟨g1, 0, none⟩) 12 c1 wwwE w2 (.inl HBLK.out) HRB2.out (fun _ a h => by cases h; exact HNE.out) (by omega) ⟨sb_lt wwwS, .inl ⟨rfl, www_enc⟩⟩).mono ?_
  rintro e w3 ⟨rfl, hT3, hk3⟩
  have HT3 := hide hT3
  have HK3 := hide (HK2.out.trans hk3)
  have HRB3 := hide (HRB2.out.kb hk3 (fun _ a h => by cases h; exact HNE.out))
  clear hT3 hk3 HK2 HRB2 HBLK
  go_wp2_with fail
  have HK3a := hide (HK3.out.alloc (.cells #[.int .u8 255] 5))
  have HRB3a := hide (HRB3.out.below ((Below.refl _ w3).alloc (Nat.le_refl _) (.cells #[.int .u8 255] 5)))
  have HC3 := hide (CoderIs.alloc (.inr HT3.out) (.cells #[.int .u8 255] 5))
  have HN3 := hide (rb_new' w3 5 [255] 1 rfl (by simp))
  have hgw3 : g < w3.heap.size := by obtain ⟨T, h1, h2⟩ := HT3.out; exact h1.lt
  refine (hf_Decode_is strL_nil g (some ⟨w3.heap.size, 0, none⟩) 1 1 [255] _ HC3.out HN3.out (fun _ a h => by cases h; show w3.heap.size ≠ g; omega) (by omega) ff_dec).mono ?_
  rintro e w4 ⟨rfl, hT4, hk4⟩
  have HT4 := hide hT4
  have HK4 := hide (HK3a.out.trans hk4)
  have HRB4 := hide (HRB3a.out.kb hk4 (fun _ a h => by cases h; exact HNE.out))
  clear hT4 hk4 HK3 HK3a HRB3 HRB3a HT3 HC3 HN3 hgw3
  go_wp2_with fail
  have HK4a := hide (HK4.out.alloc (.cells #[.int .u8 255, .int .u8 255, .int .u8 255, .int .u8 252] 5))
  have HRB4a := hide (HRB4.out.below ((Below.refl _ w4).alloc (Nat.le_refl _) (.cells #[.int .u8 255, .int .u8 255, .int .u8 255, .int .u8 252] 5)))
  have HC4 := hide (CoderIs.alloc (.inr HT4.out) (.cells #[.int .u8 255, .int .u8 255, .int .u8 255, .int .u8 252] 5))
  have HN4 := hide (rb_new' w4 5 [255, 255, 255, 252] 4 rfl (by simp))
  have hgw4 : g < w4.heap.size := by obtain ⟨T, h1, h2⟩ := HT4.out; exact h1.lt
  refine (hf_Decode_is strL_nil g (some ⟨w4.heap.size, 0, none⟩) 4 4 [255, 255, 255, 252] _ HC4.out HN4.out (fun _ a h => by cases h; show w4.heap.size ≠ g; omega) (by omega) fffc_dec).mono ?_
  rintro e w5 ⟨rfl, hT5, hk5⟩
  have HT5 := hide hT5
  have HK5 := hide (HK4a.out.trans hk5)
  have HRB5 := hide (HRB4a.out.kb hk5 (fun _ a h => by cases h; exact HNE.out))
  clear hT5 hk5 HK4 HK4a HRB4 HRB4a HT4 HC4 HN4 hgw4
  go_wp2_with fail
  refine (hf_Code48 _).mono ?_
  rintro e w6 ⟨rfl, hb6⟩
  obtain ⟨T, hc6, _⟩ : ∃ T, BlkIs w6 g 68 (coderA 1 0 1 (.slice (some ⟨T, 0, none⟩) 256 256)) ∧ True := by obtain ⟨T, h1, _⟩ := HT5.out; exact ⟨T, h1.keep hb6, trivial⟩
  have HC6 := hide hc6
  have HK6 := hide (HK5.out.trans (KB.of_below _ hb6))
  have HRB6 := hide (HRB5.out.below hb6)
  clear hb6 hc6 HK5 HRB5 HT5
  have hs6 := rb_string c1 HRB6.out
  rw [show strOfNums wwwE = ⟨#[241, 227, 194, 229, 242, 58, 107, 160, 171, 144, 244, 255]⟩ by decide +kernel] at hs6
  have hbw : ∀ w7 : World, Below w6.heap.size w6 w7 → Below w.heap.size w w7 := fun w7 h7 =>
    HB1.out.trans (KB.below (HK6.out.trans (KB.of_below _ h7)) HB1.out.size (fun k e => by have := HGG.out; have := HB1.out.size; omega))
  have HBW := hide hbw
  clear hbw
  go_wp2_with (first
    | (go_at_call 15; refine (hf_Decode_nil _ _).mono ?_; rintro e w' ⟨rfl, rfl⟩)
    | (go_at_call 17; refine (hf_Built_nil _).mono ?_; rintro e w' ⟨rfl, rfl⟩)
    | (go_at_call 17; refine (hf_Built g 1 0 1 _ _ HC6.out (by omega)).mono ?_; rintro e w' ⟨rfl, rfl⟩)
    | (go_at_call 12; refine (hf_SizeW _).mono ?_; rintro e w7 ⟨rfl, hb7⟩; have HB7 := hide hb7; clear hb7))
  go_ret
  exact ⟨rfl, HBW.out _ HB7.out⟩
end Go.Proofs.Ytjnjganmdbkpoaa
