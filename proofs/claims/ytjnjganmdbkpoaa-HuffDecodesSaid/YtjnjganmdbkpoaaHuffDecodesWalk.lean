/-
  HuffDecodes: its walk: for every list of bytes the Go text returns true, and leaves what was there as it was.
-/
import Derived.Test.YtjnjganmdbkpoaaHfAwake
namespace Go.Proofs.Ytjnjganmdbkpoaa.huffDecodes
open Go.RowKit Go.ChangeShapes Go.Proofs.Ytjnjganmdbkpoaa

set_option maxRecDepth 100000 in
set_option maxHeartbeats 1600000 in
theorem walk (a0 : Option Addr) (len0 cap0 : Nat) (z0 : List Int) (w : World) (w0 : IsRow .u8 w a0 len0 cap0 z0) :
    Calls Try.prog 4 #[.slice a0 len0 cap0] w fun e w' => e = .returned (.bool true) ∧ Below w.heap.size w w' := by
  obtain ⟨hr, hl, hc⟩ := rb_of_row w0
  obtain ⟨xs, hxs⟩ : ∃ xs, xs = z0.take len0 := ⟨_, rfl⟩
  rw [← hxs] at hr
  clear w0 hxs
  by_cases h20 : (20 : Int) < (len0 : Int)
  · go_enter Try.func4, Try.ntmps4
    go_wp2_with fail
    refine (aw_awake _).mono ?_
    rintro e w4 ⟨rfl, hb4⟩
    have HB4 := hide hb4
    clear hb4
    go_wp2_with fail
    go_ret
    exact ⟨rfl, HB4.out⟩
  · have h20' : (len0 : Int) ≤ 20 := by omega
    have HR := hide hr
    obtain ⟨g, hg⟩ : ∃ g, g = w.heap.size := ⟨_, rfl⟩
    have hA : 0 < len0 → ∀ a, a0 = some a → a.block ≠ g := fun hp a e => by
      obtain ⟨b, off, e', hlt, _⟩ := hr.2.1 hp
      rw [e] at e'
      injection e' with e'
      rw [e', hg]
      show b ≠ w.heap.size
      omega
    have HA := hide hA
    clear h20 hr hA
    go_enter Try.func4, Try.ntmps4
    go_wp2_with fail
    refine (hf_New _).mono ?_
    rintro e w' ⟨rfl, rfl⟩
    have hblk := BlkIs.new w 68 (coderA 0 0 0 (.slice none 0 0))
    have HR2 := hide (HR.out.below ((Below.refl _ w).alloc (Nat.le_refl _) (.cells (coderA 0 0 0 (.slice none 0 0)) 68)))
    have HK2 := hide ((KB.refl (fun k => k = g) w).alloc (.cells (coderA 0 0 0 (.slice none 0 0)) 68))
    rw [← hg] at hblk ⊢
    have HBLK := hide hblk
    have HGG := hide hg
    clear hblk hg
    generalize w.alloc (.cells (coderA 0 0 0 (.slice none 0 0)) 68) = w2 at HR2 HK2 HBLK ⊢
    go_wp2_with fail
    refine (hf_Decode g a0 len0 cap0 xs w2 (.inl HBLK.out) HR2.out HA.out (by omega)).mono ?_
    rintro e w3 ⟨r, c, rfl, hd, _, hk⟩
    have HR3 := hide (HR2.out.kb hk HA.out)
    have HK3 := hide (HK2.out.trans hk)
    have HD := hide hd
    clear hd hk HK2 HR2
    go_wp2_with fail
    refine (rf_Decode a0 len0 cap0 xs w3 HR3.out (by omega)).mono ?_
    rintro e w4 ⟨r', c', rfl, hd', hb⟩
    obtain ⟨rfl, rfl⟩ := hd'.one HD.out
    have HB4 := hide hb
    have hcc : ((c' : Int) == c') = true := by simp
    have hcr : c' = 0 ∨ c' = 4 := by rcases hd'.2 with h | h; exact .inl h.1; exact .inr h.1
    have HB3 := hide (HK3.out.below (Nat.le_refl w.heap.size) (fun k e => by have := HGG.out; omega))
    clear hb hd'
    rw [show strL r' = .string (strB r') from rfl]
    obtain ⟨sr, hsr⟩ : ∃ sr, sr = strB r' := ⟨_, rfl⟩
    rw [← hsr]
    clear hsr
    have hss : (sr.toList == sr.toList) = true := by simp
    go_wp2_with fail
    refine (aw_awake _).mono ?_
    rintro e w5 ⟨rfl, hb5⟩
    have HB5 := hide hb5
    clear hb5
    go_wp2_with fail
    go_ret
    exact ⟨rfl, HB3.out.trans ((HB4.out.trans (HB5.out.mono HB4.out.size)).mono HB3.out.size)⟩
end Go.Proofs.Ytjnjganmdbkpoaa.huffDecodes
