/-
  Layer 9: FrameLongs: the walk.
-/
import Derived.Test.YtefdhbljcnpggaaFrAwake
namespace Go.Proofs.Ytefdhbljcnpggaa
open Go.RowKit

def lgF (k f : Int) (Z : ByteArray) (p : Int) : Fr := ⟨k, f, 1, Z, p, 0, false, 0, 0, 0, 0⟩
/-- What stands ahead of and behind the data. -/
def lgM (p : Int) : Int := if p = 0 then 0 else 1 + p
theorem lg_facts (k f p : Int) (Z : ByteArray) (hk : k = 0 ∨ k = 1) (hp : p = 0 ∧ f = 0 ∨ 0 < p ∧ p ≤ 255 ∧ f = 8) :
    (lgF k f Z p).siz 0 = (Z.size : Int) + lgM p ∧ (lgF k f Z p).chk 0 = (if 16384 < (Z.size : Int) + lgM p then 5 else 0) ∧
    (((lgF k f Z p).lay [] (hdB ((lgF k f Z p).siz 0) k f 1)).length : Int) = 9 + (Z.size : Int) + lgM p := by
  have hP : shP k f = decide (0 < p) := by
    rcases hk with rfl | rfl <;> rcases hp with ⟨rfl, rfl⟩ | ⟨h0, _, rfl⟩
    · kernel_rfl
    · rw [decide_eq_true h0]; kernel_rfl
    · kernel_rfl
    · rw [decide_eq_true h0]; kernel_rfl
  have hD : shD k f = false := by rcases hk with rfl | rfl <;> rcases hp with ⟨rfl, rfl⟩ | ⟨h0, _, rfl⟩ <;> kernel_rfl
  have hL : shL k = false := by rcases hk with rfl | rfl <;> kernel_rfl
  have hC : shC k = false := by rcases hk with rfl | rfl <;> kernel_rfl
  have hI : shI k = false := by rcases hk with rfl | rfl <;> kernel_rfl
  have hR : shR k f = false := by rcases hk with rfl | rfl <;> rcases hp with ⟨rfl, rfl⟩ | ⟨h0, _, rfl⟩ <;> kernel_rfl
  have hX : shX k = true := by rcases hk with rfl | rfl <;> kernel_rfl
  have hs : (lgF k f Z p).siz 0 = (Z.size : Int) + lgM p := by
    simp only [Fr.siz, sizV, lgF, hP, hD, hL, hC, hI, fixN, b4]
    unfold lgM
    rcases hp with ⟨rfl, rfl⟩ | ⟨h0, _, rfl⟩
    · simp
    · rw [decide_eq_true h0, if_neg (by omega : ¬ p = 0)]
      simp; omega
  have hin : (lgF k f Z p).inB = true := by
    rw [inB_iff]
    simp only [lgF]
    omega
  have hfit : (lgF k f Z p).fitB 0 = true := by
    simp only [Fr.fitB, fitV, lgF, hP, hD, hL, hC, hI, hR, hX]
    rcases hp with ⟨rfl, rfl⟩ | ⟨h0, _, rfl⟩
    · simp
    · rw [decide_eq_true h0]; simp
  refine ⟨hs, ?_, ?_⟩
  · rw [Fr.chk, if_neg (by rw [hin]; simp), if_neg (by rw [hfit]; simp only [lgF]; exact fun h => h.elim (fun h => by cases h) (fun h => by omega)), hs]
  · simp only [Fr.lay, lgF, hP, hD, hL, hC, hI, List.length_append, hdB_len, bts_len]
    rw [lgM]
    rcases hp with ⟨rfl, rfl⟩ | ⟨h0, h1, rfl⟩
    · simp [ifB, prB, zs]
    · rw [decide_eq_true h0, if_neg (by omega : ¬ p = 0)]
      simp [ifB, prB, zs]; omega
theorem lgM_bd (p : Int) (h0 : 0 ≤ p) (h1 : p ≤ 255) : 0 ≤ lgM p ∧ lgM p ≤ 256 := by
  unfold lgM; split <;> omega
theorem zs_all (n : Nat) : AllB (zs n) := by
  intro x hx
  have := List.eq_of_mem_replicate hx
  omega
theorem made_zs (n : Nat) : madeCells (Value.int .u8 0).cells n = (u8s (zs n)).toArray := by
  rw [u8s_zs]
  apply Array.ext
  · simp [size_madeCells]
  · intro i h1 h2
    simp only [madeCells, Value.cells, Array.getElem_map, Array.getElem_range, List.getElem_toArray, List.getElem_replicate]
    rw [show i % (#[Value.int .u8 0] : Array Value).size = 0 by simp; omega]
    rfl
end Go.Proofs.Ytefdhbljcnpggaa
