/-
  Layer 9: what the document calls too much (extra), as a plain word; how it stands to the program's fits.
-/
import Derived.Test.YtefdhbljcnpggaaFrLength
namespace Go.Proofs.Ytefdhbljcnpggaa
open Go.RowKit

/-- Has a frame what its payload has not? -/
def Fr.extraB (F : Fr) (n : Nat) : Bool :=
  !(shP F.ty F.fl) && !(F.pad == 0) || !(shD F.ty F.fl) && (!(F.dep == 0) || F.sole || !(F.wt == 0)) || !(F.ty == 3) && !(F.ty == 7) && !(F.code == 0) || !(F.ty == 7) && !(F.last == 0) || !(F.ty == 8) && !(F.inc == 0) || !(F.ty == 4) && !(n == 0)
    || (F.ty == 2 || F.ty == 3 || F.ty == 4 || F.ty == 8) && !F.data.toList.isEmpty || (F.ty == 6) && !(F.data.size == 8) || (F.ty == 4) && hasB F.fl 1 && !(n == 0)

theorem extra_fit (F : Fr) (n : Nat) : F.extraB n = (!(F.fitB n) || (F.ty == 6) && !(F.data.size == 8)) := by
  obtain ⟨t, f, st, data, pad, dep, sole, wt, code, last, inc⟩ := F
  unfold Fr.extraB Fr.fitB fitV shP shD shL shC shI shR shX
  simp only
  generalize hasB f 8 = b8
  generalize hasB f 32 = b32
  generalize hasB f 1 = b1
  generalize data.toList.isEmpty = de
  generalize (data.size == 8) = d8
  generalize (pad == 0) = p0
  generalize (dep == 0) = q0
  generalize (wt == 0) = w0
  generalize (code == 0) = c0
  generalize (last == 0) = l0
  generalize (inc == 0) = i0
  generalize (n == 0) = n0
  by_cases h : t = 0 ∨ t = 1 ∨ t = 2 ∨ t = 3 ∨ t = 4 ∨ t = 6 ∨ t = 7 ∨ t = 8
  · rcases h with rfl | rfl | rfl | rfl | rfl | rfl | rfl | rfl <;> simp <;> cases b8 <;> cases p0 <;> cases q0 <;> cases sole <;> cases w0 <;> simp <;> cases c0 <;> cases l0 <;> cases i0 <;> cases n0 <;> simp <;> cases b1 <;> cases b32 <;> cases de <;> cases d8 <;> simp
  · simp only [not_or] at h
    obtain ⟨h0, h1, h2, h3, h4, h6, h7, h8⟩ := h
    simp [h0, h1, h2, h3, h4, h6, h7, h8]
    cases p0 <;> cases q0 <;> cases sole <;> cases w0 <;> cases c0 <;> cases l0 <;> cases i0 <;> cases n0 <;> simp [h2, h3, h4, h6, h7, h8]
end Go.Proofs.Ytefdhbljcnpggaa
