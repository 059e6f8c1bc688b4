/-
  Layer 9's plain arithmetic: which fields a payload has, and how many bytes they have.
-/
import Derived.Test.YtighhdgaaelcdaaFhMath
import Derived.Test.YtighhdgaaelcdaaFrMem
namespace Go.Proofs.Ytighhdgaaelcdaa
set_option linter.unusedSimpArgs false
set_option linter.unusedVariables false

/-- Which fields a payload has, by type and flags. -/
def shP (t f : Int) : Bool := (decide (t = 0) || decide (t = 1)) && hasB f 8
def shD (t f : Int) : Bool := decide (t = 2) || decide (t = 1) && hasB f 32
def shL (t : Int) : Bool := decide (t = 7)
def shC (t : Int) : Bool := decide (t = 3) || decide (t = 7)
def shI (t : Int) : Bool := decide (t = 8)
def shR (t f : Int) : Bool := decide (t = 4) && !hasB f 1
def shX (t : Int) : Bool := !(decide (t = 2) || decide (t = 3) || decide (t = 4) || decide (t = 8))
def shV (t f : Int) : Array Value := #[.bool (shP t f), .bool (shD t f), .bool (shL t), .bool (shC t), .bool (shI t), .bool (shR t f), .bool (shX t)]
def b4 (b : Bool) : Int := if b then 4 else 0
def fixN (d l c i : Bool) : Int := (if d then 5 else 0) + b4 l + b4 c + b4 i
def fixT (t f : Int) : Int := fixN (shD t f) (shL t) (shC t) (shI t)

theorem t_cases {t : Int} (h0 : 0 ≤ t) : t = 0 ∨ t = 1 ∨ t = 2 ∨ t = 3 ∨ t = 4 ∨ t = 5 ∨ t = 6 ∨ t = 7 ∨ t = 8 ∨ t = 9 ∨ 9 < t := by omega

/-- May a type not stand on a stream? -/
def misB (t s : Int) : Bool := if t = 0 ∨ t = 1 ∨ t = 2 ∨ t = 3 ∨ t = 9 then decide (s = 0) else if t = 4 ∨ t = 6 ∨ t = 7 then decide (s ≠ 0) else decide (t = 5)

/-- May a payload have n bytes? -/
def rightB (t f n : Int) : Bool := if t = 6 then decide (n = 8) else if shR t f then decide (n % 6 = 0) else if shX t then decide (fixT t f ≤ n) else decide (n = fixT t f)

/-- Are all numbers in range? -/
def inS (n : Int) : Bool := decide (0 ≤ n) && decide (n ≤ 2147483647)
def Fr.inB (F : Fr) : Bool := inS F.st && inS F.dep && inS F.last && inS F.inc && decide (0 ≤ F.pad) && decide (F.pad ≤ 255)
end Go.Proofs.Ytighhdgaaelcdaa
