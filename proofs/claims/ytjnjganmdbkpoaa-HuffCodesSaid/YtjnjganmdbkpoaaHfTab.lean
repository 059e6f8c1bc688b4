/-
  Layer 2: the tables of the program's text.
-/
import Derived.Test.YtjnjganmdbkpoaaOps
import Derived.Test.YtjnjganmdbkpoaaChecked
import Derived.Outline
namespace Go.Proofs.Ytjnjganmdbkpoaa
open Go.RowKit

/-- The lengths. -/
def lensL : List Nat := [
  13, 23, 28, 28, 28, 28, 28, 28, 28, 24, 30, 28, 28, 30, 28, 28,
  28, 28, 28, 28, 28, 28, 30, 28, 28, 28, 28, 28, 28, 28, 28, 28,
  6, 10, 10, 12, 13, 6, 8, 11, 10, 10, 8, 11, 8, 6, 6, 6,
  5, 5, 5, 6, 6, 6, 6, 6, 6, 6, 7, 8, 15, 6, 12, 10,
  13, 6, 7, 7, 7, 7, 7, 7, 7, 7, 7, 7, 7, 7, 7, 7,
  7, 7, 7, 7, 7, 7, 7, 7, 8, 7, 8, 13, 19, 13, 14, 6,
  15, 5, 6, 5, 6, 5, 6, 6, 6, 5, 7, 7, 6, 6, 6, 5,
  6, 7, 6, 5, 5, 6, 7, 7, 7, 7, 7, 15, 11, 14, 13, 28,
  20, 22, 20, 20, 22, 22, 22, 23, 22, 23, 23, 23, 23, 23, 24, 23,
  24, 24, 22, 23, 24, 23, 23, 23, 23, 21, 22, 23, 22, 23, 23, 24,
  22, 21, 20, 22, 22, 23, 23, 21, 23, 22, 22, 24, 21, 22, 23, 23,
  21, 21, 22, 21, 23, 22, 23, 23, 20, 22, 22, 22, 23, 22, 22, 23,
  26, 26, 20, 19, 22, 23, 22, 25, 26, 26, 26, 27, 27, 26, 24, 25,
  19, 21, 26, 27, 27, 26, 27, 24, 21, 21, 26, 26, 28, 27, 27, 27,
  20, 24, 20, 21, 22, 21, 21, 23, 22, 22, 25, 25, 24, 24, 26, 23,
  26, 27, 26, 26, 27, 27, 27, 27, 27, 28, 27, 27, 27, 27, 27, 26]

def u8v (l : List Nat) : Array Value := (l.map fun n : Nat => Value.int .u8 (n : Int)).toArray
def u32v (l : List Nat) : Array Value := (l.map fun n : Nat => Value.int .u32 (n : Int)).toArray

def lensV : Array Value := u8v lensL

def zeros8 (n : Nat) : Array Value := Array.replicate n (.int .u8 0)
def zeros32 (n : Nat) : Array Value := Array.replicate n (.int .u32 0)
def lensZ : Array Value := zeros8 256

theorem hf_zero_lens : (Try.prog.info? 50).bind (·.zero) = some (.agg lensZ) := by kernel_rfl
theorem hf_size_lens : (Try.prog.info? 50).map (·.size) = some lensV.size := by kernel_rfl
theorem lensV_one : lensV.all (·.oneCell') = true := by decide +kernel

set_option maxRecDepth 100000 in
set_option maxHeartbeats 400000 in
theorem hf_lengths (w : World) : Calls Try.prog 22 #[] w fun e w' => e = .returned (.agg lensV) ∧ Below w.heap.size w w' := by
  have hz := run_zero_is hf_zero_lens
  go_enter Try.func22, Try.ntmps22
  go_wp2_with (first
    | (with_reducible refine wpList_built rfl 50 _ rfl lensV (by kernel_rfl) ?_)
    | (with_reducible refine wpList_store_new rfl 50 _ _ rfl lensV lensZ 50 rfl rfl hf_size_lens rfl lensV_one ?_))
  exact bodyPost_ret (results_cell_blk rfl _ _ w.heap.size 50 lensV _ rfl (BlkIs.new _ _ _) Try.underlying50 rfl hf_size_lens) rfl ⟨rfl, (Below.refl _ _).alloc (Nat.le_refl _) _⟩
end Go.Proofs.Ytjnjganmdbkpoaa
