/-
  Layer 3: the table that is always there, as lists of texts.
-/
import Derived.Test.YtchndegcnjejiaaOps
import Derived.Test.YtchndegcnjejiaaChecked
import Derived.StillTailTactics
import Derived.BigRegion
namespace Go.Proofs.Ytchndegcnjejiaa
open Go.RowKit

/-- The 61 fields: name and value. -/
def flds : List (ByteArray × ByteArray) := [
  (⟨#[58, 97, 117, 116, 104, 111, 114, 105, 116, 121]⟩, ⟨#[]⟩),
  (⟨#[58, 109, 101, 116, 104, 111, 100]⟩, ⟨#[71, 69, 84]⟩),
  (⟨#[58, 109, 101, 116, 104, 111, 100]⟩, ⟨#[80, 79, 83, 84]⟩),
  (⟨#[58, 112, 97, 116, 104]⟩, ⟨#[47]⟩),
  (⟨#[58, 112, 97, 116, 104]⟩, ⟨#[47, 105, 110, 100, 101, 120, 46, 104, 116, 109, 108]⟩),
  (⟨#[58, 115, 99, 104, 101, 109, 101]⟩, ⟨#[104, 116, 116, 112]⟩),
  (⟨#[58, 115, 99, 104, 101, 109, 101]⟩, ⟨#[104, 116, 116, 112, 115]⟩),
  (⟨#[58, 115, 116, 97, 116, 117, 115]⟩, ⟨#[50, 48, 48]⟩),
  (⟨#[58, 115, 116, 97, 116, 117, 115]⟩, ⟨#[50, 48, 52]⟩),
  (⟨#[58, 115, 116, 97, 116, 117, 115]⟩, ⟨#[50, 48, 54]⟩),
  (⟨#[58, 115, 116, 97, 116, 117, 115]⟩, ⟨#[51, 48, 52]⟩),
  (⟨#[58, 115, 116, 97, 116, 117, 115]⟩, ⟨#[52, 48, 48]⟩),
  (⟨#[58, 115, 116, 97, 116, 117, 115]⟩, ⟨#[52, 48, 52]⟩),
  (⟨#[58, 115, 116, 97, 116, 117, 115]⟩, ⟨#[53, 48, 48]⟩),
  (⟨#[97, 99, 99, 101, 112, 116, 45, 99, 104, 97, 114, 115, 101, 116]⟩, ⟨#[]⟩),
  (⟨#[97, 99, 99, 101, 112, 116, 45, 101, 110, 99, 111, 100, 105, 110, 103]⟩, ⟨#[103, 122, 105, 112, 44, 32, 100, 101, 102, 108, 97, 116, 101]⟩),
  (⟨#[97, 99, 99, 101, 112, 116, 45, 108, 97, 110, 103, 117, 97, 103, 101]⟩, ⟨#[]⟩),
  (⟨#[97, 99, 99, 101, 112, 116, 45, 114, 97, 110, 103, 101, 115]⟩, ⟨#[]⟩),
  (⟨#[97, 99, 99, 101, 112, 116]⟩, ⟨#[]⟩),
  (⟨#[97, 99, 99, 101, 115, 115, 45, 99, 111, 110, 116, 114, 111, 108, 45, 97, 108, 108, 111, 119, 45, 111, 114, 105, 103, 105, 110]⟩, ⟨#[]⟩),
  (⟨#[97, 103, 101]⟩, ⟨#[]⟩),
  (⟨#[97, 108, 108, 111, 119]⟩, ⟨#[]⟩),
  (⟨#[97, 117, 116, 104, 111, 114, 105, 122, 97, 116, 105, 111, 110]⟩, ⟨#[]⟩),
  (⟨#[99, 97, 99, 104, 101, 45, 99, 111, 110, 116, 114, 111, 108]⟩, ⟨#[]⟩),
  (⟨#[99, 111, 110, 116, 101, 110, 116, 45, 100, 105, 115, 112, 111, 115, 105, 116, 105, 111, 110]⟩, ⟨#[]⟩),
  (⟨#[99, 111, 110, 116, 101, 110, 116, 45, 101, 110, 99, 111, 100, 105, 110, 103]⟩, ⟨#[]⟩),
  (⟨#[99, 111, 110, 116, 101, 110, 116, 45, 108, 97, 110, 103, 117, 97, 103, 101]⟩, ⟨#[]⟩),
  (⟨#[99, 111, 110, 116, 101, 110, 116, 45, 108, 101, 110, 103, 116, 104]⟩, ⟨#[]⟩),
  (⟨#[99, 111, 110, 116, 101, 110, 116, 45, 108, 111, 99, 97, 116, 105, 111, 110]⟩, ⟨#[]⟩),
  (⟨#[99, 111, 110, 116, 101, 110, 116, 45, 114, 97, 110, 103, 101]⟩, ⟨#[]⟩),
  (⟨#[99, 111, 110, 116, 101, 110, 116, 45, 116, 121, 112, 101]⟩, ⟨#[]⟩),
  (⟨#[99, 111, 111, 107, 105, 101]⟩, ⟨#[]⟩),
  (⟨#[100, 97, 116, 101]⟩, ⟨#[]⟩),
  (⟨#[101, 116, 97, 103]⟩, ⟨#[]⟩),
  (⟨#[101, 120, 112, 101, 99, 116]⟩, ⟨#[]⟩),
  (⟨#[101, 120, 112, 105, 114, 101, 115]⟩, ⟨#[]⟩),
  (⟨#[102, 114, 111, 109]⟩, ⟨#[]⟩),
  (⟨#[104, 111, 115, 116]⟩, ⟨#[]⟩),
  (⟨#[105, 102, 45, 109, 97, 116, 99, 104]⟩, ⟨#[]⟩),
  (⟨#[105, 102, 45, 109, 111, 100, 105, 102, 105, 101, 100, 45, 115, 105, 110, 99, 101]⟩, ⟨#[]⟩),
  (⟨#[105, 102, 45, 110, 111, 110, 101, 45, 109, 97, 116, 99, 104]⟩, ⟨#[]⟩),
  (⟨#[105, 102, 45, 114, 97, 110, 103, 101]⟩, ⟨#[]⟩),
  (⟨#[105, 102, 45, 117, 110, 109, 111, 100, 105, 102, 105, 101, 100, 45, 115, 105, 110, 99, 101]⟩, ⟨#[]⟩),
  (⟨#[108, 97, 115, 116, 45, 109, 111, 100, 105, 102, 105, 101, 100]⟩, ⟨#[]⟩),
  (⟨#[108, 105, 110, 107]⟩, ⟨#[]⟩),
  (⟨#[108, 111, 99, 97, 116, 105, 111, 110]⟩, ⟨#[]⟩),
  (⟨#[109, 97, 120, 45, 102, 111, 114, 119, 97, 114, 100, 115]⟩, ⟨#[]⟩),
  (⟨#[112, 114, 111, 120, 121, 45, 97, 117, 116, 104, 101, 110, 116, 105, 99, 97, 116, 101]⟩, ⟨#[]⟩),
  (⟨#[112, 114, 111, 120, 121, 45, 97, 117, 116, 104, 111, 114, 105, 122, 97, 116, 105, 111, 110]⟩, ⟨#[]⟩),
  (⟨#[114, 97, 110, 103, 101]⟩, ⟨#[]⟩),
  (⟨#[114, 101, 102, 101, 114, 101, 114]⟩, ⟨#[]⟩),
  (⟨#[114, 101, 102, 114, 101, 115, 104]⟩, ⟨#[]⟩),
  (⟨#[114, 101, 116, 114, 121, 45, 97, 102, 116, 101, 114]⟩, ⟨#[]⟩),
  (⟨#[115, 101, 114, 118, 101, 114]⟩, ⟨#[]⟩),
  (⟨#[115, 101, 116, 45, 99, 111, 111, 107, 105, 101]⟩, ⟨#[]⟩),
  (⟨#[115, 116, 114, 105, 99, 116, 45, 116, 114, 97, 110, 115, 112, 111, 114, 116, 45, 115, 101, 99, 117, 114, 105, 116, 121]⟩, ⟨#[]⟩),
  (⟨#[116, 114, 97, 110, 115, 102, 101, 114, 45, 101, 110, 99, 111, 100, 105, 110, 103]⟩, ⟨#[]⟩),
  (⟨#[117, 115, 101, 114, 45, 97, 103, 101, 110, 116]⟩, ⟨#[]⟩),
  (⟨#[118, 97, 114, 121]⟩, ⟨#[]⟩),
  (⟨#[118, 105, 97]⟩, ⟨#[]⟩),
  (⟨#[119, 119, 119, 45, 97, 117, 116, 104, 101, 110, 116, 105, 99, 97, 116, 101]⟩, ⟨#[]⟩)]

def noF : ByteArray × ByteArray := (⟨#[]⟩, ⟨#[]⟩)
/-- The name and the value behind k others. -/
def nm (k : Nat) : ByteArray := (flds.getD k noF).1
def vl (k : Nat) : ByteArray := (flds.getD k noF).2
theorem flds_len : flds.length = 61 := by decide +kernel

def namesV : Array Value := (flds.map fun f => Value.string f.1).toArray
def namesZ : Array Value := Array.replicate 61 (.string ⟨#[]⟩)
def fldV (a b : ByteArray) (n : Bool) : Array Value := #[.string a, .string b, .bool n]

theorem st_zero_names : (Try.prog.info? 63).bind (·.zero) = some (.agg namesZ) := by kernel_rfl
theorem st_size_names : (Try.prog.info? 63).map (·.size) = some namesV.size := by kernel_rfl
theorem st_size_str : (Try.prog.info? 9).map (·.size) = some 1 := by kernel_rfl
theorem namesV_one : namesV.all (·.oneCell') = true := by decide +kernel
theorem st_zero_fld : (Try.prog.info? 29).bind (·.zero) = some (.agg (fldV ⟨#[]⟩ ⟨#[]⟩ false)) := by kernel_rfl
theorem st_size_fld : (Try.prog.info? 29).map (·.size) = some 3 := by kernel_rfl
theorem fldV_one (a b : ByteArray) (n : Bool) : (fldV a b n).all (·.oneCell') = true := by simp [fldV, Value.oneCell']

theorem namesV_get (k : Nat) (hk : k < 61) : namesV[k]? = some (.string (nm k)) := by
  simp only [namesV, nm, List.getElem?_toArray, List.getElem?_map, List.getD]
  rw [List.getElem?_eq_getElem (by rw [flds_len]; exact hk)]
  rfl
theorem names_index (k : Nat) (hk : k < 61) (kd : IntKind) (w : World) : (Instr.index 63 (.agg namesV) (.int kd (k : Int))).run Try.prog w = .ok (.string (nm k)) w :=
  run_index_one Try.underlying63 st_size_str Try.underlying9 rfl namesV kd k hk _ (namesV_get k hk) w

set_option maxRecDepth 100000 in
set_option maxHeartbeats 400000 in
theorem st_names (w : World) : Calls Try.prog 35 #[] w fun e w' => e = .returned (.agg namesV) ∧ Below w.heap.size w w' := by
  have hz := run_zero_is st_zero_names
  go_enter Try.func35, Try.ntmps35
  go_wp2_with (first
    | (with_reducible refine wpList_built rfl 63 _ rfl namesV (by kernel_rfl) ?_)
    | (with_reducible refine wpList_store_new rfl 63 _ _ rfl namesV namesZ 63 rfl rfl st_size_names rfl namesV_one ?_))
  exact bodyPost_ret (results_cell_blk rfl _ _ w.heap.size 63 namesV _ rfl (BlkIs.new _ _ _) Try.underlying63 rfl st_size_names) rfl ⟨rfl, (Below.refl _ _).alloc (Nat.le_refl _) _⟩

/-- The value at a place. -/
def vlAt (n : Int) : ByteArray := if 0 < n then vl (n - 1).toNat else ⟨#[]⟩
theorem vl_none : ∀ k, k < 61 → (k ∈ [1, 2, 3, 4, 5, 6, 7, 8, 9, 10, 11, 12, 13, 15] ∨ vl k = ⟨#[]⟩) := by decide +kernel
theorem vl_out (k : Nat) (h : 61 ≤ k) : vl k = ⟨#[]⟩ := by
  unfold vl
  rw [List.getD, List.getElem?_eq_none (by rw [flds_len]; omega)]
  rfl
theorem vlAt_none (n : Int) (h2 : (n == 2) = false) (h3 : (n == 3) = false) (h4 : (n == 4) = false) (h5 : (n == 5) = false) (h6 : (n == 6) = false) (h7 : (n == 7) = false) (h8 : (n == 8) = false)
    (h9 : (n == 9) = false) (h10 : (n == 10) = false) (h11 : (n == 11) = false) (h12 : (n == 12) = false) (h13 : (n == 13) = false) (h14 : (n == 14) = false) (h16 : (n == 16) = false) : vlAt n = ⟨#[]⟩ := by
  simp only [beq_eq_false_iff_ne, ne_eq] at *
  unfold vlAt
  split
  · by_cases hk : (n - 1).toNat < 61
    · rcases vl_none _ hk with h | h
      · simp only [List.mem_cons, List.not_mem_nil, or_false] at h
        omega
      · exact h
    · exact vl_out _ (by omega)
  · rfl

set_option maxRecDepth 100000 in
set_option maxHeartbeats 1600000 in
theorem st_valueAt (n : Int) (w : World) : Calls Try.prog 36 #[.int .i64 n] w fun e w' => e = .returned (.string (vlAt n)) ∧ w = w' := by
  obtain ⟨V, hV⟩ : ∃ V, V = vlAt n := ⟨_, rfl⟩
  rw [← hV]
  have HV := hide hV
  clear hV
  go_enter Try.func36, Try.ntmps36
  go_wp2
  all_goals go_ret
  all_goals refine ⟨?_, rfl⟩
  all_goals first
    | (rename_i h
       obtain rfl := eq_of_beq h
       show Ending.returned (.string _) = _
       rw [HV.out]
       rfl)
    | (show Ending.returned (.string _) = _
       rw [HV.out, vlAt_none n (by assumption) (by assumption) (by assumption) (by assumption) (by assumption) (by assumption) (by assumption) (by assumption) (by assumption) (by assumption) (by assumption) (by assumption) (by assumption) (by assumption)])
end Go.Proofs.Ytchndegcnjejiaa
