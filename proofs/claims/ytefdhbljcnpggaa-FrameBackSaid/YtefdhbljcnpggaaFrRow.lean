/-
  Layer 9: bytes put behind a slice of the call's own: zeros, a text, a number; Grow.
-/
import Derived.Test.YtefdhbljcnpggaaFrStr
import Derived.Test.YtefdhbljcnpggaaFhPut2
import Derived.Test.YtefdhbljcnpggaaOps
import Derived.Lib.AppendZerosOnto
import Derived.Lib.AppendZeros
import Derived.Lib.AppendStr
namespace Go.Proofs.Ytefdhbljcnpggaa
open Go.RowKit

/-- k zeros. -/
def zs (k : Nat) : List Int := List.replicate k 0
theorem u8s_zs (k : Nat) : u8s (zs k) = List.replicate k (Value.int .u8 0) := by simp [u8s, zs]
theorem zeroCells_u8 (k : Nat) : (Builtin.zeroCells (Value.int .u8 0).cells k).toList = u8s (zs k) := by
  rw [u8s_zs]
  apply List.ext_getElem
  · simp [Builtin.zeroCells, Value.cells]
  · intro i h1 h2
    simp [Builtin.zeroCells, Value.cells]
    rw [show i % 1 = 0 by omega]
    rfl
theorem zeroCells_u8' (k : Nat) : Builtin.zeroCells (Value.int .u8 0).cells k = (u8s (zs k)).toArray := by
  apply Array.ext'
  rw [zeroCells_u8]

theorem grown_alloc {w w' : World} {o : Obj} {row : Option Nat} (h : (w.alloc o).grownBy w' row) : w.grownBy w' row :=
  ⟨h.os, h.tape, h.output, by have := h.size; rw [World.size_alloc] at this; omega, fun k hk hr => (h.block k (by rw [World.size_alloc]; omega) hr).trans (Below.heap_alloc w o k hk)⟩
theorem grown_drew {w w' : World} {row : Option Nat} (h : w.drew.grownBy w' row) : w.grownBy w' row := ⟨h.os, h.tape, h.output, h.size, h.block⟩
/-- A block of another type is not a row of bytes. -/
theorem own_apart {w : World} {B n g : Nat} {v : Value} {xs : List Value} {t e : TypeId} {cs : Array Value} (h : w.ownsRow B e 1 v n xs) (hk : BlkIs w g t cs) (hne : t ≠ e) : some g ≠ v.ownBlock := by
  intro he
  rcases h.2 with ⟨rfl, _⟩ | ⟨b, cap, cur, rfl, _, hb, _⟩
  · cases he
  · injection he with he
    subst he
    exact hk.ne_ (show BlkIs w g e cur from hb) hne rfl
theorem strCells_u8s (s : ByteArray) : Lib.strCells s = u8s (bts s) := by
  simp [Lib.strCells, u8s, bts, List.map_map, Function.comp_def]

section
variable {P : Program} (w : World)
/-- append of zeros onto a slice of the call's own. -/
theorem run_append_own_zeros (base : Nat) (t tn ty e : TypeId) (i : TypeInfo) (ht : P.underlying t = some (.slice e)) (htn : P.underlying tn = some (.int .i64)) (hi : P.info? e = some i) (hz : i.zero = some (.int .u8 0))
    (hsize : i.size = 1) (hby : i.bytes = 1) (v : Value) (n : Nat) (xs : List Int) (hown : w.ownsRow base e 1 v n (u8s xs)) (k : Nat)
    (h63 : n + k ≤ 1000000000) (hbase : base ≤ w.heap.size) :
    ∃ v' w', (Builtin.append_ #[t, tn] ty #[v, .int .i64 (k : Int)]).run P w = .ok v' w' ∧ w'.ownsRow base e 1 v' (n + k) (u8s (xs ++ zs k)) ∧ w.grownBy w' v.ownBlock := by
  have hxl : xs.length = n := by simpa [u8s] using hown.1
  have hul : (u8s xs).length = n := by simp [u8s, hxl]
  have hap : u8s (xs ++ zs k) = u8s xs ++ u8s (zs k) := by simp [u8s]
  have hzl : (u8s (zs k)).length = k := by simp [u8s, zs]
  have hlen : (u8s (xs ++ zs k)).length = (n + k) * 1 := by rw [hap, List.length_append, hul, hzl, Nat.mul_one]
  have hw : IntKind.i64.wrap (k : Int) = k := by rw [IntKind.wrap_i64]; omega
  have hneg : ¬ ((k : Int) < 0) := by omega
  have h48 : ¬ (281474976710656 < (k : Int)) := by omega
  have grown : ∀ (old : Nat), old < n + k → ∀ (row : Option Nat),
      (w.drew.alloc (.cells ((u8s xs).toArray ++ Builtin.zeroCells (Value.int .u8 0).cells k ++ Builtin.zeroCells (Value.int .u8 0).cells (grownCap w (n + k) old e - (n + k))) e)).ownsRow base e 1
        (.slice (some ⟨w.heap.size, 0, none⟩) (n + k) (grownCap w (n + k) old e)) (n + k) (u8s (xs ++ zs k)) ∧
      w.grownBy (w.drew.alloc (.cells ((u8s xs).toArray ++ Builtin.zeroCells (Value.int .u8 0).cells k ++ Builtin.zeroCells (Value.int .u8 0).cells (grownCap w (n + k) old e - (n + k))) e)) row := by
    intro old ho row
    have hge := grownCap_ge w (n + k) old e
    have hcm : grownCap w (n + k) old e ≤ maxLen := grownCap_le_maxLen w (n + k) old e (by unfold maxLen; omega)
    refine ⟨⟨hlen, .inr ⟨w.heap.size, _, _, rfl, hbase, heap_alloc_new w.drew _, hge, hcm, ?_, ?_⟩⟩, ⟨rfl, rfl, rfl, by simp, fun j hj _ => Below.heap_alloc w.drew _ j hj⟩⟩
    · have hz1 : (Value.int IntKind.u8 0).cells.size = 1 := rfl
      simp only [Array.size_append, List.size_toArray, size_zeroCells, hz1, hul]
      omega
    · rw [zeroCells_u8' k]
      simp only [Array.toList_append]
      rw [← hap, ← hlen]
      exact List.take_left
  rcases hown.2 with ⟨rfl, rfl⟩ | ⟨g, cap, cur, rfl, hbg, hg, hnc, hcm, hcs, htake⟩
  · have hx : xs = [] := List.eq_nil_of_length_eq_zero hxl
    subst hx
    by_cases hm : k = 0
    · subst hm
      refine ⟨.slice none 0 0, w, ?_, World.ownsRow_nil w base e 1, ⟨rfl, rfl, rfl, Nat.le_refl _, fun _ _ _ => rfl⟩⟩
      have hw0 : IntKind.i64.wrap 0 = 0 := hw
      simp [Builtin.append_, run_underlying ht, run_underlying htn, sizeOf, typeInfo, hi, hsize, asInt, asIntOf, hw0]
    · have hr := Lib.run_append_nil_zeros (P := P) w t tn ty e i (.int .u8 0) .i64 .i64 ht htn hi hz k (by omega) (by omega) (by omega) (by rw [hby]; omega)
      have hgr := grown 0 (by omega) (Value.ownBlock (.slice none 0 0))
      simp only [Nat.zero_add, show u8s ([] : List Int) = [] from rfl, List.nil_append, Array.empty_append] at hgr ⊢
      exact ⟨_, _, hr, by simpa using hgr.1, by simpa using hgr.2⟩
  · by_cases hroom : n + k ≤ cap
    · have hcs' : cur.size = cap := by simpa using hcs
      by_cases hm : k = 0
      · subst hm
        refine ⟨.slice (some ⟨g, 0, none⟩) n cap, w, ?_, ?_, ⟨rfl, rfl, rfl, Nat.le_refl _, fun _ _ _ => rfl⟩⟩
        · have hw0 : IntKind.i64.wrap 0 = 0 := hw
          simp [Builtin.append_, run_underlying ht, run_underlying htn, sizeOf, typeInfo, hi, hsize, asInt, asIntOf, hw0, hnc, storeCells]
        · have : xs ++ zs 0 = xs := by simp [zs]
          rw [this]
          exact hown
      · have hst := run_storeCells_at P g n e (u8s (zs k)) 0 cur w hg (by rw [hzl]; omega) (ints_oneCell _ _)
        simp only [Nat.add_zero, hzl] at hst
        have hzz : (zeroValue e).run P w = .ok (.int .u8 0) w := run_zero_is (by rw [hi]; simpa using hz) w
        refine ⟨.slice (some ⟨g, 0, none⟩) (n + k) cap, w.setRow g (cur.toList.take n ++ u8s (zs k) ++ cur.toList.drop (n + k)).toArray, ?_, ⟨hlen, .inr ⟨g, cap, _, rfl, hbg, setRow_heap w g cur _ e _ hg, hroom, hcm, ?_, ?_⟩⟩, ⟨rfl, rfl, rfl, by simp, fun j _ hj => setRow_other w g j _ (fun e => hj (by simp [Value.ownBlock, e]))⟩⟩
        · simp [Builtin.append_, run_underlying ht, run_underlying htn, sizeOf, typeInfo, hi, hsize, hby, asInt, asIntOf, hw, hneg, h48, hm, hroom, hzz, zeroCells_u8', Addr.add_lit, hst]
        · simp only [List.size_toArray, List.length_append, List.length_take, List.length_drop, Array.length_toList, hzl]
          omega
        · have ht' : cur.toList.take n = u8s xs := by simpa using htake
          rw [ht', ← hap, ← hlen]
          exact List.take_left
    · have holds : ∀ j u, (u8s xs)[j]? = some u → w.cell? ((⟨g, 0, none⟩ : Addr).add j) = some u := hown.cells (g := g) rfl
      have hfo := run_firstCells_some (P := P) w.drew i.size n ⟨g, 0, none⟩ n cap (u8s xs) (by rw [hsize, hul, Nat.mul_one]) (by simpa using holds)
      have hr := Lib.run_append_grow_zeros (P := P) w t tn ty e i (.int .u8 0) .i64 .i64 ht htn hi hz (some ⟨g, 0, none⟩) n cap (u8s xs) hfo k (by omega) (by omega) (by omega) (by omega) (by rw [hby]; omega) (by rw [hby]; exact growslice_fits (by omega) (by omega))
      have hgr := grown cap (by omega) (Value.ownBlock (.slice (some ⟨g, 0, none⟩) n cap))
      exact ⟨_, _, hr, hgr.1, hgr.2⟩
end

theorem wpList_append_zs {P : Program} (w : World) {ops : Array Oper} {rest : List Oper} {o : Oper} {a : Act} {Q : Exit → Act → World → Prop} (hgd : o.guard = none) (s x : Operand) (t tn : TypeId)
    (ho : o.op = .call { callee := .builtin .append, args := #[s, x], argTypes := #[t, tn] })
    (base : Nat) (e : TypeId) (i : TypeInfo) (ht : P.underlying t = some (.slice e)) (htn : P.underlying tn = some (.int .i64)) (hi : P.info? e = some i) (hz : i.zero = some (.int .u8 0)) (hsize : i.size = 1) (hby : i.bytes = 1)
    (v : Value) (xs : List Int) (hs : a.eval s = v) (hown : w.ownsRow base e 1 v xs.length (u8s xs)) (k : Nat) (hx : a.eval x = .int .i64 (k : Int)) (h63 : xs.length + k ≤ 1000000000) (hbase : base ≤ w.heap.size)
    (h : ∀ v' w', w'.ownsRow base e 1 v' (xs ++ zs k).length (u8s (xs ++ zs k)) → w.grownBy w' v.ownBlock → wpList P ops Q rest (a.put o.dst v') w') : wpList P ops Q (o :: rest) a w := by
  obtain ⟨v', w', hr, hown', hg⟩ := run_append_own_zeros (P := P) w base t tn o.type e i ht htn hi hz hsize hby v xs.length xs hown k h63 hbase
  exact Lib.wpList_append_run w hgd s x t tn ho v (.int .i64 (k : Int)) hs hx v' w' hr (h v' w' (by rw [List.length_append, show (zs k).length = k by simp [zs]]; exact hown') hg)

/-- The four bytes of a number. -/
def num4 (x : Int) : List Int := [x / 16777216 % 256, x / 65536 % 256, x / 256 % 256, x % 256]
theorem num4_len (x : Int) : (num4 x).length = 4 := rfl
theorem num4_all (x : Int) : AllB (num4 x) := by
  intro y hy
  simp only [num4, List.mem_cons, List.not_mem_nil, or_false] at hy
  omega

/-- What a call that puts bytes behind its own leaves. -/
def GrowsRow (B : Nat) (l : List Int) (v : Value) (w : World) (e : Ending) (w' : World) : Prop :=
  ∃ v', e = .returned v' ∧ w'.ownsRow B 5 1 v' l.length (u8s l) ∧ w.grownBy w' v.ownBlock

set_option maxRecDepth 100000 in
set_option maxHeartbeats 1600000 in
theorem fr_layNumber (B : Nat) (v : Value) (xs : List Int) (x : Int) (x0 : 0 ≤ x) (x1 : x ≤ 4294967295) (w : World) (hB : B ≤ w.heap.size) (hown : w.ownsRow B 5 1 v xs.length (u8s xs)) (hx : (xs.length : Int) ≤ 500000) :
    Calls Try.prog 57 #[v, .int .u32 x] w (GrowsRow B (xs ++ num4 x) v w) := by
  obtain ⟨i0, hi0, hz0, hz1, hz2⟩ := info_parts u8_info
  have HO := hide hown
  have HX := hide (show xs.length + 4 ≤ 1000000 by omega)
  have HN := hide (show num4 x = [x / 16777216, x / 65536 % 256, x / 256 % 256, x % 256] by unfold num4; rw [show x / 16777216 % 256 = x / 16777216 by omega])
  have HA := hide (num4_all x)
  clear hown hx
  go_enter Try.func57, Try.ntmps57
  go_wp2_with (at_builtin; refine wpList_append_rb _ rfl (.tmp 5) (.tmp 17) 44 rfl B 5 i0 Try.underlying44 hi0 hz0 hz1 hz2 v xs rfl (HO.out.alloc _) (some ⟨w.heap.size, 0, none⟩) 4 4 (num4 x) rfl (blk_rb (by rw [HN.out]; exact BlkIs.new w _ _) rfl HA.out) (fun h => by cases h) HX.out (by have := hB; simp; omega) ?_; intro v2 w2 hown2 hg2; have HO2 := hide hown2; have HG2 := hide (grown_alloc hg2); clear hown2 hg2)
  go_ret
  exact ⟨_, rfl, HO2.out, HG2.out⟩
end Go.Proofs.Ytefdhbljcnpggaa
