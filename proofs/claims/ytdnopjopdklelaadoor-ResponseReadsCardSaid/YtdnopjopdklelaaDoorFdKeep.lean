/-
  append onto a row of the call's own, the row that was there kept as well (it is appended to twice).
-/
import Derived.Test.YtdnopjopdklelaaDoorFdNew
import Derived.ArgAppend
namespace Go.Proofs.YtdnopjopdklelaaDoor
set_option linter.unusedSimpArgs false
set_option linter.unusedVariables false
open Go.RowKit

theorem own_some_f {w : World} {B : Nat} {e : TypeId} {s : Nat} {v : Value} {n : Nat} {xs : List Value} (h : w.ownsRow B e s v n xs) (hn : 0 < n) : ∃ g c, v = .slice (some ⟨g, 0, none⟩) n c ∧ B ≤ g := by
  rcases h.2 with ⟨_, h0⟩ | ⟨g, cap, cur, rfl, hB, _⟩
  · omega
  · exact ⟨g, cap, rfl, hB⟩

theorem run_append_flkeep (w : World) (ty : TypeId) (base g n cap : Nat) (xs : List Fd) (hown : w.ownsRow base 51 3 (.slice (some ⟨g, 0, none⟩) n cap) n (fcs xs))
    (ad : Addr) (m c : Nat) (ys : List Fd) (hr : FL w (some ad) m c ys) (h63 : n + m ≤ 1000000) (hbase : base ≤ w.heap.size) :
    ∃ v' w', (Builtin.append_ #[24, 24] ty #[.slice (some ⟨g, 0, none⟩) n cap, .slice (some ad) m c]).run Tryd.prog w = .ok v' w' ∧ w'.ownsRow base 51 3 v' (n + m) (fcs (xs ++ ys)) ∧
      w'.ownsRow base 51 3 (.slice (some ⟨g, 0, none⟩) n cap) n (fcs xs) ∧ w.grownBy w' (some g) := by
  obtain ⟨i0, hi0, hz0, hz1, hz2⟩ := info_parts fd_info
  have hfl := FL.of_own hown
  by_cases hroom : n + m ≤ cap
  · rcases hown.2 with ⟨h, _⟩ | ⟨g', cap', cur, h, hbg, hg, hnc, hcm, hcs, htake⟩
    · cases h
    · injection h with h1 h2 h3
      injection h1 with h1
      injection h1 with h1
      subst h1 h3
      have hnl : (fcs ys).length = m * 3 := by rw [fcs_len, hr.len]
      have hfit : n * i0.size + (fcs ys).length ≤ cur.size := by
        have := Nat.mul_le_mul_right 3 hroom
        rw [hnl, hcs, hz1]
        omega
      have hrun := run_append_room (P := Tryd.prog) w 24 ty 51 i0 Tryd.underlying24 hi0 g n cap cur hg ad m c (fcs ys) (by rw [hnl, hz1]) (hr.cells rfl) (fcs_one ys) hroom hfit
      rw [hz1] at hrun hfit
      have hxl : (fcs xs).length = n * 3 := hown.1
      have hz : ((cur.toList.take (n * 3) ++ fcs ys ++ cur.toList.drop (n * 3 + (fcs ys).length)).toArray).size = cap * 3 := by
        simp only [List.size_toArray, List.length_append, List.length_take, List.length_drop, Array.length_toList]
        omega
      refine ⟨_, _, hrun, ⟨by rw [fcs_append, List.length_append, hxl, hnl]; omega, .inr ⟨g, cap, _, rfl, hbg, setRow_heap w g cur _ _ _ hg, hroom, hcm, hz, ?_⟩⟩, ⟨hxl, .inr ⟨g, cap, _, rfl, hbg, setRow_heap w g cur _ _ _ hg, hnc, hcm, hz, ?_⟩⟩, ⟨rfl, rfl, rfl, by simp, fun k _ hk => setRow_other w g k _ (fun e => hk (by rw [e]))⟩⟩
      · rw [htake, fcs_append]
        have : (n + m) * 3 = (fcs xs ++ fcs ys).length := by rw [List.length_append, hxl, hnl]; omega
        rw [this]
        exact List.take_left
      · rw [htake, List.append_assoc]
        rw [← hxl]
        exact List.take_left
  · obtain ⟨v', w', hrun, h2, hg⟩ := run_append_arg_grows (P := Tryd.prog) w 24 ty _ i0 _ 3 40 Tryd.underlying24 hi0 hz0 hz1 hz2 rfl (by omega) ⟨g, 0, none⟩ n cap (fcs xs) (by rw [fcs_len, hfl.len]) (hfl.cells rfl) ad m c (fcs ys) (by rw [fcs_len, hr.len]) (hr.cells rfl) (by omega) (by unfold maxLen; omega) (by omega)
    refine ⟨v', w', hrun, by rw [fcs_append]; exact own_baseF h2 hbase, hown.kept hg (.inr (by simp [Value.ownBlock])), ⟨hg.os, hg.tape, hg.output, hg.size, fun k hk _ => hg.block k hk (by simp)⟩⟩

theorem wpList_append_flkeep (w : World) {ops : Array Oper} {rest : List Oper} {o : Oper} {a : Act} {Q : Exit → Act → World → Prop} (hgd : o.guard = none) (s x : Operand)
    (ho : o.op = .call { callee := .builtin .append, args := #[s, x], argTypes := #[24, 24] })
    (base g n cap : Nat) (xs : List Fd) (hs : a.eval s = .slice (some ⟨g, 0, none⟩) n cap) (hown : w.ownsRow base 51 3 (.slice (some ⟨g, 0, none⟩) n cap) n (fcs xs))
    (ad : Addr) (m c : Nat) (ys : List Fd) (hx : a.eval x = .slice (some ad) m c) (hr : FL w (some ad) m c ys) (h63 : n + m ≤ 1000000) (hbase : base ≤ w.heap.size)
    (h : ∀ v' w', w'.ownsRow base 51 3 v' (n + m) (fcs (xs ++ ys)) → w'.ownsRow base 51 3 (.slice (some ⟨g, 0, none⟩) n cap) n (fcs xs) → w.grownBy w' (some g) → wpList Tryd.prog ops Q rest (a.put o.dst v') w') : wpList Tryd.prog ops Q (o :: rest) a w := by
  obtain ⟨v', w', hrun, h1, h2, h3⟩ := run_append_flkeep w o.type base g n cap xs hown ad m c ys hr h63 hbase
  have h := h v' w' h1 h2 h3
  refine wpList_plain hgd fun _ hK => ?_
  unfold Oper.wp execOp
  simp only [ho, resolve, invoke, builtin, Sem.run_bind, Sem.run_pure, Result.andThen_ok, List.map_toArray, List.map_cons, List.map_nil, hs, hx, hrun]
  exact hK _ _ h
end Go.Proofs.YtdnopjopdklelaaDoor
