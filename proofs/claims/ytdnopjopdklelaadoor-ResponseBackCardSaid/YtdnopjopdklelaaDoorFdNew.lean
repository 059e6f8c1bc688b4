/-
  New rows of fields: one that was just built; append of one field onto a row of the call's own.
-/
import Derived.Test.YtdnopjopdklelaaDoorFdMem
import Derived.ArgAppend
namespace Go.Proofs.YtdnopjopdklelaaDoor
set_option linter.unusedSimpArgs false
set_option linter.unusedVariables false
open Go.RowKit

theorem fd_built (a b : ByteArray) : Tryd.prog.built 51 [(0, .string a), (1, .string b)] = some #[.string a, .string b, .bool false] := by kernel_rfl
/-- A block that is just a list of fields. -/
theorem own_newF {w : World} {g : Nat} (B : Nat) (l : List Fd) (n : Nat) (hn : l.length = n) (h1 : n ≤ 1000) (hk : BlkIs w g 51 (fcs l).toArray) (hB : B ≤ g) : w.ownsRow B 51 3 (.slice (some ⟨g, 0, none⟩) n n) n (fcs l) := by
  refine ⟨by rw [fcs_len, hn], .inr ⟨g, n, _, rfl, hB, hk, by omega, by unfold maxLen; omega, by simp [fcs_len, hn], ?_⟩⟩
  rw [List.take_of_length_le (by simp [fcs_len, hn])]
theorem fl_blk {w : World} {g : Nat} {l : List Fd} {n : Nat} (hn : l.length = n) (h1 : n ≤ 1000) (hk : BlkIs w g 51 (fcs l).toArray) : FL w (some ⟨g, 0, none⟩) n n l :=
  FL.of_own (B := 0) (e := 51) (own_newF 0 l n hn h1 hk (by omega))
theorem fl_new1 (w : World) (a b : ByteArray) (x : Bool) : FL (w.alloc (.cells #[.string a, .string b, .bool x] 51)) (some ⟨w.heap.size, 0, none⟩) 1 1 [⟨a, b, x⟩] := fl_blk rfl (by omega) (BlkIs.new w _ _)
/-- What a call answers that makes a row of fields. -/
def GivesFl (w : World) (l : List Fd) (e : Ending) (w' : World) : Prop := ∃ v, e = .returned v ∧ w'.ownsRow w.heap.size 51 3 v l.length (fcs l) ∧ Below w.heap.size w w'
theorem own_lowF {w w' : World} {B n s : Nat} {e : TypeId} {v : Value} {xs : List Value} (h : w.ownsRow B e s v n xs) (hb : Below w.heap.size w w') : w'.ownsRow B e s v n xs :=
  h.kept (row := none) ⟨hb.os, hb.tape, hb.output, hb.size, fun i hi _ => hb.block i hi⟩ (by cases v.ownBlock <;> simp)
theorem own_neF {w : World} {B n g : Nat} {e : TypeId} {size : Nat} {v : Value} {xs : List Value} (h : w.ownsRow B e size v n xs) (hg : g < B) : some g ≠ v.ownBlock := fun he => by
  have := (h.lt g he.symm).1
  omega
theorem own_baseF {w : World} {B B' : Nat} {e : TypeId} {size n : Nat} {v : Value} {xs : List Value} (h : w.ownsRow B e size v n xs) (hB : B' ≤ B) : w.ownsRow B' e size v n xs := by
  refine ⟨h.1, ?_⟩
  rcases h.2 with h' | ⟨g, cap, cur, a, b, c⟩
  · exact .inl h'
  · exact .inr ⟨g, cap, cur, a, Nat.le_trans hB b, c⟩
/-- append where there is no room: a new row. -/
theorem wpList_append_flgrows (w : World) {ops : Array Oper} {rest : List Oper} {o : Oper} {a : Act} {Q : Exit → Act → World → Prop} (hgd : o.guard = none) (s x : Operand)
    (ho : o.op = .call { callee := .builtin .append, args := #[s, x], argTypes := #[24, 24] })
    (b : Addr) (n cap : Nat) (xs : List Fd) (hs : a.eval s = .slice (some b) n cap) (hr : FL w (some b) n cap xs)
    (ad : Addr) (m c : Nat) (ys : List Fd) (hx : a.eval x = .slice (some ad) m c) (hr2 : FL w (some ad) m c ys)
    (hroom : cap < n + m) (h63 : n + m ≤ 1000000)
    (h : ∀ v' w', w'.ownsRow w.heap.size 51 3 v' (n + m) (fcs (xs ++ ys)) → Below w.heap.size w w' → wpList Tryd.prog ops Q rest (a.put o.dst v') w') : wpList Tryd.prog ops Q (o :: rest) a w := by
  obtain ⟨i0, hi0, hz0, hz1, hz2⟩ := info_parts fd_info
  obtain ⟨v', w', hrun, hown, hg⟩ := run_append_arg_grows (P := Tryd.prog) w 24 o.type _ i0 _ 3 40 Tryd.underlying24 hi0 hz0 hz1 hz2 rfl (by omega) b n cap (fcs xs) (by rw [fcs_len, hr.len]) (hr.cells rfl) ad m c (fcs ys) (by rw [fcs_len, hr2.len]) (hr2.cells rfl) hroom (by unfold maxLen; omega) (by omega)
  have h := h v' w' (by rw [fcs_append]; exact hown) ((Below.refl _ _).grown hg (Nat.le_refl _) (fun k hk => by cases hk))
  refine wpList_plain hgd fun _ hK => ?_
  unfold Oper.wp execOp
  simp only [ho, resolve, invoke, builtin, Sem.run_bind, Sem.run_pure, Result.andThen_ok, List.map_toArray, List.map_cons, List.map_nil, hs, hx, hrun]
  exact hK _ _ h
end Go.Proofs.YtdnopjopdklelaaDoor
