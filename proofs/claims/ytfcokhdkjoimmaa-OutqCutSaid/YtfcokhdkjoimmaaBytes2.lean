/-
  More words for bytes: lists of bytes, rows and blocks known whole, append that grows.
-/
import Derived.Test.YtfcokhdkjoimmaaBytes
import Derived.ArgAppend
namespace Go.Proofs.Ytfcokhdkjoimmaa
set_option linter.unusedSimpArgs false
set_option linter.unusedVariables false
open Go.RowKit

def AllB (l : List Int) : Prop := ∀ x ∈ l, 0 ≤ x ∧ x ≤ 255
theorem AllB.drop {l : List Int} (h : AllB l) (k : Nat) : AllB (l.drop k) := fun x hx => h x (List.mem_of_mem_drop hx)
theorem AllB.take {l : List Int} (h : AllB l) (k : Nat) : AllB (l.take k) := fun x hx => h x (List.mem_of_mem_take hx)
theorem AllB.getD {l : List Int} (h : AllB l) (k : Nat) : 0 ≤ l.getD k 0 ∧ l.getD k 0 ≤ 255 := by
  by_cases hk : k < l.length
  · exact h _ (by simp [List.getD, hk])
  · simp [List.getD, List.getElem?_eq_none (show l.length ≤ k by omega)]

theorem cell_of_u8s (w : World) (t : TypeId) (xs : List Int) (i : Nat) (hi : i < xs.length) : (w.alloc (.cells (u8s xs).toArray t)).cell? ⟨w.heap.size, i, none⟩ = some (.int .u8 (xs.getD i 0)) := by
  simp [World.cell?_alloc_at, u8s, List.getD, hi]

theorem own_blk {w : World} {h : Nat} (B : Nat) (xs : List Int) (n : Nat) (hn : xs.length = n) (h1 : n ≤ 1000) (hk : BlkIs w h 5 (u8s xs).toArray) (hB : B ≤ h) : w.ownsRow B 5 1 (.slice (some ⟨h, 0, none⟩) n n) n (u8s xs) := by
  refine ⟨by simp [u8s, hn], .inr ⟨h, n, _, rfl, hB, hk, by omega, by unfold maxLen; omega, by simp [u8s, hn], ?_⟩⟩
  simp only [u8s, Nat.mul_one]
  rw [List.take_of_length_le (by simp [hn])]
theorem own_ne {w : World} {B n g : Nat} {e : TypeId} {size : Nat} {v : Value} {xs : List Value} (h : w.ownsRow B e size v n xs) (hg : g < B) : some g ≠ v.ownBlock := fun he => by
  have := (h.lt g he.symm).1
  omega

theorem own_nil {w : World} {B n c : Nat} {e : TypeId} {A : Option Addr} {xs : List Value} (h : w.ownsRow B e 1 (.slice A n c) n xs) : A = none → n = 0 ∧ c = 0 := by
  intro hA
  subst hA
  rcases h.2 with ⟨e, _⟩ | ⟨g, cap, cur, e, _⟩
  · injection e with e1 e2 e3; exact ⟨e2, e3⟩
  · injection e with e1; cases e1
theorem RB.cut {w : World} {b off n k : Nat} {xs : List Int} (h : RB w (some ⟨b, off, none⟩) n xs) (hk : k ≤ n) : RB w (some ⟨b, off + k, none⟩) (n - k) (xs.drop k) := by
  obtain ⟨h1, h2, h3⟩ := h
  refine ⟨by rw [List.length_drop, h1], fun hp => ?_, fun i => ?_⟩
  · obtain ⟨b', off', he, hb, hc⟩ := h2 (by omega)
    obtain ⟨rfl, rfl⟩ : b = b' ∧ off = off' := by injection he with he; injection he with e1 e2; exact ⟨e1, e2⟩
    refine ⟨b, off + k, rfl, hb, fun i hi => ?_⟩
    have := hc (k + i) (by omega)
    rw [Nat.add_assoc, this]
    simp [List.getD]
  · have := h3 (k + i)
    simpa [List.getD] using this
theorem cell_at {w1 w' : World} {b off n g : Nat} {xs : List Int} (h : RB w1 (some ⟨b, off, none⟩) n xs) (hk : KB (· = g) w1 w') (hbg : ¬ b = g) (i : Nat) (hi : i < n) : w'.cell? ⟨b, off + i, none⟩ = some (.int .u8 (xs.getD i 0)) := by
  obtain ⟨b', off', he, hb, hc⟩ := h.2.1 (by omega)
  obtain ⟨rfl, rfl⟩ : b = b' ∧ off = off' := by injection he with he; injection he with e1 e2; exact ⟨e1, e2⟩
  rw [hk.cell hb hbg, hc i hi]

theorem blk_rb {w : World} {h : Nat} {xs : List Int} {n : Nat} (hk : BlkIs w h 5 (u8s xs).toArray) (hn : xs.length = n) (hb : AllB xs) : RB w (some ⟨h, 0, none⟩) n xs := by
  refine ⟨hn, fun hp => ⟨h, 0, rfl, hk.lt, fun i hi => ?_⟩, fun i => hb.getD i⟩
  rw [Nat.zero_add, hk.cell i]
  simp [u8s, List.getD, show i < xs.length by omega]
theorem blk_news {w : World} {h : Nat} {t : TypeId} {xs : List Int} (hk : BlkIs w h t (u8s xs).toArray) : ∀ j u, (u8s xs)[j]? = some u → w.cell? ((⟨h, 0, none⟩ : Addr).add j) = some u := by
  intro j u hj
  rw [Addr.add_lit, Nat.zero_add, hk.cell j]
  simpa using hj

theorem rb_all {w : World} {A : Option Addr} {n : Nat} {xs : List Int} (h : RB w A n xs) : AllB xs := fun x hx => by
  obtain ⟨i, hi, rfl⟩ := List.getElem_of_mem hx
  have := h.2.2 i
  simpa [List.getD, hi] using this

section
variable {P : Program}
/-- append where there is no room: a new row. -/
theorem wpList_append_grows (w : World) {ops : Array Oper} {rest : List Oper} {o : Oper} {a : Act} {Q : Exit → Act → World → Prop} (hgd : o.guard = none) (s x : Operand) (t : TypeId)
    (ho : o.op = .call { callee := .builtin .append, args := #[s, x], argTypes := #[t, t] })
    (e : TypeId) (i : TypeInfo) (ht : P.underlying t = some (.slice e)) (hi : P.info? e = some i) (hz : i.zero = some (.int .u8 0)) (hsize : i.size = 1) (hby : i.bytes = 1)
    (b : Addr) (n cap : Nat) (xs : List Int) (hs : a.eval s = .slice (some b) n cap) (hx1 : xs.length = n) (hcell : ∀ j u, (u8s xs)[j]? = some u → w.cell? (b.add j) = some u)
    (ad : Addr) (m c : Nat) (ys : List Int) (hx : a.eval x = .slice (some ad) m c) (hy1 : ys.length = m) (hnews : ∀ j u, (u8s ys)[j]? = some u → w.cell? (ad.add j) = some u)
    (hroom : cap < n + m) (h63 : n + m ≤ 1000000)
    (h : ∀ v' w', w'.ownsRow w.heap.size e 1 v' (xs ++ ys).length (u8s (xs ++ ys)) → Below w.heap.size w w' → wpList P ops Q rest (a.put o.dst v') w') : wpList P ops Q (o :: rest) a w := by
  obtain ⟨v', w', hr, hown, hg⟩ := run_append_arg_grows (P := P) w t o.type e i (.int .u8 0) 1 1 ht hi hz hsize hby rfl (by decide) b n cap (u8s xs) (by simp [u8s, hx1]) hcell ad m c (u8s ys) (by simp [u8s, hy1]) hnews hroom (by unfold maxLen; omega) (by omega)
  have h := h v' w' (by
    rw [List.length_append, hx1, hy1, show u8s (xs ++ ys) = u8s xs ++ u8s ys by simp [u8s]]
    exact hown) ((Below.refl _ _).grown hg (Nat.le_refl _) (fun k hk => by cases hk))
  refine wpList_plain hgd fun _ hK => ?_
  unfold Oper.wp execOp
  simp only [ho, resolve, invoke, builtin, Sem.run_bind, Sem.run_pure, Result.andThen_ok, List.map_toArray, List.map_cons, List.map_nil, hs, hx, hr]
  exact hK _ _ h
end
end Go.Proofs.Ytfcokhdkjoimmaa
