/- A row of bytes of the call's own, as a text's conversion may have made it too: appending one byte, turning it into a text; no condition. -/
import Derived.Test.YtillpfcldehfdaaDoorTxt
import Derived.ArgAppend
namespace Go.Proofs.YtillpfcldehfdaaDoor
open Go.RowKit
/-- This value is a row of these bytes, in a block of its own at or behind base. -/
def RowB (w : World) (base : Nat) (v : Value) (l : List UInt8) : Prop :=
  (v = .slice none 0 0 ∧ l = []) ∨ ∃ g cap cur fz, v = .slice (some ⟨g, 0, none⟩) l.length cap ∧ base ≤ g ∧ w.heap[g]? = some (.cells cur 5 fz) ∧ l.length ≤ cap ∧ cap ≤ maxLen ∧ cap ≤ cur.size ∧ cur.toList.take l.length = vals l ∧ ∀ i, i < cap → ¬ (fz.1 ≤ i ∧ i < fz.2)
/-- All but rows of bytes at or behind base stands. -/
structure Kb (base : Nat) (w w' : World) : Prop where
  below : Below base w w'
  block : ∀ g, g < w.heap.size → (∀ cur fz, w.heap[g]? ≠ some (.cells cur 5 fz)) → w'.heap[g]? = w.heap[g]?
theorem RowB.nil (w : World) (base : Nat) : RowB w base (.slice none 0 0) [] := Or.inl ⟨rfl, rfl⟩
theorem RowB.own {w : World} {base : Nat} {v : Value} {l : List UInt8} (h : w.ownsRow base 5 1 v l.length (vals l)) : RowB w base v l := by
  rcases h.2 with ⟨h1, h2⟩ | ⟨g, cap, cur, h1, h2, h3, h4, h5, h6, h7⟩
  · exact Or.inl ⟨h1, List.eq_nil_of_length_eq_zero h2⟩
  · exact Or.inr ⟨g, cap, cur, (0, 0), h1, h2, h3, h4, h5, by omega, by rw [Nat.mul_one] at h7; exact h7, fun i _ h => by simp at h⟩
theorem RowB.keep {w w' : World} {base : Nat} {v : Value} {l : List UInt8} (h : RowB w base v l) (hk : ∀ g cur fz, base ≤ g → w.heap[g]? = some (.cells cur 5 fz) → w'.heap[g]? = w.heap[g]?) : RowB w' base v l := by
  rcases h with h | ⟨g, cap, cur, fz, h1, h2, h3, h4⟩
  · exact Or.inl h
  · exact Or.inr ⟨g, cap, cur, fz, h1, h2, (hk g cur fz h2 h3).trans h3, h4⟩
theorem RowB.form {w : World} {base : Nat} {v : Value} {l : List UInt8} (h : RowB w base v l) : ∃ ad cp, v = .slice ad l.length cp := by
  rcases h with ⟨rfl, rfl⟩ | ⟨g, cap, cur, fz, h1, _⟩
  · exact ⟨_, _, rfl⟩
  · exact ⟨_, _, h1⟩
theorem vals_get (l : List UInt8) (i : Nat) : (vals l)[i]? = l[i]?.map fun (c : UInt8) => Value.int .u8 (c.toNat : Int) := by simp [vals, nums, Function.comp_def]
theorem row_cell {w : World} {g : Nat} {cur : Array Value} {fz : Nat × Nat} {l : List UInt8} (h3 : w.heap[g]? = some (.cells cur 5 fz)) (h7 : cur.toList.take l.length = vals l) (i : Nat) (hi : i < l.length) : w.cell? ⟨g, i, none⟩ = (vals l)[i]? := by
  rw [cell_of_row _ _ _ _ _ _ h3, ← h7, List.getElem?_take, if_pos hi, Array.getElem?_toList]
theorem RowB.conv {w : World} {base : Nat} {v : Value} {l : List UInt8} (h : RowB w base v l) : (convert 22 9 v).run Tryd.prog w = .ok (.string (txt l)) w := by
  rcases h with ⟨rfl, rfl⟩ | ⟨g, cap, cur, fz, rfl, _, h3, _, _, _, h7, _⟩
  · exact own_conv (World.ownsRow_nil w 0 5 1)
  · refine run_convert_bytes_back (P := Tryd.prog) w 22 9 5 ⟨g, 0, none⟩ cap l Tryd.underlying22 Tryd.underlying5 Tryd.underlying9 (fun j hj => ?_)
    rw [Addr.add_lit, Nat.zero_add, row_cell h3 h7 j hj, vals_get, List.getElem?_eq_getElem hj]
    rfl
/-- A text as bytes of its own. -/
theorem rowB_of (t : ByteArray) (W : World) (ht : t.size ≤ 100000) : ∃ v W', (convert 9 22 (.string t)).run Tryd.prog W = .ok v W' ∧ RowB W' W.heap.size v t.data.toList ∧ Below W.heap.size W W' := by
  have h := run_bytes_of_string (P := Tryd.prog) W 9 22 5 t Tryd.underlying9 Tryd.underlying22 Tryd.underlying5
  have hg := grownCap_ge W t.size 0 5
  have hm := grownCap_le_maxLen W t.size 0 5 (by unfold maxLen; omega)
  have hl : t.data.toList.length = t.size := by rw [Array.length_toList]; rfl
  refine ⟨_, _, h, Or.inr ⟨W.heap.size, grownCap W t.size 0 5, _, _, by rw [hl], Nat.le_refl _, heap_alloc_new W.drew _, by rw [hl]; exact hg, hm, ?_, ?_, ?_⟩, (Below.refl _ _).drew.alloc (Nat.le_refl _) _⟩
  · simp [bytesRow]; omega
  · rw [hl]
    simp only [bytesRow, Array.toList_append, Array.toList_map]
    rw [List.take_left' (by simp)]
    simp [vals, nums, Function.comp_def]
  · intro i hi h2
    simp [bytesRow] at h2
    omega
theorem take_set {α : Type} (L : List α) (n : Nat) (x : α) (h : n < L.length) : (L.set n x).take (n + 1) = L.take n ++ [x] := by
  rw [List.take_succ_eq_append_getElem (by rw [List.length_set]; exact h), List.getElem_set_self, List.take_set_of_le (Nat.le_refl _)]
theorem append_b {wr : World} {ops : Array Oper} {rest : List Oper} {o : Oper} {a : Act} {Q : Exit → Act → World → Prop} (hgd : o.guard = none) (s x : Operand)
    (ho : o.op = .call { callee := .builtin .append, args := #[s, x], argTypes := #[22, 22] })
    (base : Nat) (v : Value) (l : List UInt8) (c : UInt8) (hs : a.eval s = v) (hown : RowB wr base v l)
    (X : Int) (hX : X = (c.toNat : Int)) (hx : a.eval x = .slice (some ⟨wr.heap.size, 0, none⟩) 1 1) (hlen : l.length ≤ 1000000) (hbase : base ≤ wr.heap.size)
    (h : ∀ v' w', RowB w' base v' (l ++ [c]) → Kb base wr w' → wpList Tryd.prog ops Q rest (a.put o.dst v') w') : wpList Tryd.prog ops Q (o :: rest) a (wr.alloc (.cells #[.int .u8 X] 5)) := by
  obtain ⟨ui, hi1, hi2, hi3, hi4⟩ := u8info
  subst hX
  have hb0 : Below base wr (wr.alloc (.cells #[.int .u8 c.toNat] 5)) := (Below.refl _ _).alloc hbase _
  have hold : ∀ g, g < wr.heap.size → (wr.alloc (.cells #[.int .u8 c.toNat] 5)).heap[g]? = wr.heap[g]? := fun g hg => Below.heap_alloc _ _ _ hg
  have hnew : ∀ j u, (vals [c])[j]? = some u → (wr.alloc (.cells #[.int .u8 c.toNat] 5)).cell? ((⟨wr.heap.size, 0, none⟩ : Addr).add j) = some u := by
    intro j u hu
    rw [Addr.add_lit, Nat.zero_add, cell_of_row _ _ _ _ _ _ (heap_alloc_new wr _), ← hu, vals_one, ← Array.getElem?_toList]
  have hone : ∀ u ∈ vals [c], u.oneCell' = true := by
    intro u hu
    rw [vals_one, List.mem_singleton] at hu
    subst hu
    rfl
  have fin : ∀ v' w', w'.ownsRow (wr.alloc (.cells #[.int .u8 c.toNat] 5)).heap.size 5 1 v' (l.length + 1) (vals l ++ vals [c]) → (wr.alloc (.cells #[.int .u8 c.toNat] 5)).grownBy w' none → wpList Tryd.prog ops Q rest (a.put o.dst v') w' := by
    intro v' w' h1 h2
    refine h v' w' (RowB.own ?_) ⟨hb0.grown h2 (by simp; omega) (fun q hq => by cases hq), fun g hg _ => (h2.block g (by simp; omega) (by simp)).trans (hold g hg)⟩
    rw [vals_append, List.length_append]
    exact ⟨h1.1, h1.2.imp id fun ⟨g, cap, cur, p1, p2, p3⟩ => ⟨g, cap, cur, p1, by simp at p2; omega, p3⟩⟩
  rcases hown with ⟨rfl, rfl⟩ | ⟨g, cap, cur, fz, rfl, q2, q3, q4, q5, q6, q7, q8⟩
  · exact wpList_append_grows _ hgd s x 22 ho 5 ui (.int .u8 0) 1 1 Tryd.underlying22 hi1 hi2 hi3 hi4 rfl (by decide) none 0 0 (vals []) hs (fun _ => ⟨rfl, rfl⟩) rfl (fun b hb => by cases hb) ⟨wr.heap.size, 0, none⟩ 1 1 (vals [c]) hx rfl hnew hone (by decide) (by decide) (by decide) fin
  · have hgl : g < wr.heap.size := (Array.getElem?_eq_some_iff.1 q3).1
    have q3' : (wr.alloc (.cells #[.int .u8 c.toNat] 5)).heap[g]? = some (.cells cur 5 fz) := (hold g hgl).trans q3
    refine wpList_append_arg _ hgd s x 22 ho 5 ui (.int .u8 0) 1 1 Tryd.underlying22 hi1 hi2 hi3 hi4 rfl (by decide) g 0 l.length cap (vals l) hs (by rw [vals_len, Nat.mul_one]) ?_ ⟨wr.heap.size, 0, none⟩ 1 1 (vals [c]) hx rfl hnew hone ?_ (by unfold maxLen; omega) (by omega) ?_ (fun _ => fin)
    · intro j u hu
      have hj : j < l.length := by have := (List.getElem?_eq_some_iff.1 hu).1; rwa [vals_len] at this
      rw [Nat.zero_add, row_cell q3' q7 j hj, hu]
    · intro hroom j hj
      have hj0 : j = 0 := by rw [vals_one] at hj; simpa using hj
      subst hj0
      refine ⟨?_, ?_⟩
      · rw [cell_of_row _ _ _ _ _ _ q3', Array.getElem?_eq_getElem (by omega)]
        rfl
      · unfold World.frozen?
        rw [q3']
        have := q8 l.length (by omega)
        simp
        omega
    · intro hroom
      have e : (wr.alloc (.cells #[.int .u8 c.toNat] 5)).setCells g (0 + l.length * 1) (vals [c]) = (wr.alloc (.cells #[.int .u8 c.toNat] 5)).setCell ⟨g, l.length, none⟩ (.int .u8 c.toNat) := by
        rw [Nat.zero_add, Nat.mul_one]
        rfl
      rw [e]
      refine h _ _ (Or.inr ⟨g, cap, cur.setIfInBounds l.length (.int .u8 c.toNat), fz, by rw [List.length_append]; rfl, q2, ?_, by rw [List.length_append]; exact hroom, q5, by simpa using q6, ?_, q8⟩) ⟨hb0.setCell (p := ⟨g, l.length, none⟩) q2 _, ?_⟩
      · rw [setCell_eq_setRow _ g l.length cur 5 fz _ q3']
        exact setRow_heap _ g cur _ 5 _ q3'
      · rw [vals_append, List.length_append, ← q7]
        rw [show ([c] : List UInt8).length = 1 from rfl, Array.toList_setIfInBounds, take_set _ _ _ (show l.length < cur.toList.length by have hcl : cur.toList.length = cur.size := Array.length_toList; omega), vals_one]
      · intro k hk hne
        have hkg : k ≠ g := fun e => by subst e; exact hne _ _ q3
        exact (Below.heap_setCell _ _ _ _ hkg).trans (hold k hk)
end Go.Proofs.YtillpfcldehfdaaDoor
