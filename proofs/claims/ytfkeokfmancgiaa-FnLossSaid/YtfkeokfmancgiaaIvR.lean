/- Rows of numbers in memory: what they hold, and a number put behind one; no condition but those named. -/
import Derived.Test.YtfkeokfmancgiaaTxt
namespace Go.Proofs.Ytfkeokfmancgiaa
open Go.RowKit
/-- The cells of numbers. -/
def icells (l : List Int) : List Value := l.map (Value.int .i64)
theorem icells_len (l : List Int) : (icells l).length = l.length := by simp [icells]
theorem icells_append (l r : List Int) : icells (l ++ r) = icells l ++ icells r := by simp [icells]
theorem icells_get (l : List Int) (i : Nat) (t : Int) (h : l[i]? = some t) : (icells l)[i]? = some (.int .i64 t) := by simp [icells, h]
theorem iinfo : ∃ i, Try.prog.info? 2 = some i ∧ i.zero = some (.int .i64 0) ∧ i.size = 1 ∧ i.bytes = 8 := by
  have h : (Try.prog.info? 2).map (fun i => (i.zero, i.size, i.bytes)) = some (some (.int .i64 0), 1, 8) := by kernel_rfl
  obtain ⟨i, hi, hzz⟩ := Option.map_eq_some_iff.1 h
  simp only [Prod.mk.injEq] at hzz
  exact ⟨i, hi, hzz.1, hzz.2.1, hzz.2.2⟩
/-- A row of numbers, of whatever kind: it holds these. -/
def HoldsI (w : World) (v : Value) (L : List Int) : Prop :=
  (∃ ad cp, v = .slice ad 0 cp ∧ L = []) ∨ ∃ g cp cur, v = .slice (some ⟨g, 0, none⟩) L.length cp ∧ w.heap[g]? = some (.cells cur 2) ∧ L.length ≤ cur.size ∧ ∀ j, j < L.length → cur[j]? = (icells L)[j]?
theorem HoldsI.own {w : World} {base : Nat} {v : Value} {L : List Int} (h : w.ownsRow base 2 1 v L.length (icells L)) : HoldsI w v L := by
  rcases h.2 with ⟨h1, h2⟩ | ⟨g, cap, cur, h1, _, h3, h4, _, h6, h7⟩
  · exact Or.inl ⟨_, _, h1, List.eq_nil_of_length_eq_zero h2⟩
  · refine Or.inr ⟨g, cap, cur, h1, h3, by rw [h6]; omega, fun j hj => ?_⟩
    rw [← h7, List.getElem?_take, if_pos (by omega), Array.getElem?_toList]
theorem HoldsI.below {n : Nat} {w w' : World} {v : Value} {L : List Int} (h : HoldsI w v L) (hb : Below n w w') (hn : n = w.heap.size) : HoldsI w' v L := by
  subst hn
  exact h.imp id fun ⟨g, cp, cur, h1, h2, h3⟩ => ⟨g, cp, cur, h1, (hb.block g (Array.getElem?_eq_some_iff.1 h2).1).trans h2, h3⟩
theorem HoldsI.form {w : World} {v : Value} {L : List Int} (h : HoldsI w v L) : ∃ ad cp, v = .slice ad L.length cp := by
  rcases h with ⟨ad, cp, h1, h2⟩ | ⟨g, cp, cur, h1, _⟩
  · exact ⟨ad, cp, by rw [h1, h2]; rfl⟩
  · exact ⟨_, _, h1⟩
theorem append_int {wr : World} {ops : Array Oper} {rest : List Oper} {o : Oper} {a : Act} {Q : Exit → Act → World → Prop} (hgd : o.guard = none) (s x : Operand)
    (ho : o.op = .call { callee := .builtin .append, args := #[s, x], argTypes := #[27, 27] })
    (base : Nat) (v : Value) (L : List Int) (n : Nat) (hn : L.length = n) (hs : a.eval s = v) (hown : wr.ownsRow base 2 1 v n (icells L)) (t : Int) (hx : a.eval x = .slice (some ⟨wr.heap.size, 0, none⟩) 1 1) (hlen : n ≤ 1000000) (hbase : base ≤ wr.heap.size)
    (h : ∀ v' w', w'.ownsRow base 2 1 v' (n + 1) (icells (L ++ [t])) → (wr.alloc (.cells #[.int .i64 t] 2)).grownBy w' v.ownBlock → wpList Try.prog ops Q rest (a.put o.dst v') w') : wpList Try.prog ops Q (o :: rest) a (wr.alloc (.cells #[.int .i64 t] 2)) := by
  obtain ⟨i0, hi0, hz0, hz1, hz2⟩ := iinfo
  refine wpList_append_own _ hgd s x 27 ho base 2 i0 _ 1 8 Try.underlying27 hi0 hz0 hz1 hz2 rfl (by decide) v n (icells L) hs (hown.alloc _) ⟨wr.heap.size, 0, none⟩ 1 1 [.int .i64 t] hx rfl ?_ ?_ ?_ ?_ ?_ ?_
  · intro i u hu
    rw [Addr.add_lit, Nat.zero_add, World.cell?_alloc_at _ _ _ _ rfl, ← hu]
    simp
  · intro u hu
    simp only [List.mem_cons, List.not_mem_nil, or_false] at hu
    rw [hu]
    rfl
  · unfold maxLen; omega
  · omega
  · simp; omega
  · intro v' w2 hown2 hg2 _
    refine h v' w2 ?_ hg2
    rw [icells_append]
    exact hown2
end Go.Proofs.Ytfkeokfmancgiaa
