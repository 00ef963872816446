/- Rows of parts in memory, and one put behind others; no condition but those named. -/
import Derived.Test.YtfkeokfmancgiaaOwnB
import Derived.Test.YtfkeokfmancgiaaTxt
import Derived.Test.YtfkeokfmancgiaaFgA
namespace Go.Proofs.Ytfkeokfmancgiaa
open Go.RowKit
/-- The cells of parts. -/
def fgcells (fs : List Fg) : List Value := fs.flatMap fun f => [.int .i64 f.seq, .bool f.beg, .bool f.fin, .string f.text]
theorem fgcells_len (fs : List Fg) : (fgcells fs).length = fs.length * 4 := by
  induction fs with
  | nil => rfl
  | cons f fs ih => simp [fgcells] at ih ⊢; omega
theorem fgcells_append (fs gs : List Fg) : fgcells (fs ++ gs) = fgcells fs ++ fgcells gs := by simp [fgcells]
theorem fgcells_get (fs : List Fg) (i : Nat) (f : Fg) (h : fs[i]? = some f) : (fgcells fs)[i * 4]? = some (.int .i64 f.seq) ∧ (fgcells fs)[i * 4 + 1]? = some (.bool f.beg) ∧ (fgcells fs)[i * 4 + 2]? = some (.bool f.fin) ∧ (fgcells fs)[i * 4 + 3]? = some (.string f.text) := by
  induction fs generalizing i with
  | nil => simp at h
  | cons d fs ih =>
    cases i with
    | zero =>
      simp at h
      subst h
      exact ⟨rfl, rfl, rfl, rfl⟩
    | succ i =>
      have := ih i (by simpa using h)
      have e : fgcells (d :: fs) = .int .i64 d.seq :: .bool d.beg :: .bool d.fin :: .string d.text :: fgcells fs := rfl
      rw [e, show (i + 1) * 4 = i * 4 + 4 by omega]
      exact this
theorem fginfo : ∃ i, Try.prog.info? 33 = some i ∧ i.zero = some (.agg #[.int .i64 0, .bool false, .bool false, .string ⟨#[]⟩]) ∧ i.size = 4 ∧ i.bytes = 32 := by
  have h : (Try.prog.info? 33).map (fun i => (i.zero, i.size, i.bytes)) = some (some (.agg #[.int .i64 0, .bool false, .bool false, .string ⟨#[]⟩]), 4, 32) := by kernel_rfl
  obtain ⟨i, hi, hzz⟩ := Option.map_eq_some_iff.1 h
  simp only [Prod.mk.injEq] at hzz
  exact ⟨i, hi, hzz.1, hzz.2.1, hzz.2.2⟩
/-- A row of parts, of whatever kind: it holds these. -/
def HoldsG (w : World) (v : Value) (F : List Fg) : Prop :=
  (∃ ad cp, v = .slice ad 0 cp ∧ F = []) ∨ ∃ g cp cur, v = .slice (some ⟨g, 0, none⟩) F.length cp ∧ w.heap[g]? = some (.cells cur 33) ∧ F.length * 4 ≤ cur.size ∧ ∀ j, j < F.length * 4 → cur[j]? = (fgcells F)[j]?
theorem HoldsG.own {w : World} {base : Nat} {v : Value} {F : List Fg} (h : w.ownsRow base 33 4 v F.length (fgcells F)) : HoldsG w v F := by
  rcases h.2 with ⟨h1, h2⟩ | ⟨g, cap, cur, h1, _, h3, h4, _, h6, h7⟩
  · exact Or.inl ⟨_, _, h1, List.eq_nil_of_length_eq_zero h2⟩
  · refine Or.inr ⟨g, cap, cur, h1, h3, by rw [h6]; omega, fun j hj => ?_⟩
    rw [← h7, List.getElem?_take, if_pos hj, Array.getElem?_toList]
theorem HoldsG.below {n : Nat} {w w' : World} {v : Value} {F : List Fg} (h : HoldsG w v F) (hb : Below n w w') (hn : n = w.heap.size) : HoldsG w' v F := by
  subst hn
  exact h.imp id fun ⟨g, cp, cur, h1, h2, h3⟩ => ⟨g, cp, cur, h1, (hb.block g (Array.getElem?_eq_some_iff.1 h2).1).trans h2, h3⟩
theorem HoldsG.form {w : World} {v : Value} {F : List Fg} (h : HoldsG w v F) : ∃ ad cp, v = .slice ad F.length cp := by
  rcases h with ⟨ad, cp, h1, h2⟩ | ⟨g, cp, cur, h1, _⟩
  · exact ⟨ad, cp, by rw [h1, h2]; rfl⟩
  · exact ⟨_, _, h1⟩
theorem holdsG_nil (w : World) (ad : Option Addr) (cp : Nat) : HoldsG w (.slice ad 0 cp) [] := Or.inl ⟨ad, cp, rfl, rfl⟩
theorem append_fg {wr : World} {ops : Array Oper} {rest : List Oper} {o : Oper} {a : Act} {Q : Exit → Act → World → Prop} (hgd : o.guard = none) (s x : Operand)
    (ho : o.op = .call { callee := .builtin .append, args := #[s, x], argTypes := #[25, 25] })
    (base : Nat) (v : Value) (F : List Fg) (n : Nat) (hn : F.length = n) (hs : a.eval s = v) (hown : wr.ownsRow base 33 4 v n (fgcells F)) (kd : Int) (ns nr : Bool) (tx : ByteArray) (hx : a.eval x = .slice (some ⟨wr.heap.size, 0, none⟩) 1 1) (hlen : n ≤ 100000) (hbase : base ≤ wr.heap.size)
    (h : ∀ v' w', w'.ownsRow base 33 4 v' (n + 1) (fgcells (F ++ [⟨kd, ns, nr, tx⟩])) → (wr.alloc (.cells #[.int .i64 kd, .bool ns, .bool nr, .string tx] 33)).grownBy w' v.ownBlock → wpList Try.prog ops Q rest (a.put o.dst v') w') : wpList Try.prog ops Q (o :: rest) a (wr.alloc (.cells #[.int .i64 kd, .bool ns, .bool nr, .string tx] 33)) := by
  obtain ⟨i0, hi0, hz0, hz1, hz2⟩ := fginfo
  refine wpList_append_own _ hgd s x 25 ho base 33 i0 _ 4 32 Try.underlying25 hi0 hz0 hz1 hz2 rfl (by decide) v n (fgcells F) hs (hown.alloc _) ⟨wr.heap.size, 0, none⟩ 1 1 [.int .i64 kd, .bool ns, .bool nr, .string tx] hx rfl ?_ ?_ ?_ ?_ ?_ ?_
  · intro i u hu
    rw [Addr.add_lit, Nat.zero_add, World.cell?_alloc_at _ _ _ _ rfl, ← hu]
    simp
  · intro u hu
    simp only [List.mem_cons, List.not_mem_nil, or_false] at hu
    rcases hu with rfl | rfl | rfl | rfl <;> rfl
  · unfold maxLen; omega
  · omega
  · simp; omega
  · intro v' w2 hown2 hg2 _
    refine h v' w2 ?_ hg2
    rw [fgcells_append]
    exact hown2
theorem set_fourx (cur' : Array Value) (L : List Value) (i : Nat) (A B C D : Value) (hi : i * 4 + 3 < cur'.size) (h1 : L[i * 4]? = some A) (h2 : L[i * 4 + 1]? = some B) (h3 : L[i * 4 + 2]? = some C) (h4 : L[i * 4 + 3]? = some D) (ha : ∀ j, j < i * 4 → cur'[j]? = L[j]?) :
    ∀ j, j < (i + 1) * 4 → ((((cur'.setIfInBounds (i * 4) A).setIfInBounds (i * 4 + 1) B).setIfInBounds (i * 4 + 2) C).setIfInBounds (i * 4 + 3) D)[j]? = L[j]? := by
  intro j hj
  rw [Array.getElem?_setIfInBounds]
  by_cases e0 : i * 4 + 3 = j
  · rw [if_pos e0, if_pos (by simpa using hi), ← e0, h4]
  · rw [if_neg e0, Array.getElem?_setIfInBounds]
    by_cases e1 : i * 4 + 2 = j
    · rw [if_pos e1, if_pos (by simp; omega), ← e1, h3]
    · rw [if_neg e1, Array.getElem?_setIfInBounds]
      by_cases e2 : i * 4 + 1 = j
      · rw [if_pos e2, if_pos (by simp; omega), ← e2, h2]
      · rw [if_neg e2, Array.getElem?_setIfInBounds]
        by_cases e3 : i * 4 = j
        · rw [if_pos e3, if_pos (by omega), ← e3, h1]
        · rw [if_neg e3]
          exact ha j (by omega)
end Go.Proofs.Ytfkeokfmancgiaa
