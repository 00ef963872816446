/- Rows of numbered frames in memory, and one put behind others; no condition but those named. -/
import Derived.Test.YtjgnldkncoighaaOwnB
import Derived.Test.YtjgnldkncoighaaTxt
import Derived.Test.YtjgnldkncoighaaNb
namespace Go.Proofs.Ytjgnldkncoighaa
open Go.RowKit
/-- The cells of frames. -/
def nbcells (fs : List Nb) : List Value := fs.flatMap fun f => [.int .i64 f.kind, .int .i64 f.ns, .int .i64 f.nr, .string f.text]
theorem nbcells_len (fs : List Nb) : (nbcells fs).length = fs.length * 4 := by
  induction fs with
  | nil => rfl
  | cons f fs ih => simp [nbcells] at ih ⊢; omega
theorem nbcells_append (fs gs : List Nb) : nbcells (fs ++ gs) = nbcells fs ++ nbcells gs := by simp [nbcells]
theorem nbcells_get (fs : List Nb) (i : Nat) (f : Nb) (h : fs[i]? = some f) : (nbcells fs)[i * 4]? = some (.int .i64 f.kind) ∧ (nbcells fs)[i * 4 + 1]? = some (.int .i64 f.ns) ∧ (nbcells fs)[i * 4 + 2]? = some (.int .i64 f.nr) ∧ (nbcells fs)[i * 4 + 3]? = some (.string f.text) := by
  induction fs generalizing i with
  | nil => simp at h
  | cons d fs ih =>
    cases i with
    | zero =>
      simp at h
      subst h
      exact ⟨rfl, rfl, rfl, rfl⟩
    | succ i =>
      have := ih i (by simpa using h)
      have e : nbcells (d :: fs) = .int .i64 d.kind :: .int .i64 d.ns :: .int .i64 d.nr :: .string d.text :: nbcells fs := rfl
      rw [e, show (i + 1) * 4 = i * 4 + 4 by omega]
      exact this
theorem nbinfo : ∃ i, Try.prog.info? 30 = some i ∧ i.zero = some (.agg #[.int .i64 0, .int .i64 0, .int .i64 0, .string ⟨#[]⟩]) ∧ i.size = 4 ∧ i.bytes = 40 := by
  have h : (Try.prog.info? 30).map (fun i => (i.zero, i.size, i.bytes)) = some (some (.agg #[.int .i64 0, .int .i64 0, .int .i64 0, .string ⟨#[]⟩]), 4, 40) := by kernel_rfl
  obtain ⟨i, hi, hzz⟩ := Option.map_eq_some_iff.1 h
  simp only [Prod.mk.injEq] at hzz
  exact ⟨i, hi, hzz.1, hzz.2.1, hzz.2.2⟩
/-- A row of frames, of whatever kind: it holds these. -/
def HoldsN (w : World) (v : Value) (F : List Nb) : Prop :=
  (∃ ad cp, v = .slice ad 0 cp ∧ F = []) ∨ ∃ g cp cur, v = .slice (some ⟨g, 0, none⟩) F.length cp ∧ w.heap[g]? = some (.cells cur 30) ∧ F.length * 4 ≤ cur.size ∧ ∀ j, j < F.length * 4 → cur[j]? = (nbcells F)[j]?
theorem HoldsN.own {w : World} {base : Nat} {v : Value} {F : List Nb} (h : w.ownsRow base 30 4 v F.length (nbcells F)) : HoldsN w v F := by
  rcases h.2 with ⟨h1, h2⟩ | ⟨g, cap, cur, h1, _, h3, h4, _, h6, h7⟩
  · exact Or.inl ⟨_, _, h1, List.eq_nil_of_length_eq_zero h2⟩
  · refine Or.inr ⟨g, cap, cur, h1, h3, by rw [h6]; omega, fun j hj => ?_⟩
    rw [← h7, List.getElem?_take, if_pos hj, Array.getElem?_toList]
theorem HoldsN.below {n : Nat} {w w' : World} {v : Value} {F : List Nb} (h : HoldsN w v F) (hb : Below n w w') (hn : n = w.heap.size) : HoldsN w' v F := by
  subst hn
  exact h.imp id fun ⟨g, cp, cur, h1, h2, h3⟩ => ⟨g, cp, cur, h1, (hb.block g (Array.getElem?_eq_some_iff.1 h2).1).trans h2, h3⟩
theorem HoldsN.form {w : World} {v : Value} {F : List Nb} (h : HoldsN w v F) : ∃ ad cp, v = .slice ad F.length cp := by
  rcases h with ⟨ad, cp, h1, h2⟩ | ⟨g, cp, cur, h1, _⟩
  · exact ⟨ad, cp, by rw [h1, h2]; rfl⟩
  · exact ⟨_, _, h1⟩
theorem holdsN_nil (w : World) (ad : Option Addr) (cp : Nat) : HoldsN w (.slice ad 0 cp) [] := Or.inl ⟨ad, cp, rfl, rfl⟩
theorem append_nb {wr : World} {ops : Array Oper} {rest : List Oper} {o : Oper} {a : Act} {Q : Exit → Act → World → Prop} (hgd : o.guard = none) (s x : Operand)
    (ho : o.op = .call { callee := .builtin .append, args := #[s, x], argTypes := #[33, 33] })
    (base : Nat) (v : Value) (F : List Nb) (n : Nat) (hn : F.length = n) (hs : a.eval s = v) (hown : wr.ownsRow base 30 4 v n (nbcells F)) (kd ns nr : Int) (tx : ByteArray) (hx : a.eval x = .slice (some ⟨wr.heap.size, 0, none⟩) 1 1) (hlen : n ≤ 1000) (hbase : base ≤ wr.heap.size)
    (h : ∀ v' w', w'.ownsRow base 30 4 v' (n + 1) (nbcells (F ++ [⟨kd, ns, nr, tx⟩])) → (wr.alloc (.cells #[.int .i64 kd, .int .i64 ns, .int .i64 nr, .string tx] 30)).grownBy w' v.ownBlock → wpList Try.prog ops Q rest (a.put o.dst v') w') : wpList Try.prog ops Q (o :: rest) a (wr.alloc (.cells #[.int .i64 kd, .int .i64 ns, .int .i64 nr, .string tx] 30)) := by
  obtain ⟨i0, hi0, hz0, hz1, hz2⟩ := nbinfo
  refine wpList_append_own _ hgd s x 33 ho base 30 i0 _ 4 40 Try.underlying33 hi0 hz0 hz1 hz2 rfl (by decide) v n (nbcells F) hs (hown.alloc _) ⟨wr.heap.size, 0, none⟩ 1 1 [.int .i64 kd, .int .i64 ns, .int .i64 nr, .string tx] hx rfl ?_ ?_ ?_ ?_ ?_ ?_
  · intro i u hu
    rw [Addr.add_lit, Nat.zero_add, World.cell?_alloc_at _ _ _ _ rfl, ← hu]
    simp
  · intro u hu
    simp only [List.mem_cons, List.not_mem_nil, or_false] at hu
    rcases hu with rfl | rfl | rfl | rfl <;> rfl
  · unfold maxLen; omega
  · omega
  · simp; omega
  · intro v' w2 hown2 hg2 _
    refine h v' w2 ?_ hg2
    rw [nbcells_append]
    exact hown2
end Go.Proofs.Ytjgnldkncoighaa
