/- What is answered to each option, in a row: the program's verdictsOn; what lay in memory stands. -/
import Derived.Test.YtkadbghglmlpkaaRepMath
import Derived.Deep.DeepCutAuto
namespace Go.Proofs.Ytkadbghglmlpkaa
open Go.RowKit
/-- What stands while the answers are laid: the Config, the rules, which kinds were there, the answers. -/
structure VoS (w : World) (cB M A G : Nat) (C ws cur : Array Value) (q : World) : Prop where
  c : q.heap[cB]? = some (.cells C 26)
  m : q.heap[M]? = some (.map rules 6)
  a : q.heap[A]? = some (.cells ws 74)
  g : q.heap[G]? = some (.cells cur 73)
  b : Below w.heap.size w q
theorem VoS.step {w : World} {cB M A G : Nat} {C ws cur : Array Value} {q q' : World} (h : VoS w cB M A G C ws cur q) (hb : Below q.heap.size q q') : VoS w cB M A G C ws cur q' :=
  ⟨(hb.block _ (Array.getElem?_eq_some_iff.1 h.c).1).trans h.c, (hb.block _ (Array.getElem?_eq_some_iff.1 h.m).1).trans h.m, (hb.block _ (Array.getElem?_eq_some_iff.1 h.a).1).trans h.a, (hb.block _ (Array.getElem?_eq_some_iff.1 h.g).1).trans h.g, h.b.trans (hb.mono h.b.size)⟩
theorem VoS.putG {w : World} {cB M A G : Nat} {C ws cur : Array Value} {q : World} (h : VoS w cB M A G C ws cur q) (n1 : cB ≠ G) (n2 : M ≠ G) (n3 : A ≠ G) (n4 : w.heap.size ≤ G) (i0 i1 i2 : Nat) (x0 x1 x2 : Value) :
    VoS w cB M A G C ws (((cur.setIfInBounds i0 x0).setIfInBounds i1 x1).setIfInBounds i2 x2) (((q.setCell ⟨G, i0, none⟩ x0).setCell ⟨G, i1, none⟩ x1).setCell ⟨G, i2, none⟩ x2) := by
  refine ⟨?_, ?_, ?_, heap_setCell_same _ _ _ _ _ _ (heap_setCell_same _ _ _ _ _ _ (heap_setCell_same _ _ _ _ _ _ h.g)), ((h.b.setCell (p := ⟨G, i0, none⟩) n4 _).setCell (p := ⟨G, i1, none⟩) n4 _).setCell (p := ⟨G, i2, none⟩) n4 _⟩
  · rw [Below.heap_setCell _ _ _ _ n1, Below.heap_setCell _ _ _ _ n1, Below.heap_setCell _ _ _ _ n1]; exact h.c
  · rw [Below.heap_setCell _ _ _ _ n2, Below.heap_setCell _ _ _ _ n2, Below.heap_setCell _ _ _ _ n2]; exact h.m
  · rw [Below.heap_setCell _ _ _ _ n3, Below.heap_setCell _ _ _ _ n3, Below.heap_setCell _ _ _ _ n3]; exact h.a
theorem VoS.putA {w : World} {cB M A G : Nat} {C ws cur : Array Value} {q : World} (h : VoS w cB M A G C ws cur q) (n1 : cB ≠ A) (n2 : M ≠ A) (n3 : G ≠ A) (n4 : w.heap.size ≤ A) (i : Nat) (x : Value) :
    VoS w cB M A G C (ws.setIfInBounds i x) cur (q.setCell ⟨A, i, none⟩ x) := by
  refine ⟨?_, ?_, heap_setCell_same _ _ _ _ _ _ h.a, ?_, h.b.setCell (p := ⟨A, i, none⟩) n4 _⟩
  · rw [Below.heap_setCell _ _ _ _ n1]; exact h.c
  · rw [Below.heap_setCell _ _ _ _ n2]; exact h.m
  · rw [Below.heap_setCell _ _ _ _ n3]; exact h.g
/-- The answers laid so far. -/
def Laid (m a g : Nat) (p c d : Bool) (L : List Op.Opt) (i : Nat) (cur : Array Value) : Prop := cur.size = L.length * 3 ∧ ∀ j, j < i * 3 → cur[j]? = (vcells (vdl m a g p c d L i))[j]?
/-- The kinds that were there. -/
def Was (L : List Op.Opt) (i : Nat) (ws : Array Value) : Prop := ws.size = 256 ∧ ∀ k : Nat, k < 256 → ws[k]? = some (.bool (wasIn k (L.take i)))
theorem Laid.put {m a g : Nat} {p c d : Bool} {L : List Op.Opt} {i : Nat} {cur : Array Value} (h : Laid m a g p c d L i cur) (hi : i < L.length) (x : Int) (k : Int) (t : ByteArray) (hv : vdAt m a g p c d L i = (x, ⟨k, t⟩)) :
    Laid m a g p c d L (i + 1) (((cur.setIfInBounds (i * 3) (.int .i64 x)).setIfInBounds (i * 3 + 1) (.int .i64 k)).setIfInBounds (i * 3 + 2) (.string t)) := by
  obtain ⟨h1, h2⟩ := h
  refine ⟨by simp [h1], fun j hj => ?_⟩
  have hs := vcells_len (vdl m a g p c d L i)
  rw [vdl_len] at hs
  rw [vdl_succ, hv, vcells_append, Array.getElem?_setIfInBounds, Array.getElem?_setIfInBounds, Array.getElem?_setIfInBounds]
  by_cases j2 : i * 3 + 2 = j
  · subst j2
    rw [if_pos rfl, if_pos (by simp [h1]; omega), List.getElem?_append_right (by omega), hs, show i * 3 + 2 - i * 3 = 2 by omega]
    rfl
  · rw [if_neg j2]
    by_cases j1 : i * 3 + 1 = j
    · subst j1
      rw [if_pos rfl, if_pos (by simp [h1]; omega), List.getElem?_append_right (by omega), hs, show i * 3 + 1 - i * 3 = 1 by omega]
      rfl
    · rw [if_neg j1]
      by_cases j0 : i * 3 = j
      · subst j0
        rw [if_pos rfl, if_pos (by simp [h1]; omega), List.getElem?_append_right (by omega), hs, Nat.sub_self]
        rfl
      · rw [if_neg j0, List.getElem?_append_left (by omega)]
        exact h2 j (by omega)
theorem Was.put {L : List Op.Opt} {i : Nat} {ws : Array Value} (h : Was L i ws) (hi : i < L.length) (k : Nat) (hk : k < 256) (hL : L[i].kind = (k : Int)) : Was L (i + 1) (ws.setIfInBounds k (.bool true)) := by
  obtain ⟨h1, h2⟩ := h
  refine ⟨by simp [h1], fun j hj => ?_⟩
  rw [Array.getElem?_setIfInBounds, List.take_succ_eq_append_getElem hi]
  unfold wasIn
  rw [List.any_append]
  by_cases e : k = j
  · subst e
    rw [if_pos rfl, if_pos (by omega)]
    simp [hL]
  · rw [if_neg e, h2 j hj]
    have : ((k : Int) == (j : Int)) = false := beq_eq_false_iff_ne.2 (by omega)
    simp [wasIn, hL, this]
theorem zero256 : Try.zeroCells74 = (List.replicate 256 (Value.bool false)).toArray := by kernel_rfl
theorem was_zero (L : List Op.Opt) : Was L 0 Try.zeroCells74 := by
  rw [zero256]
  refine ⟨by rw [List.size_toArray, List.length_replicate], fun k hk => ?_⟩
  rw [List.getElem?_toArray, List.getElem?_replicate, if_pos hk]
  rfl
theorem make_v (n : Nat) (hn : n ≤ 20) : ∃ Mk : Array Value, Mk.size = n * 3 ∧ ∀ W, (Instr.makeSlice 64 (.int .i64 n) (.int .i64 n)).run Try.prog W = .ok (.slice (some ⟨W.heap.size, 0, none⟩) n n) (W.alloc (.cells Mk 73)) := by
  have h : (Try.prog.info? 73).map (fun i => (i.zero, i.size, i.bytes)) = some (some (.agg #[.int .i64 0, .int .i64 0, .string ⟨#[]⟩]), 3, 32) := by kernel_rfl
  obtain ⟨i, hi, hzz⟩ := Option.map_eq_some_iff.1 h
  simp only [Prod.mk.injEq] at hzz
  refine ⟨madeCells (Value.agg #[.int .i64 0, .int .i64 0, .string ⟨#[]⟩]).cells (n * 3), by rw [size_madeCells], fun W => ?_⟩
  have := run_make (P := Try.prog) W 64 73 i _ Try.underlying64 hi hzz.1 .i64 .i64 (n : Int) (n : Int) (by omega) (by omega) (by rw [hzz.2.2]; omega) (by omega)
  rw [hzz.2.1] at this
  simpa using this
/-- The answers lie in a row of their own. -/
def VRow (base : Nat) (l : List (Int × Op.Opt)) (v : Value) (q : World) : Prop := ∃ G cur, v = .slice (some ⟨G, 0, none⟩) l.length l.length ∧ base ≤ G ∧ q.heap[G]? = some (.cells cur 73) ∧ cur.size = l.length * 3 ∧ ∀ j, j < l.length * 3 → cur[j]? = (vcells l)[j]?
/-- One option's round: its rule, if there is one, and what is answered. -/
theorem round_fact (m a g : Nat) (p c d : Bool) (ha : a < 4294967296) (hg : g < 4294967296) (k : Nat) (dt : ByteArray) (L : List Op.Opt) (i : Nat) (hv : vdAt m a g p c d L i = verd m a g p c d (L.take i) ⟨(k : Int), dt⟩) :
    ∃ (x0 x1 x2 x3 x4 x5 : Value) (bl : Bool), ((∃ s f f2 f3 f4 f5 : Nat, x0 = .int .i64 s ∧ x1 = fnV f ∧ x2 = fnV f2 ∧ x3 = fnV f3 ∧ x4 = fnV f4 ∧ x5 = fnV f5) ∨ (x0 = .int .i64 0 ∧ x1 = .nilFunc ∧ x2 = .nilFunc ∧ x3 = .nilFunc ∧ x4 = .nilFunc ∧ x5 = .nilFunc)) ∧ (∀ (v : World) (M : Nat), v.heap[M]? = some (.map rules 6) → Calls Try.prog 46 #[.map (some M), .agg #[.int .i64 k, .string dt]] v fun e w' => e = .returned (.tuple #[.agg #[x0, x1, x2, x3, x4, x5], .bool bl]) ∧ Below v.heap.size v w') ∧
      (bl = false → vdAt m a g p c d L i = (4, ⟨(k : Int), dt⟩)) ∧ (wasIn k (L.take i) = true → vdAt m a g p c d L i = (4, ⟨(k : Int), dt⟩)) ∧
      (bl = true → wasIn k (L.take i) = false → ∃ (x : Int) (t : ByteArray), vdAt m a g p c d L i = (x, ⟨(k : Int), t⟩) ∧ ∀ v, Calls Try.prog 47 #[.agg #[x0, x1, x2, x3, x4, x5], cfgV m a g p c d, .agg #[.int .i64 k, .string dt]] v fun e w' => e = .returned (.agg #[.int .i64 x, .int .i64 k, .string t]) ∧ Below v.heap.size v w') := by
  rw [hv]
  rcases jud_row m a g p c d ha hg (k : Int) with ⟨s, f, f2, f3, f4, f5, j, bt, hs, hJ⟩ | ⟨hs, hf⟩
  · refine ⟨_, _, _, _, _, _, ((dt.size : Int) == (s : Int)), Or.inl ⟨s, f, f2, f3, f4, f5, rfl, rfl, rfl, rfl, rfl, rfl⟩, fun v M hM => ruleOf_yes M k dt s f f2 f3 f4 f5 j v hM hJ.fd, ?_, ?_, ?_⟩
    · intro hb
      have hne := beq_eq_false_iff_ne.1 hb
      unfold verd one
      split
      · rfl
      · rw [if_neg]
        dsimp only
        rw [hs]
        intro e
        cases e
        exact hne rfl
    · intro hw
      unfold verd
      rw [if_pos hw]
    · intro hb hw
      have he : dt.size = s := by have := eq_of_beq hb; omega
      have h4 := sizeK_le hs
      refine ⟨_, _, ?_, fun v => verdOf m a g p c d k dt s f f2 f3 f4 f5 j _ bt _ v hJ (by omega)⟩
      unfold verd one
      rw [if_neg (by rw [hw]; decide), if_pos (by dsimp only; rw [hs, he])]
  · refine ⟨_, _, _, _, _, _, false, Or.inr ⟨rfl, rfl, rfl, rfl, rfl, rfl⟩, fun v M hM => ruleOf_no M k dt v hM hf, ?_, ?_, fun hb => by cases hb⟩
    · intro _
      unfold verd one
      split
      · rfl
      · rw [if_neg]
        dsimp only
        rw [hs]
        intro e
        cases e
    · intro hw
      unfold verd
      rw [if_pos hw]
end Go.Proofs.Ytkadbghglmlpkaa
