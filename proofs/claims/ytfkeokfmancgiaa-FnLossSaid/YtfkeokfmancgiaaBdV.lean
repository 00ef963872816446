/- A bundle of lines: its two rows; the law's words on it: copied, counted, compared, marked, held; what lay in memory stands but for the marked rows. -/
import Derived.Test.YtfkeokfmancgiaaIvA
import Derived.Test.YtfkeokfmancgiaaIvM
import Derived.Test.YtfkeokfmancgiaaFgAr
import Derived.Test.YtfkeokfmancgiaaFgM
namespace Go.Proofs.Ytfkeokfmancgiaa
open Go.RowKit
theorem row2b {w : World} {B : Nat} {x0 x1 : Value} {T : TypeId} (h : w.heap[B]? = some (.cells #[x0, x1] T)) : w.cell? ⟨B, 0, none⟩ = some x0 ∧ w.cell? ⟨B, 1, none⟩ = some x1 :=
  ⟨by rw [cell_of_row _ _ 0 _ _ (0, 0) h]; rfl, by rw [cell_of_row _ _ 1 _ _ (0, 0) h]; rfl⟩
theorem new2b (w : World) (a b : Obj) : ((w.alloc a).alloc b).heap[w.heap.size]? = some a ∧ ((w.alloc a).alloc b).heap[w.heap.size + 1]? = some b ∧ Below w.heap.size w ((w.alloc a).alloc b) ∧ ((w.alloc a).alloc b).heap.size = w.heap.size + 2 := by
  have hs : (w.alloc a).heap.size = w.heap.size + 1 := by simp
  refine ⟨(Below.heap_alloc _ _ _ (by rw [hs]; omega)).trans (heap_alloc_new w a), by rw [← hs]; exact heap_alloc_new _ _, ((Below.refl _ _).alloc (Nat.le_refl _) _).alloc (by rw [hs]; omega) _, by simp⟩
theorem new3b (w : World) (a b c : Obj) : (((w.alloc a).alloc b).alloc c).heap[w.heap.size]? = some a ∧ (((w.alloc a).alloc b).alloc c).heap[w.heap.size + 1]? = some b ∧ (((w.alloc a).alloc b).alloc c).heap[w.heap.size + 1 + 1]? = some c ∧ Below w.heap.size w (((w.alloc a).alloc b).alloc c) ∧ (((w.alloc a).alloc b).alloc c).heap.size = w.heap.size + 3 := by
  obtain ⟨h1, h2, h3, h4⟩ := new2b w a b
  refine ⟨(Below.heap_alloc _ _ _ (by rw [h4]; omega)).trans h1, (Below.heap_alloc _ _ _ (by rw [h4]; omega)).trans h2, by rw [show w.heap.size + 1 + 1 = ((w.alloc a).alloc b).heap.size by rw [h4]]; exact heap_alloc_new _ _, h3.alloc (by rw [h4]; omega) _, by simp⟩
/-- Rows of two kinds share no block. -/
theorem kinds_ne {w : World} {v1 v2 : Value} {L : List Int} {F : List Fg} (h1 : HoldsI w v1 L) (h2 : HoldsG w v2 F) (l0 : L ≠ []) (f0 : F ≠ []) : ∀ g, v2.ownBlock = some g → v1.ownBlock ≠ some g := by
  intro g hg e
  rcases h1 with ⟨_, _, _, q⟩ | ⟨g1, _, _, e1, q1, _⟩
  · exact l0 q
  · rcases h2 with ⟨_, _, _, q⟩ | ⟨g2, _, _, e2, q2, _⟩
    · exact f0 q
    · rw [e1] at e
      rw [e2] at hg
      have a1 : g1 = g := by injection e
      have a2 : g2 = g := by injection hg
      rw [a1] at q1
      rw [a2] at q2
      rw [q1] at q2
      simp only [Option.some.injEq, Obj.cells.injEq] at q2
      exact absurd q2.2.1 (by decide)
theorem holdsG_but {u v : Value} {F : List Fg} {W W' : World} (h : HoldsG W v F) (hb : But u.ownBlock W W') (n : F ≠ [] → ∀ g, v.ownBlock = some g → u.ownBlock ≠ some g) : HoldsG W' v F := by
  by_cases hF : F = []
  · subst hF
    obtain ⟨ad, cp, e⟩ := h.form
    exact Or.inl ⟨ad, cp, e, rfl⟩
  · exact h.imp id fun ⟨g, cp, cur, e1, e2, e3⟩ => ⟨g, cp, cur, e1, (hb.block g (Array.getElem?_eq_some_iff.1 e2).1 (n hF g (by rw [e1]; rfl))).trans e2, e3⟩
theorem holdsI_but2 {u v : Value} {F : List Int} {W W' : World} (h : HoldsI W v F) (hb : But u.ownBlock W W') (n : F ≠ [] → ∀ g, v.ownBlock = some g → u.ownBlock ≠ some g) : HoldsI W' v F := by
  by_cases hF : F = []
  · subst hF
    obtain ⟨ad, cp, e⟩ := h.form
    exact Or.inl ⟨ad, cp, e, rfl⟩
  · exact h.imp id fun ⟨g, cp, cur, e1, e2, e3⟩ => ⟨g, cp, cur, e1, (hb.block g (Array.getElem?_eq_some_iff.1 e2).1 (n hF g (by rw [e1]; rfl))).trans e2, e3⟩
theorem box_b {w w1 : World} {o : Obj} (hb : Below (w.alloc o).heap.size (w.alloc o) w1) : w1.heap[w.heap.size]? = some o ∧ Below w.heap.size w w1 := by
  have hs0 : (w.alloc o).heap.size = w.heap.size + 1 := by simp
  exact ⟨(hb.block w.heap.size (by rw [hs0]; omega)).trans (heap_alloc_new w _), ((Below.refl _ _).alloc (Nat.le_refl _) _).trans (hb.mono (by rw [hs0]; omega))⟩
/-- All but two rows stands. -/
structure But2 (u v : Option Nat) (w w' : World) : Prop where
  os : w'.os = w.os
  tape : w'.tape = w.tape
  output : w'.output = w.output
  size : w.heap.size ≤ w'.heap.size
  block : ∀ b, b < w.heap.size → u ≠ some b → v ≠ some b → w'.heap[b]? = w.heap[b]?
/-- A row's block, if it has cells. -/
def bkb (n : Nat) (v : Value) : Option Nat := if n = 0 then none else v.ownBlock
theorem bkb_some {n : Nat} (h : n ≠ 0) (v : Value) : bkb n v = v.ownBlock := if_neg h
theorem bkb_own {n : Nat} {v : Value} {g : Nat} (h : bkb n v = some g) : v.ownBlock = some g := by
  unfold bkb at h
  split at h
  · cases h
  · exact h
theorem but_bk {n : Nat} {v : Value} {w w' : World} (hb : But v.ownBlock w w') (h0 : n = 0 → Below w.heap.size w w') : ∀ b, b < w.heap.size → bkb n v ≠ some b → w'.heap[b]? = w.heap[b]? := by
  intro b hlt hne
  by_cases hz : n = 0
  · exact (h0 hz).block b hlt
  · rw [bkb_some hz] at hne
    exact hb.block b hlt hne
/-- All but a block stands. -/
def Keep (u : Option Nat) (W w1 : World) : Prop := ∀ b, b < W.heap.size → u ≠ some b → w1.heap[b]? = W.heap[b]?
theorem HoldsG.keep {W w1 : World} {v : Value} {F : List Fg} {u : Option Nat} (h : HoldsG W v F) (k : Keep u W w1) (n : ∀ g, bkb F.length v = some g → u ≠ some g) : HoldsG w1 v F := by
  by_cases hF : F = []
  · subst hF
    obtain ⟨ad, cp, e⟩ := h.form
    exact Or.inl ⟨ad, cp, e, rfl⟩
  · exact h.imp id fun ⟨g, cp, cur, e1, e2, e3⟩ => ⟨g, cp, cur, e1, (k g (Array.getElem?_eq_some_iff.1 e2).1 (n g (by rw [bkb_some (fun e => hF (List.eq_nil_of_length_eq_zero e)), e1]; rfl))).trans e2, e3⟩
theorem HoldsI.keep {W w1 : World} {v : Value} {F : List Int} {u : Option Nat} (h : HoldsI W v F) (k : Keep u W w1) (n : ∀ g, bkb F.length v = some g → u ≠ some g) : HoldsI w1 v F := by
  by_cases hF : F = []
  · subst hF
    obtain ⟨ad, cp, e⟩ := h.form
    exact Or.inl ⟨ad, cp, e, rfl⟩
  · exact h.imp id fun ⟨g, cp, cur, e1, e2, e3⟩ => ⟨g, cp, cur, e1, (k g (Array.getElem?_eq_some_iff.1 e2).1 (n g (by rw [bkb_some (fun e => hF (List.eq_nil_of_length_eq_zero e)), e1]; rfl))).trans e2, e3⟩
theorem kinds_bk {w : World} {v1 v2 : Value} {L : List Int} {F : List Fg} (h1 : HoldsI w v1 L) (h2 : HoldsG w v2 F) : ∀ g, bkb F.length v2 = some g → bkb L.length v1 ≠ some g := by
  intro g hg e
  have l0 : L ≠ [] := fun q => by rw [q] at e; cases e
  have f0 : F ≠ [] := fun q => by rw [q] at hg; cases hg
  exact kinds_ne h1 h2 l0 f0 g (bkb_own hg) (bkb_own e)
theorem HoldsI.bk_lt {w : World} {v : Value} {F : List Int} (h : HoldsI w v F) (g : Nat) (hg : bkb F.length v = some g) : g < w.heap.size := by
  rcases h with ⟨ad, cp, e, e0⟩ | ⟨g', cp, cur, e, q1, _⟩
  · rw [e0] at hg
    cases hg
  · have := bkb_own hg
    rw [e] at this
    have a1 : g' = g := by injection this
    rw [← a1]
    exact (Array.getElem?_eq_some_iff.1 q1).1
theorem HoldsG.bk_lt {w : World} {v : Value} {F : List Fg} (h : HoldsG w v F) (g : Nat) (hg : bkb F.length v = some g) : g < w.heap.size := by
  rcases h with ⟨ad, cp, e, e0⟩ | ⟨g', cp, cur, e, q1, _⟩
  · rw [e0] at hg
    cases hg
  · have := bkb_own hg
    rw [e] at this
    have a1 : g' = g := by injection this
    rw [← a1]
    exact (Array.getElem?_eq_some_iff.1 q1).1
/-- What is left of the world by a mark. -/
structure Mk (u : Option Nat) (W w1 : World) : Prop where
  os : w1.os = W.os
  tape : w1.tape = W.tape
  output : w1.output = W.output
  size : W.heap.size ≤ w1.heap.size
  keep : Keep u W w1
theorem mark_mid {w w1 : World} {o : Obj} {v1 v2 : Value} {L : List Int} {F : List Fg} (h1 : HoldsI w v1 L) (h2 : HoldsG w v2 F) (mk : Mk (bkb L.length v1) (w.alloc o) w1) :
    w1.heap[w.heap.size]? = some o ∧ HoldsG w1 v2 F := by
  have hs : (w.alloc o).heap.size = w.heap.size + 1 := by simp
  refine ⟨(mk.keep w.heap.size (by rw [hs]; omega) (fun e => ?_)).trans (heap_alloc_new w o), ?_⟩
  · have := h1.bk_lt _ e
    omega
  · exact HoldsG.keep (h2.below ((Below.refl _ _).alloc (Nat.le_refl _) o) rfl) mk.keep (kinds_bk h1 h2)
theorem mark_end {w w1 w2 : World} {o : Obj} {v1 v2 : Value} {L : List Int} {F : List Fg} (h1 : HoldsI w v1 L) (h2 : HoldsG w v2 F) (mk : Mk (bkb L.length v1) (w.alloc o) w1) (mk2 : Mk (bkb F.length v2) w1 w2) {k : Nat} (p1 : HoldsI w1 v1 (mil k L.length)) :
    HoldsI w2 v1 (mil k L.length) ∧ But2 (bkb L.length v1) (bkb F.length v2) w w2 := by
  have hs : (w.alloc o).heap.size = w.heap.size + 1 := by simp
  have hs1 := mk.size
  refine ⟨HoldsI.keep p1 mk2.keep (fun g hg e => ?_), mk2.os.trans mk.os, mk2.tape.trans mk.tape, mk2.output.trans mk.output, by have := mk2.size; omega, fun b hb n1 n2 => ?_⟩
  · rw [mil_len] at hg
    exact kinds_bk h1 h2 g e hg
  · exact (mk2.keep b (by omega) n2).trans ((mk.keep b (by omega) n1).trans (Below.heap_alloc _ _ _ hb))
end Go.Proofs.Ytfkeokfmancgiaa
