/- A numbered line's end: its cells; the law's words on it: copied, counted, compared, marked, held; what lay in memory stands but for the marked row. -/
import Derived.Test.YtjgnldkncoighaaLpA
import Derived.Test.YtjgnldkncoighaaStrMarks
namespace Go.Proofs.Ytjgnldkncoighaa
open Go.RowKit
/-- An end of a numbered line, but for its texts. -/
structure Lp where
  wi : Int
  vs : Int
  va : Int
  vr : Int
  ak : Bool
def lpC (p : Lp) (v : Value) : Array Value := #[.int .i64 p.wi, .int .i64 p.vs, .int .i64 p.va, .int .i64 p.vr, v, .bool p.ak]
theorem row6l {w : World} {B : Nat} {x0 x1 x2 x3 x4 x5 : Value} {T : TypeId} (h : w.heap[B]? = some (.cells #[x0, x1, x2, x3, x4, x5] T)) :
    w.cell? ⟨B, 0, none⟩ = some x0 ∧ w.cell? ⟨B, 1, none⟩ = some x1 ∧ w.cell? ⟨B, 2, none⟩ = some x2 ∧ w.cell? ⟨B, 3, none⟩ = some x3 ∧ w.cell? ⟨B, 4, none⟩ = some x4 ∧ w.cell? ⟨B, 5, none⟩ = some x5 :=
  ⟨by rw [cell_of_row _ _ 0 _ _ (0, 0) h]; rfl, by rw [cell_of_row _ _ 1 _ _ (0, 0) h]; rfl, by rw [cell_of_row _ _ 2 _ _ (0, 0) h]; rfl, by rw [cell_of_row _ _ 3 _ _ (0, 0) h]; rfl, by rw [cell_of_row _ _ 4 _ _ (0, 0) h]; rfl, by rw [cell_of_row _ _ 5 _ _ (0, 0) h]; rfl⟩
theorem new2l (w : World) (a b : Obj) : ((w.alloc a).alloc b).heap[w.heap.size]? = some a ∧ ((w.alloc a).alloc b).heap[w.heap.size + 1]? = some b ∧ Below w.heap.size w ((w.alloc a).alloc b) ∧ ((w.alloc a).alloc b).heap.size = w.heap.size + 2 := by
  have hs : (w.alloc a).heap.size = w.heap.size + 1 := by simp
  refine ⟨(Below.heap_alloc _ _ _ (by rw [hs]; omega)).trans (heap_alloc_new w a), by rw [← hs]; exact heap_alloc_new _ _, ((Below.refl _ _).alloc (Nat.le_refl _) _).alloc (by rw [hs]; omega) _, by simp⟩
theorem new3l (w : World) (a b c : Obj) : (((w.alloc a).alloc b).alloc c).heap[w.heap.size]? = some a ∧ (((w.alloc a).alloc b).alloc c).heap[w.heap.size + 1]? = some b ∧ (((w.alloc a).alloc b).alloc c).heap[w.heap.size + 1 + 1]? = some c ∧ Below w.heap.size w (((w.alloc a).alloc b).alloc c) ∧ (((w.alloc a).alloc b).alloc c).heap.size = w.heap.size + 3 := by
  obtain ⟨h1, h2, h3, h4⟩ := new2l w a b
  refine ⟨(Below.heap_alloc _ _ _ (by rw [h4]; omega)).trans h1, (Below.heap_alloc _ _ _ (by rw [h4]; omega)).trans h2, by rw [show w.heap.size + 1 + 1 = ((w.alloc a).alloc b).heap.size by rw [h4]]; exact heap_alloc_new _ _, h3.alloc (by rw [h4]; omega) _, by simp⟩
theorem frz6l {w : World} {B : Nat} {x0 x1 x2 x3 x4 x5 : Value} {T : TypeId} (h : w.heap[B]? = some (.cells #[x0, x1, x2, x3, x4, x5] T)) :
    w.frozen? ⟨B, 0, none⟩ = false ∧ w.frozen? ⟨B, 1, none⟩ = false ∧ w.frozen? ⟨B, 2, none⟩ = false ∧ w.frozen? ⟨B, 3, none⟩ = false ∧ w.frozen? ⟨B, 4, none⟩ = false ∧ w.frozen? ⟨B, 5, none⟩ = false :=
  ⟨frz h _, frz h _, frz h _, frz h _, frz h _, frz h _⟩
theorem set6_lp {W : World} {E : Nat} {z0 z1 z2 z3 z4 z5 : Value} {T : TypeId} (h : W.heap[E]? = some (.cells #[z0, z1, z2, z3, z4, z5] T)) (x0 x1 x2 x3 x4 x5 : Value) :
    ((((((W.setCell ⟨E, 0, none⟩ x0).setCell ⟨E, 1, none⟩ x1).setCell ⟨E, 2, none⟩ x2).setCell ⟨E, 3, none⟩ x3).setCell ⟨E, 4, none⟩ x4).setCell ⟨E, 5, none⟩ x5).heap[E]? = some (.cells #[x0, x1, x2, x3, x4, x5] T) :=
  heap_setCell_same _ _ 5 _ _ x5 (heap_setCell_same _ _ 4 _ _ x4 (heap_setCell_same _ _ 3 _ _ x3 (heap_setCell_same _ _ 2 _ _ x2 (heap_setCell_same _ _ 1 _ _ x1 (heap_setCell_same _ _ 0 _ _ x0 h)))))
theorem set6_lb {n : Nat} {w W : World} {E : Nat} (h : Below n w W) (hE : n ≤ E) (x0 x1 x2 x3 x4 x5 : Value) :
    Below n w ((((((W.setCell ⟨E, 0, none⟩ x0).setCell ⟨E, 1, none⟩ x1).setCell ⟨E, 2, none⟩ x2).setCell ⟨E, 3, none⟩ x3).setCell ⟨E, 4, none⟩ x4).setCell ⟨E, 5, none⟩ x5) :=
  (((((h.setCell (p := ⟨E, 0, none⟩) hE _).setCell (p := ⟨E, 1, none⟩) hE _).setCell (p := ⟨E, 2, none⟩) hE _).setCell (p := ⟨E, 3, none⟩) hE _).setCell (p := ⟨E, 4, none⟩) hE _).setCell (p := ⟨E, 5, none⟩) hE _
theorem HoldsT.set {w : World} {v : Value} {L : List ByteArray} (h : HoldsT w v L) {a : Addr} (hne : ∀ g, v.ownBlock = some g → g ≠ a.block) (x : Value) : HoldsT (w.setCell a x) v L := by
  rcases h with ⟨ad, cp, e, e0⟩ | ⟨g, cp, cur, e, q1, q2⟩
  · exact Or.inl ⟨ad, cp, e, e0⟩
  · exact Or.inr ⟨g, cp, cur, e, (heap_setCell_other _ _ _ _ (hne g (by rw [e]; rfl))).trans q1, q2⟩
theorem keep2l {W : World} {B : Nat} {o : Obj} (h : W.heap[B + 1]? = some o) (x4 x5 : Value) : ((W.setCell ⟨B + 1 + 1, 4, none⟩ x4).setCell ⟨B + 1 + 1, 5, none⟩ x5).heap[B + 1]? = some o :=
  (heap_setCell_other _ _ _ _ (by show B + 1 ≠ B + 1 + 1; omega)).trans ((heap_setCell_other _ _ _ _ (by show B + 1 ≠ B + 1 + 1; omega)).trans h)
theorem infoL : (Try.prog.info? 25).map (·.size) = some 6 := by kernel_rfl
theorem loadL {W : World} {E : Nat} {cs : Array Value} (h : W.heap[E]? = some (.cells cs 25)) (hs : cs.size = 6 := by rfl) : (loadVar 25 ⟨E, 0, none⟩).run Try.prog W = .ok (.agg cs) W :=
  run_loadVar_row (P := Try.prog) _ _ 25 25 cs (0, 0) _ h Try.underlying25 rfl (by rw [hs]; exact infoL)
end Go.Proofs.Ytjgnldkncoighaa
