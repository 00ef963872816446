/- Rows of two cells, and two blocks made one behind the other. -/
import Derived.Test.YtakbldleomhggaaAskC
import Derived.Test.YtakbldleomhggaaCfg
import Derived.Test.YtakbldleomhggaaRepNum
import Derived.Test.YtakbldleomhggaaRow6
import Derived.Laws.ResultCell
import Derived.Deep.RegionHeld3
namespace Go.Proofs.Ytakbldleomhggaa
open Go.RowKit
theorem row2x {w : World} {B : Nat} {x0 x1 : Value} {T : TypeId} (h : w.heap[B]? = some (.cells #[x0, x1] T)) :
    w.cell? ⟨B, 0, none⟩ = some x0 ∧ w.cell? ⟨B, 1, none⟩ = some x1 ∧ w.frozen? ⟨B, 0, none⟩ = false ∧ w.frozen? ⟨B, 1, none⟩ = false :=
  ⟨by rw [cell_of_row _ _ _ _ _ _ h]; rfl, by rw [cell_of_row _ _ _ _ _ _ h]; rfl, frz h _, frz h _⟩
theorem start2r (w : World) (a b : Obj) : ((w.alloc a).alloc b).heap.size = w.heap.size + 1 + 1 ∧ ((w.alloc a).alloc b).heap[w.heap.size]? = some a ∧ ((w.alloc a).alloc b).heap[w.heap.size + 1]? = some b ∧ Below w.heap.size w ((w.alloc a).alloc b) := by
  have s1 : (w.alloc a).heap.size = w.heap.size + 1 := by simp
  have e2 := heap_alloc_new (w.alloc a) b
  rw [s1] at e2
  refine ⟨by simp, ?_, e2, ((Below.refl _ _).alloc (Nat.le_refl _) _).alloc (by omega) _⟩
  rw [Below.heap_alloc _ _ _ (by omega)]
  exact heap_alloc_new w a
theorem infoOp : (Try.prog.info? 66).map (·.size) = some 2 := by kernel_rfl
theorem load2 {W : World} {E : Nat} {x0 x1 : Value} (h : W.heap[E]? = some (.cells #[x0, x1] 66)) : (loadVar 66 ⟨E, 0, none⟩).run Try.prog W = .ok (.agg #[x0, x1]) W :=
  run_loadVar_row (P := Try.prog) _ _ 66 66 #[x0, x1] (0, 0) _ h Try.underlying66 rfl infoOp
theorem set2_at {W : World} {E : Nat} {z0 z1 : Value} {T : TypeId} (h : W.heap[E]? = some (.cells #[z0, z1] T)) (x0 x1 : Value) :
    ((W.setCell ⟨E, 0, none⟩ x0).setCell ⟨E, 1, none⟩ x1).heap[E]? = some (.cells #[x0, x1] T) :=
  heap_setCell_same _ _ 1 _ _ x1 (heap_setCell_same _ _ 0 _ _ x0 h)
end Go.Proofs.Ytakbldleomhggaa
