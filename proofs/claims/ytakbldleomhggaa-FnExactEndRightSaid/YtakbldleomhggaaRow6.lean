/- The six cells of a block of six; no condition. -/
import Derived.Test.YtakbldleomhggaaBase
import Derived.Deep.WholeRow
namespace Go.Proofs.Ytakbldleomhggaa
open Go.RowKit
theorem row6 {w : World} {B : Nat} {x0 x1 x2 x3 x4 x5 : Value} {T : TypeId} (h : w.heap[B]? = some (.cells #[x0, x1, x2, x3, x4, x5] T)) :
    w.cell? ⟨B, 0, none⟩ = some x0 ∧ w.cell? ⟨B, 1, none⟩ = some x1 ∧ w.cell? ⟨B, 2, none⟩ = some x2 ∧ w.cell? ⟨B, 3, none⟩ = some x3 ∧ w.cell? ⟨B, 4, none⟩ = some x4 ∧ w.cell? ⟨B, 5, none⟩ = some x5 :=
  ⟨by rw [cell_of_row _ _ 0 _ _ (0, 0) h]; rfl, by rw [cell_of_row _ _ 1 _ _ (0, 0) h]; rfl, by rw [cell_of_row _ _ 2 _ _ (0, 0) h]; rfl, by rw [cell_of_row _ _ 3 _ _ (0, 0) h]; rfl,
    by rw [cell_of_row _ _ 4 _ _ (0, 0) h]; rfl, by rw [cell_of_row _ _ 5 _ _ (0, 0) h]; rfl⟩
end Go.Proofs.Ytakbldleomhggaa
