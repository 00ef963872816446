/- The law's own copy of a Config; what lay in memory stands. -/
import Derived.Test.YtgelbobocjgdaafCfg
import Derived.Deep.WholeRow
namespace Go.Proofs.Ytgelbobocjgdaaf
open Go.RowKit
theorem row6 {w : World} {B : Nat} {x0 x1 x2 x3 x4 x5 : Value} {T : TypeId} (h : w.heap[B]? = some (.cells #[x0, x1, x2, x3, x4, x5] T)) :
    w.cell? ⟨B, 0, none⟩ = some x0 ∧ w.cell? ⟨B, 1, none⟩ = some x1 ∧ w.cell? ⟨B, 2, none⟩ = some x2 ∧ w.cell? ⟨B, 3, none⟩ = some x3 ∧ w.cell? ⟨B, 4, none⟩ = some x4 ∧ w.cell? ⟨B, 5, none⟩ = some x5 :=
  ⟨by rw [cell_of_row _ _ 0 _ _ (0, 0) h]; rfl, by rw [cell_of_row _ _ 1 _ _ (0, 0) h]; rfl, by rw [cell_of_row _ _ 2 _ _ (0, 0) h]; rfl, by rw [cell_of_row _ _ 3 _ _ (0, 0) h]; rfl,
    by rw [cell_of_row _ _ 4 _ _ (0, 0) h]; rfl, by rw [cell_of_row _ _ 5 _ _ (0, 0) h]; rfl⟩
set_option maxHeartbeats 1000000 in
theorem toCfg (m a g : Int) (p c d : Bool) (w : World) :
    Calls Try.prog 9 #[.agg #[.int .i64 m, .int .i64 a, .int .i64 g, .bool p, .bool c, .bool d]] w fun e w' => e = .returned (.agg #[.int .i64 m, .int .i64 a, .int .i64 g, .bool p, .bool c, .bool d]) ∧ Below w.heap.size w w' := by
  go_enter Try.func9, Try.ntmps9
  go_wp2
  refine bodyPost_ret (v := .agg #[.int .i64 m, .int .i64 a, .int .i64 g, .bool p, .bool c, .bool d]) (by simp [results, Try.results9, go_sem]) rfl ⟨rfl, ?_⟩
  exact (((Below.refl _ _).alloc (Nat.le_refl _) _).alloc (by simp) _).alloc (by simp; omega) _
end Go.Proofs.Ytgelbobocjgdaaf
