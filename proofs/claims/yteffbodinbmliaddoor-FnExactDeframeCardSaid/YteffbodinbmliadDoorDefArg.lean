/- The law's own copy of a Deframer, and its bytes counted; what lay in memory stands. -/
import Derived.Test.YteffbodinbmliadDoorRight
import Derived.Deep.WholeRow
namespace Go.Proofs.YteffbodinbmliadDoor
open Go.RowKit
theorem row6 {w : World} {B : Nat} {x0 x1 x2 x3 x4 x5 : Value} {T : TypeId} (h : w.heap[B]? = some (.cells #[x0, x1, x2, x3, x4, x5] T)) :
    w.cell? ⟨B, 0, none⟩ = some x0 ∧ w.cell? ⟨B, 1, none⟩ = some x1 ∧ w.cell? ⟨B, 2, none⟩ = some x2 ∧ w.cell? ⟨B, 3, none⟩ = some x3 ∧ w.cell? ⟨B, 4, none⟩ = some x4 ∧ w.cell? ⟨B, 5, none⟩ = some x5 :=
  ⟨by rw [cell_of_row _ _ 0 _ _ (0, 0) h]; rfl, by rw [cell_of_row _ _ 1 _ _ (0, 0) h]; rfl, by rw [cell_of_row _ _ 2 _ _ (0, 0) h]; rfl, by rw [cell_of_row _ _ 3 _ _ (0, 0) h]; rfl,
    by rw [cell_of_row _ _ 4 _ _ (0, 0) h]; rfl, by rw [cell_of_row _ _ 5 _ _ (0, 0) h]; rfl⟩
set_option maxHeartbeats 1000000 in
theorem toDef (wide : Bool) (x : Int) (inn esc long : Bool) (t : ByteArray) (w : World) :
    Calls Tryd.prog 9 #[.agg #[.bool wide, .int .i64 x, .bool inn, .bool esc, .bool long, .string t]] w fun e w' => e = .returned (.agg #[.bool wide, .int .i64 x, .bool inn, .bool esc, .bool long, .string t]) ∧ Below w.heap.size w w' := by
  go_enter Tryd.func9, Tryd.ntmps9
  go_wp2
  refine bodyPost_ret (v := .agg #[.bool wide, .int .i64 x, .bool inn, .bool esc, .bool long, .string t]) (by simp [results, Tryd.results9, go_sem]) rfl ⟨rfl, ?_⟩
  exact (((Below.refl _ _).alloc (Nat.le_refl _) _).alloc (by simp) _).alloc (by simp; omega) _
set_option maxHeartbeats 400000 in
theorem szDef (wide : Bool) (x : Int) (inn esc long : Bool) (t : ByteArray) (w : World) (ht : t.size ≤ maxLen) :
    Calls Tryd.prog 7 #[.agg #[.bool wide, .int .i64 x, .bool inn, .bool esc, .bool long, .string t], .int .i64 1048576] w fun e w' => e = .returned (.int .i64 (if t.size ≤ 1048576 then 1048576 - (t.size : Int) else -1)) ∧ Below w.heap.size w w' := by
  unfold maxLen at ht
  by_cases h : t.size ≤ 1048576
  · rw [if_pos h]
    have d1 : ¬ (1048576 - (t.size : Int) < 0) := by omega
    go_enter Tryd.func7, Tryd.ntmps7
    go_wp2
    all_goals first | (exfalso; omega) | (go_ret; exact ⟨rfl, (Below.refl _ _).alloc (Nat.le_refl _) _⟩)
  · rw [if_neg h]
    have d1 : 1048576 - (t.size : Int) < 0 := by omega
    go_enter Tryd.func7, Tryd.ntmps7
    go_wp2
    all_goals first | (exfalso; omega) | (go_ret; exact ⟨rfl, (Below.refl _ _).alloc (Nat.le_refl _) _⟩)
end Go.Proofs.YteffbodinbmliadDoor
