/- Is a number a byte: the program's and the model's walks; memory stands as it was. -/
import Derived.Test.YtakbldleomhggaaInts
namespace Go.Proofs.Ytakbldleomhggaa
open Go.RowKit
set_option maxHeartbeats 400000 in
theorem byteR (x : Int) (w : World) : Calls Try.prog 59 #[.int .i64 x] w fun e w' => e = .returned (.bool (decide (0 ≤ x) && decide (x ≤ 255))) ∧ w' = w := by
  by_cases h1 : 0 ≤ x
  · have d1 : decide ((0 : Int) ≤ x) = true := decide_eq_true h1
    rw [d1, Bool.true_and]
    go_enter Try.func59, Try.ntmps59
    go_wp2
    go_ret
    exact ⟨rfl, rfl⟩
  · have d1 : decide ((0 : Int) ≤ x) = false := decide_eq_false h1
    rw [d1, Bool.false_and]
    go_enter Try.func59, Try.ntmps59
    go_wp2
    go_ret
    exact ⟨rfl, rfl⟩
set_option maxHeartbeats 400000 in
theorem specIs255 (x y : Int) (w : World) : Calls Try.prog 51 #[.int .i64 x, .int .i64 y, .int .i64 255] w fun e w' => e = .returned (.bool (decide (y ≤ x) && decide (x ≤ 255))) ∧ w' = w := by
  by_cases h1 : y ≤ x
  · have d1 : decide (y ≤ x) = true := decide_eq_true h1
    rw [d1, Bool.true_and]
    go_enter Try.func51, Try.ntmps51
    go_wp2
    go_ret
    exact ⟨rfl, rfl⟩
  · have d1 : decide (y ≤ x) = false := decide_eq_false h1
    rw [d1, Bool.false_and]
    go_enter Try.func51, Try.ntmps51
    go_wp2
    go_ret
    exact ⟨rfl, rfl⟩
end Go.Proofs.Ytakbldleomhggaa
