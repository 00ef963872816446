/- The law's words on a numbered frame that came in: copied, and its size counted; what lay in memory stands. -/
import Derived.Test.YtholikngdkpjeaaBase
namespace Go.Proofs.Ytholikngdkpjeaa
open Go.RowKit
set_option maxHeartbeats 1000000 in
theorem toNb (k x y : Int) (t : ByteArray) (w : World) :
    Calls Try.prog 29 #[.agg #[.int .i64 k, .int .i64 x, .int .i64 y, .string t]] w fun e w' => e = .returned (.agg #[.int .i64 k, .int .i64 x, .int .i64 y, .string t]) ∧ Below w.heap.size w w' := by
  go_enter Try.func29, Try.ntmps29
  go_wp2
  refine bodyPost_ret (v := .agg #[.int .i64 k, .int .i64 x, .int .i64 y, .string t]) (by simp [results, Try.results29, go_sem]) rfl ⟨rfl, ?_⟩
  exact (((Below.refl _ _).alloc (Nat.le_refl _) _).alloc (by simp) _).alloc (by simp; omega) _
set_option maxHeartbeats 400000 in
theorem szNb (k x y : Int) (t : ByteArray) (w : World) (ht : t.size ≤ maxLen) (m : Nat) (hm : m ≤ 1048576) :
    Calls Try.prog 27 #[.agg #[.int .i64 k, .int .i64 x, .int .i64 y, .string t], .int .i64 m] w fun e w' => e = .returned (.int .i64 (if t.size ≤ m then (m : Int) - (t.size : Int) else -1)) ∧ Below w.heap.size w w' := by
  unfold maxLen at ht
  by_cases h : t.size ≤ m
  · rw [if_pos h]
    have d1 : ¬ ((m : Int) - (t.size : Int) < 0) := by omega
    go_enter Try.func27, Try.ntmps27
    go_wp2
    all_goals first | (exfalso; omega) | (go_ret; exact ⟨rfl, (Below.refl _ _).alloc (Nat.le_refl _) _⟩)
  · rw [if_neg h]
    have d1 : (m : Int) - (t.size : Int) < 0 := by omega
    go_enter Try.func27, Try.ntmps27
    go_wp2
    all_goals first | (exfalso; omega) | (go_ret; exact ⟨rfl, (Below.refl _ _).alloc (Nat.le_refl _) _⟩)
end Go.Proofs.Ytholikngdkpjeaa
