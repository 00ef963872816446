/- The law's words on a part that came in: copied, and its size counted; what lay in memory stands. -/
import Derived.Test.YtcanpnbpofdpcaaBase
namespace Go.Proofs.Ytcanpnbpofdpcaa
open Go.RowKit
set_option maxHeartbeats 1000000 in
theorem toFg (k : Int) (x y : Bool) (t : ByteArray) (w : World) :
    Calls Try.prog 12 #[.agg #[.int .i64 k, .bool x, .bool y, .string t]] w fun e w' => e = .returned (.agg #[.int .i64 k, .bool x, .bool y, .string t]) ∧ Below w.heap.size w w' := by
  go_enter Try.func12, Try.ntmps12
  go_wp2
  refine bodyPost_ret (v := .agg #[.int .i64 k, .bool x, .bool y, .string t]) (by simp [results, Try.results12, go_sem]) rfl ⟨rfl, ?_⟩
  exact (((Below.refl _ _).alloc (Nat.le_refl _) _).alloc (by simp) _).alloc (by simp; omega) _
set_option maxHeartbeats 400000 in
theorem szFg (k : Int) (x y : Bool) (t : ByteArray) (w : World) (ht : t.size ≤ maxLen) (m : Nat) (hm : m ≤ 1048576) :
    Calls Try.prog 10 #[.agg #[.int .i64 k, .bool x, .bool y, .string t], .int .i64 m] w fun e w' => e = .returned (.int .i64 (if t.size ≤ m then (m : Int) - (t.size : Int) else -1)) ∧ Below w.heap.size w w' := by
  unfold maxLen at ht
  by_cases h : t.size ≤ m
  · rw [if_pos h]
    have d1 : ¬ ((m : Int) - (t.size : Int) < 0) := by omega
    go_enter Try.func10, Try.ntmps10
    go_wp2
    all_goals first | (exfalso; omega) | (go_ret; exact ⟨rfl, (Below.refl _ _).alloc (Nat.le_refl _) _⟩)
  · rw [if_neg h]
    have d1 : (m : Int) - (t.size : Int) < 0 := by omega
    go_enter Try.func10, Try.ntmps10
    go_wp2
    all_goals first | (exfalso; omega) | (go_ret; exact ⟨rfl, (Below.refl _ _).alloc (Nat.le_refl _) _⟩)
end Go.Proofs.Ytcanpnbpofdpcaa
