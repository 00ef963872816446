/- The law's word on two numbered frames that are alike; what lay in memory stands. -/
import Derived.Test.YtckebgalfomonaaBase
namespace Go.Proofs.Ytckebgalfomonaa
open Go.RowKit
set_option maxHeartbeats 400000 in
theorem eqNb (k x y : Int) (t : ByteArray) (w : World) :
    Calls Try.prog 53 #[.agg #[.int .i64 k, .int .i64 x, .int .i64 y, .string t], .agg #[.int .i64 k, .int .i64 x, .int .i64 y, .string t]] w fun e w' => e = .returned (.bool true) ∧ Below w.heap.size w w' := by
  go_enter Try.func53, Try.ntmps53
  go_wp2
  go_ret
  exact ⟨rfl, ((Below.refl _ _).alloc (Nat.le_refl _) _).alloc (by simp) _⟩
end Go.Proofs.Ytckebgalfomonaa
