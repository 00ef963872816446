/- The law's word on two parts that are alike; what lay in memory stands. -/
import Derived.Test.YtcanpnbpofdpcaaBase
namespace Go.Proofs.Ytcanpnbpofdpcaa
open Go.RowKit
set_option maxHeartbeats 400000 in
theorem eqFg (k : Int) (x y : Bool) (t : ByteArray) (w : World) :
    Calls Try.prog 46 #[.agg #[.int .i64 k, .bool x, .bool y, .string t], .agg #[.int .i64 k, .bool x, .bool y, .string t]] w fun e w' => e = .returned (.bool true) ∧ Below w.heap.size w w' := by
  go_enter Try.func46, Try.ntmps46
  go_wp2
  go_ret
  exact ⟨rfl, ((Below.refl _ _).alloc (Nat.le_refl _) _).alloc (by simp) _⟩
end Go.Proofs.Ytcanpnbpofdpcaa
