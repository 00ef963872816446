/- The law's own copy of a Config; what lay in memory stands. -/
import Derived.Test.YtkadbghglmlpkaaCfg
import Derived.Test.YtkadbghglmlpkaaRow6
namespace Go.Proofs.Ytkadbghglmlpkaa
open Go.RowKit
set_option maxHeartbeats 1000000 in
theorem toCfg (m a g : Int) (p c d : Bool) (w : World) :
    Calls Try.prog 6 #[.agg #[.int .i64 m, .int .i64 a, .int .i64 g, .bool p, .bool c, .bool d]] w fun e w' => e = .returned (.agg #[.int .i64 m, .int .i64 a, .int .i64 g, .bool p, .bool c, .bool d]) ∧ Below w.heap.size w w' := by
  go_enter Try.func6, Try.ntmps6
  go_wp2
  refine bodyPost_ret (v := .agg #[.int .i64 m, .int .i64 a, .int .i64 g, .bool p, .bool c, .bool d]) (by simp [results, Try.results6, go_sem]) rfl ⟨rfl, ?_⟩
  exact (((Below.refl _ _).alloc (Nat.le_refl _) _).alloc (by simp) _).alloc (by simp; omega) _
end Go.Proofs.Ytkadbghglmlpkaa
