/- The law's own copy of a Config; what lay in memory stands. -/
import Derived.Test.YtakbldleomhggaaCfg
import Derived.Test.YtakbldleomhggaaRow6
namespace Go.Proofs.Ytakbldleomhggaa
open Go.RowKit
set_option maxHeartbeats 1000000 in
theorem toCfg (m a g : Int) (p c d : Bool) (w : World) :
    Calls Try.prog 18 #[.agg #[.int .i64 m, .int .i64 a, .int .i64 g, .bool p, .bool c, .bool d]] w fun e w' => e = .returned (.agg #[.int .i64 m, .int .i64 a, .int .i64 g, .bool p, .bool c, .bool d]) ∧ Below w.heap.size w w' := by
  go_enter Try.func18, Try.ntmps18
  go_wp2
  refine bodyPost_ret (v := .agg #[.int .i64 m, .int .i64 a, .int .i64 g, .bool p, .bool c, .bool d]) (by simp [results, Try.results18, go_sem]) rfl ⟨rfl, ?_⟩
  exact (((Below.refl _ _).alloc (Nat.le_refl _) _).alloc (by simp) _).alloc (by simp; omega) _
end Go.Proofs.Ytakbldleomhggaa
