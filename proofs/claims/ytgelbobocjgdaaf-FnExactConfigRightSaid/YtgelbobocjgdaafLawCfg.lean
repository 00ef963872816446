/- The law FnExactConfigRight walked: it returns true, and what lay in memory stands. -/
import Derived.Test.YtgelbobocjgdaafCfgArg
namespace Go.Proofs.Ytgelbobocjgdaaf
open Go.RowKit
set_option maxHeartbeats 400000 in
theorem lawCfg (m a g : Int) (p c d : Bool) (w : World) :
    Calls Try.prog 3 #[.agg #[.int .i64 m, .int .i64 a, .int .i64 g, .bool p, .bool c, .bool d]] w fun e w' => e = .returned (.bool true) ∧ Below w.heap.size w w' := by
  have CT := hide fun w => toCfg m a g p c d w
  have CM := hide fun w => specCfg m a g p c d w
  have CI := hide fun w => implCfg m a g p c d w
  generalize cfgOk m a g = V at *
  cases V
  all_goals
    go_enter Try.func3, Try.ntmps3
    go_wp2_with fail
    refine (unhide CT _).mono ?_
    rintro e w2 ⟨rfl, hb2⟩
    go_wp2_with fail
    refine (unhide CM _).mono ?_
    rintro e w3 ⟨rfl, hb3⟩
    have hbx : Below w.heap.size w w3 := ((Below.refl _ _).alloc (Nat.le_refl _) _).trans ((hb2.trans (hb3.mono hb2.size)).mono (by simp))
    have hcy : w3.heap[w.heap.size]? = some (.cells #[.int .i64 m, .int .i64 a, .int .i64 g, .bool p, .bool c, .bool d] 23) := by
      rw [(hb2.trans (hb3.mono hb2.size)).block w.heap.size (by simp)]; exact heap_alloc_last w _
    clear hb2 hb3
    obtain ⟨c0, c1, c2, c3, c4, c5⟩ := row6 hcy
    clear hcy
    go_wp2_with fail
    refine (unhide CT _).mono ?_
    rintro e w4 ⟨rfl, hb4⟩
    go_wp2_with fail
    refine (unhide CI _).mono ?_
    rintro e w5 ⟨rfl, hb5⟩
    go_wp2
    go_ret
    have hb35 := hb4.trans (hb5.mono hb4.size)
    exact ⟨rfl, hbx.trans (hb35.mono hbx.size)⟩
end Go.Proofs.Ytgelbobocjgdaaf
