/- The law FnExactPppPack walked: it returns true, and what lay in memory stands. -/
import Derived.Test.YteffbodinbmliadPackAll
namespace Go.Proofs.Yteffbodinbmliad
open Go.RowKit
set_option maxHeartbeats 400000 in
theorem lawPack (x : Int) (t : ByteArray) (a p : Bool) (w : World) (ht : t.size ≤ maxLen) :
    Calls Try.prog 6 #[.int .i64 x, .string t, .bool a, .bool p] w fun e w' => e = .returned (.bool true) ∧ Below w.heap.size w w' := by
  have c1 := specPackAll x t a p w ht
  have C2 := hide fun w => implPackAll x t a p w ht
  unfold maxLen at ht
  generalize packV x t a p = V at *
  by_cases h1 : t.size ≤ 1048576
  · have d1 : ¬ ((1048576 : Int) < (t.size : Int)) := by omega
    go_enter Try.func6, Try.ntmps6
    go_wp2_with fail
    refine c1.mono ?_
    rintro e w1 ⟨rfl, hb1⟩
    go_wp2_with fail
    refine (unhide C2 w1).mono ?_
    rintro e w2 ⟨rfl, hb2⟩
    go_wp2
    go_ret
    exact ⟨rfl, hb1.trans (hb2.mono hb1.size)⟩
  · have d1 : (1048576 : Int) < (t.size : Int) := by omega
    go_enter Try.func6, Try.ntmps6
    go_wp2
    go_ret
    exact ⟨rfl, Below.refl _ _⟩
end Go.Proofs.Yteffbodinbmliad
