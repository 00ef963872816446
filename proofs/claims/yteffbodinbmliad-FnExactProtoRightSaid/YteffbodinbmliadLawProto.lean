/- The law FnExactProtoRight walked: it returns true, and memory stands as it was. -/
import Derived.Test.YteffbodinbmliadProto
namespace Go.Proofs.Yteffbodinbmliad
open Go.RowKit
set_option maxHeartbeats 400000 in
theorem lawProto (x : Int) (w : World) : Calls Try.prog 5 #[.int .i64 x] w fun e w' => e = .returned (.bool true) ∧ Below w.heap.size w w' := by
  have c1 := specProto x w
  have c2 := implProto x w
  generalize Pp.ok x = b at *
  cases b
  all_goals
    go_enter Try.func5, Try.ntmps5
    go_wp2_with fail
    refine c1.mono ?_
    rintro e w1 ⟨rfl, hw⟩
    replace hw := hw.symm
    subst hw
    go_wp2_with fail
    refine c2.mono ?_
    rintro e w2 ⟨rfl, hw⟩
    replace hw := hw.symm
    subst hw
    go_wp2
    go_ret
    exact ⟨rfl, Below.refl _ _⟩
end Go.Proofs.Yteffbodinbmliad
