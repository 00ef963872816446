/- The law FnExactStuff walked: it returns true, and what lay in memory stands. -/
import Derived.Test.YtfigahpkljihpadStuff
namespace Go.Proofs.Ytfigahpkljihpad
open Go.RowKit
set_option maxHeartbeats 400000 in
theorem lawStuff (t : ByteArray) (x : Int) (w : World) (ht : t.size ≤ maxLen) :
    Calls Try.prog 3 #[.string t, .int .i64 x] w fun e w' => e = .returned (.bool true) ∧ Below w.heap.size w w' := by
  have c1 := specStuffAll t x w ht
  have C2 := hide fun w => implStuffAll t x w ht
  unfold maxLen at ht
  generalize stuffV t x = V at *
  by_cases h1 : t.size ≤ 1048576
  · have d1 : ¬ ((1048576 : Int) < (t.size : Int)) := by omega
    go_enter Try.func3, Try.ntmps3
    go_wp2_with fail
    refine c1.mono ?_
    rintro e w1 ⟨rfl, hb1⟩
    go_wp2_with fail
    refine (unhide C2 w1).mono ?_
    rintro e w2 ⟨rfl, hb2⟩
    go_wp2
    go_ret
    exact ⟨rfl, hb1.trans (hb2.mono hb1.size)⟩
  · have d1 : (1048576 : Int) < (t.size : Int) := by omega
    go_enter Try.func3, Try.ntmps3
    go_wp2
    go_ret
    exact ⟨rfl, Below.refl _ _⟩
end Go.Proofs.Ytfigahpkljihpad
