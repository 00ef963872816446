/- The law FnExactFrame walked: it returns true, and what lay in memory stands; under the library's two tables as they are laid. -/
import Derived.Test.YtfigahpkljihpadDoorFrame
namespace Go.Proofs.YtfigahpkljihpadDoor
open Go.RowKit
set_option maxHeartbeats 400000 in
theorem lawFrame (t : ByteArray) (x : Int) (b : Bool) (w : World) (ht : t.size ≤ maxLen) (hT : Lib.Utf8Tabs 0 1 w) :
    Calls Tryd.prog 3 #[.string t, .int .i64 x, .bool b] w fun e w' => e = .returned (.bool true) ∧ Below w.heap.size w w' := by
  have c1 := specFrameAll t x b w ht
  have C2 := hide fun w => implFrameAll t x b w ht
  unfold maxLen at ht
  generalize frameV t x b = V at *
  by_cases h1 : t.size ≤ 1048576
  · have d1 : ¬ ((1048576 : Int) < (t.size : Int)) := by omega
    go_enter Tryd.func3, Tryd.ntmps3
    go_wp2_with fail
    refine c1.mono ?_
    rintro e w1 ⟨rfl, hb1⟩
    go_wp2_with fail
    refine (unhide C2 w1 (Utf8Tabs_below hT hb1)).mono ?_
    rintro e w2 ⟨rfl, hb2⟩
    go_wp2
    go_ret
    exact ⟨rfl, hb1.trans (hb2.mono hb1.size)⟩
  · have d1 : (1048576 : Int) < (t.size : Int) := by omega
    go_enter Tryd.func3, Tryd.ntmps3
    go_wp2
    go_ret
    exact ⟨rfl, Below.refl _ _⟩
end Go.Proofs.YtfigahpkljihpadDoor
