/- The law FnExactHexRead walked: it returns true, and what lay in memory stands. -/
import Derived.Test.YtdhhkdkppcijnaaHxW
namespace Go.Proofs.Ytdhhkdkppcijnaa
open Go.RowKit
set_option maxHeartbeats 400000 in
theorem lawHr (t : ByteArray) (w : World) (ht : t.size ≤ maxLen) :
    Calls Try.prog 5 #[.string t] w fun e w' => e = .returned (.bool true) ∧ Below w.heap.size w w' := by
  have c1 := sHexR t w ht
  have C2 := hide fun w => iHexR t w ht
  unfold maxLen at ht
  generalize hexRV t = z at *
  by_cases h1 : t.size ≤ 1048576
  · have d1 : ¬ ((1048576 : Int) < (t.size : Int)) := by omega
    go_enter Try.func5, Try.ntmps5
    go_wp2_with fail
    refine c1.mono ?_
    rintro e w1 ⟨rfl, hb1⟩
    go_wp2_with fail
    refine (unhide C2 _).mono ?_
    rintro e w2 ⟨rfl, hb2⟩
    have hb3 := hb1.trans (hb2.mono hb1.size)
    go_wp2
    go_ret
    exact ⟨rfl, hb3⟩
  · have d1 : (1048576 : Int) < (t.size : Int) := by omega
    go_enter Try.func5, Try.ntmps5
    go_wp2
    go_ret
    exact ⟨rfl, Below.refl _ _⟩
end Go.Proofs.Ytdhhkdkppcijnaa
