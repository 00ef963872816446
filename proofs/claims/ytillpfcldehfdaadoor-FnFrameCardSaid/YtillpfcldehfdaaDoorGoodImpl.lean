/- Good, the program's: does a text of at most 8000 bytes, and of at least a Tail's, end with the Tail of what is ahead; what lay in memory stands; under the library's two tables as they are laid. -/
import Derived.Test.YtillpfcldehfdaaDoorTail
import Derived.Deep.RegionHeld
import Derived.Deep.QuietTactic
import Derived.BigQuiet
namespace Go.Proofs.YtillpfcldehfdaaDoor
open Go.RowKit
/-- A Tail's bytes. -/
def tailN (b : Bool) : Nat := if b then 4 else 2
theorem tailN_le (b : Bool) : tailN b ≤ 4 := by cases b <;> decide
theorem size' (b : Bool) (w : World) : Calls Tryd.prog 46 #[.bool b] w fun e w' => e = .returned (.int .i64 (tailN b : Nat)) ∧ w' = w := by
  have := tailSize b w
  cases b
  · exact this
  · exact this
theorem extract_size (t : ByteArray) (k : Nat) (h : k ≤ t.size) : (t.extract 0 k).size = k := by
  rw [ByteArray.size_extract]; omega

set_option maxHeartbeats 1000000 in
theorem implGood_at (t : ByteArray) (b : Bool) (w : World) (k : Nat) (hk : t.size = k + tailN b) (h8 : t.size ≤ 8000) (hT : Lib.Utf8Tabs 1 2 w) :
    Calls Tryd.prog 14 #[.string t, .bool b] w fun e w' => e = .returned (.bool ((t.extract k t.size).toList == (tailV (t.extract 0 k) b).toList)) ∧ Below w.heap.size w w' := by
  have hkl : k ≤ t.size := by omega
  have HC : Hid (∀ w, Lib.Utf8Tabs 1 2 w → Calls Tryd.prog 7 #[.string (t.extract 0 k), .bool b] w fun e w' => e = .returned (.string (tailV (t.extract 0 k) b)) ∧ Below w.heap.size w w') := by
    refine hide fun w hT => ?_
    exact implTailAll (t.extract 0 k) b w (by rw [extract_size t k hkl]; unfold maxLen; omega) hT
  have d1 : ¬ ((8000 : Int) < (t.size : Int)) := by omega
  have hs := size' b
  have hc4 := tailN_le b
  generalize tailN b = c at *
  have hkk : (t.size : Int) - (c : Int) = (k : Int) := by omega
  have hki : (k : Int) ≤ (t.size : Int) := by omega
  have HS := hide hs
  clear hs hk
  generalize tailV (t.extract 0 k) b = V at *
  go_enter Tryd.func14, Tryd.ntmps14
  go_wp2_with fail
  refine (unhide HS _).mono ?_
  rintro e w1 ⟨rfl, rfl⟩
  go_wp2_with fail
  go_region_held (fun _ => True) (trivial) (first
    | (go_at_call 7; refine (unhide HC _ ?_).mono ?_; exact Utf8Tabs_below hT ((Below.refl _ _).drew); rintro e w2 ⟨rfl, hb2⟩))
  go_wp2
  go_ret
  exact ⟨rfl, (Below.refl _ _).drew.trans hb2⟩

theorem implGood_no (t : ByteArray) (b : Bool) (w : World) (h : 8000 < t.size ∨ t.size < tailN b) (ht : t.size ≤ maxLen) :
    Calls Tryd.prog 14 #[.string t, .bool b] w fun e w' => e = .returned (.bool false) ∧ Below w.heap.size w w' := by
  unfold maxLen at ht
  have hs := size' b
  have hc4 := tailN_le b
  generalize tailN b = c at *
  have HS := hide hs
  clear hs
  by_cases h8 : 8000 < t.size
  · have d1 : (8000 : Int) < (t.size : Int) := by omega
    go_enter Tryd.func14, Tryd.ntmps14
    go_wp2_with fail
    refine (unhide HS _).mono ?_
    rintro e w1 ⟨rfl, rfl⟩
    go_wp2
    all_goals first | (exfalso; omega) | (go_ret; exact ⟨rfl, Below.refl _ _⟩)
  · have d1 : ¬ ((8000 : Int) < (t.size : Int)) := by omega
    have d2 : (t.size : Int) - (c : Int) < 0 := by omega
    clear h
    go_enter Tryd.func14, Tryd.ntmps14
    go_wp2_with fail
    refine (unhide HS _).mono ?_
    rintro e w1 ⟨rfl, rfl⟩
    go_wp2
    all_goals first | (exfalso; omega) | (go_ret; exact ⟨rfl, Below.refl _ _⟩)

/-- What Good answers. -/
def goodV (t : ByteArray) (b : Bool) : Bool :=
  if t.size ≤ 8000 ∧ tailN b ≤ t.size then (t.extract (t.size - tailN b) t.size).toList == (tailV (t.extract 0 (t.size - tailN b)) b).toList else false
theorem implGoodAll (t : ByteArray) (b : Bool) (w : World) (ht : t.size ≤ maxLen) (hT : Lib.Utf8Tabs 1 2 w) :
    Calls Tryd.prog 14 #[.string t, .bool b] w fun e w' => e = .returned (.bool (goodV t b)) ∧ Below w.heap.size w w' := by
  by_cases h : t.size ≤ 8000 ∧ tailN b ≤ t.size
  · rw [show goodV t b = _ from if_pos h]
    exact implGood_at t b w (t.size - tailN b) (by omega) h.1 hT
  · rw [show goodV t b = false from if_neg h]
    exact implGood_no t b w (by omega) ht
end Go.Proofs.YtillpfcldehfdaaDoor
