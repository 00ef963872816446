/- Good, the program's and the model's: does a text of at most 8000 bytes, and of at least a Tail's, end with the Tail of what is ahead; then the law FnExactGood returns true and leaves what lay in memory; under the library's two tables as they are laid. -/
import Derived.Test.YtdjlkchdomllhacDoorTail
import Derived.Deep.RegionHeld
import Derived.Deep.QuietTactic
import Derived.BigQuiet
namespace Go.Proofs.YtdjlkchdomllhacDoor
open Go.RowKit
/-- A Tail's bytes. -/
def tailN (b : Bool) : Nat := if b then 4 else 2
theorem tailN_le (b : Bool) : tailN b ≤ 4 := by cases b <;> decide
theorem size' (b : Bool) (w : World) : Calls Tryd.prog 21 #[.bool b] w fun e w' => e = .returned (.int .i64 (tailN b : Nat)) ∧ w' = w := by
  have := tailSize b w
  cases b
  · exact this
  · exact this
theorem many' (b : Bool) (w : World) : Calls Tryd.prog 26 #[.bool b] w fun e w' => e = .returned (.int .i64 (tailN b : Nat)) ∧ w' = w := by
  have := many b w
  cases b
  · exact this
  · exact this
theorem extract_size (t : ByteArray) (k : Nat) (h : k ≤ t.size) : (t.extract 0 k).size = k := by
  rw [ByteArray.size_extract]; omega

set_option maxHeartbeats 1000000 in
theorem implGood_at (t : ByteArray) (b : Bool) (w : World) (k : Nat) (hk : t.size = k + tailN b) (h8 : t.size ≤ 8000) (hT : Lib.Utf8Tabs 0 1 w) :
    Calls Tryd.prog 14 #[.string t, .bool b] w fun e w' => e = .returned (.bool ((t.extract k t.size).toList == (tailV (t.extract 0 k) b).toList)) ∧ Below w.heap.size w w' := by
  have hkl : k ≤ t.size := by omega
  have HC : Hid (∀ w, Lib.Utf8Tabs 0 1 w → Calls Tryd.prog 12 #[.string (t.extract 0 k), .bool b] w fun e w' => e = .returned (.string (tailV (t.extract 0 k) b)) ∧ Below w.heap.size w w') := by
    refine hide fun w hT => ?_
    exact implTailAll (t.extract 0 k) b w (by rw [extract_size t k hkl]; unfold maxLen; omega) hT
  have d1 : ¬ ((8000 : Int) < (t.size : Int)) := by omega
  have hs := size' b
  have hc4 := tailN_le b
  generalize tailN b = c at *
  have hkk : (t.size : Int) - (c : Int) = (k : Int) := by omega
  have hki : (k : Int) ≤ (t.size : Int) := by omega
  have HS := hide hs
  clear hs hk
  generalize tailV (t.extract 0 k) b = V at *
  go_enter Tryd.func14, Tryd.ntmps14
  go_wp2_with fail
  refine (unhide HS _).mono ?_
  rintro e w1 ⟨rfl, rfl⟩
  go_wp2_with fail
  go_region_held (fun _ => True) (trivial) (first
    | (go_at_call 12; refine (unhide HC _ ?_).mono ?_; exact Utf8Tabs_below hT ((Below.refl _ _).drew); rintro e w2 ⟨rfl, hb2⟩))
  go_wp2
  go_ret
  exact ⟨rfl, (Below.refl _ _).drew.trans hb2⟩

theorem implGood_no (t : ByteArray) (b : Bool) (w : World) (h : 8000 < t.size ∨ t.size < tailN b) (ht : t.size ≤ maxLen) :
    Calls Tryd.prog 14 #[.string t, .bool b] w fun e w' => e = .returned (.bool false) ∧ Below w.heap.size w w' := by
  unfold maxLen at ht
  have hs := size' b
  have hc4 := tailN_le b
  generalize tailN b = c at *
  have HS := hide hs
  clear hs
  by_cases h8 : 8000 < t.size
  · have d1 : (8000 : Int) < (t.size : Int) := by omega
    go_enter Tryd.func14, Tryd.ntmps14
    go_wp2_with fail
    refine (unhide HS _).mono ?_
    rintro e w1 ⟨rfl, rfl⟩
    go_wp2
    all_goals first | (exfalso; omega) | (go_ret; exact ⟨rfl, Below.refl _ _⟩)
  · have d1 : ¬ ((8000 : Int) < (t.size : Int)) := by omega
    have d2 : (t.size : Int) - (c : Int) < 0 := by omega
    clear h
    go_enter Tryd.func14, Tryd.ntmps14
    go_wp2_with fail
    refine (unhide HS _).mono ?_
    rintro e w1 ⟨rfl, rfl⟩
    go_wp2
    all_goals first | (exfalso; omega) | (go_ret; exact ⟨rfl, Below.refl _ _⟩)

set_option maxHeartbeats 1000000 in
theorem specGood_at (t : ByteArray) (b : Bool) (w : World) (k : Nat) (hk : t.size = k + tailN b) (h8 : t.size ≤ 8000) :
    Calls Tryd.prog 22 #[.string t, .bool b] w fun e w' => e = .returned (.bool ((tailV (t.extract 0 k) b).toList == (t.extract k t.size).toList)) ∧ Below w.heap.size w w' := by
  have hkl : k ≤ t.size := by omega
  have HC : Hid (∀ w, Calls Tryd.prog 19 #[.string (t.extract 0 k), .bool b] w fun e w' => e = .returned (.string (tailV (t.extract 0 k) b)) ∧ Below w.heap.size w w') := by
    refine hide fun w => ?_
    rw [show tailV (t.extract 0 k) b = tailB (t.extract 0 k).data.toList b from if_pos (by rw [extract_size t k hkl]; omega)]
    exact specTail (t.extract 0 k) b w (by rw [extract_size t k hkl]; unfold maxLen; omega)
  have hs := many' b
  have hc4 := tailN_le b
  generalize tailN b = c at *
  have hkk : (t.size : Int) - (c : Int) = (k : Int) := by omega
  have hki : (k : Int) ≤ (t.size : Int) := by omega
  have hk0 : decide ((0 : Int) ≤ (k : Int)) = true := decide_eq_true (by omega)
  have HS := hide hs
  clear hs hk
  generalize tailV (t.extract 0 k) b = V at *
  go_enter Tryd.func22, Tryd.ntmps22
  go_wp2_with fail
  refine (unhide HS _).mono ?_
  rintro e w1 ⟨rfl, rfl⟩
  go_wp2_with fail
  go_region_held (fun _ => True) (trivial) (first
    | (go_at_call 19; refine (unhide HC _).mono ?_; rintro e w2 ⟨rfl, hb2⟩))
  go_wp2
  go_ret
  exact ⟨rfl, (Below.refl _ _).drew.trans hb2⟩

set_option maxHeartbeats 400000 in
theorem specGood_no (t : ByteArray) (b : Bool) (w : World) (h : t.size < tailN b) :
    Calls Tryd.prog 22 #[.string t, .bool b] w fun e w' => e = .returned (.bool false) ∧ Below w.heap.size w w' := by
  have hs := many' b
  have hc4 := tailN_le b
  generalize tailN b = c at *
  have HS := hide hs
  clear hs
  obtain ⟨z, hz⟩ : ∃ z : Int, (t.size : Int) - (c : Int) = z := ⟨_, rfl⟩
  have hd : decide ((0 : Int) ≤ z) = false := decide_eq_false (by omega)
  have hz1 : -4 ≤ z := by omega
  have hz2 : z < 0 := by omega
  clear h
  go_enter Tryd.func22, Tryd.ntmps22
  go_wp2_with fail
  refine (unhide HS _).mono ?_
  rintro e w1 ⟨rfl, rfl⟩
  go_wp2_with fail
  go_quiet (fail)
  go_wp2
  go_ret
  exact ⟨rfl, rfl, rfl, rfl, Nat.le_refl _, fun _ _ => rfl⟩

/-- What Good answers. -/
def goodV (t : ByteArray) (b : Bool) : Bool :=
  if t.size ≤ 8000 ∧ tailN b ≤ t.size then (t.extract (t.size - tailN b) t.size).toList == (tailV (t.extract 0 (t.size - tailN b)) b).toList else false
theorem implGoodAll (t : ByteArray) (b : Bool) (w : World) (ht : t.size ≤ maxLen) (hT : Lib.Utf8Tabs 0 1 w) :
    Calls Tryd.prog 14 #[.string t, .bool b] w fun e w' => e = .returned (.bool (goodV t b)) ∧ Below w.heap.size w w' := by
  by_cases h : t.size ≤ 8000 ∧ tailN b ≤ t.size
  · rw [show goodV t b = _ from if_pos h]
    exact implGood_at t b w (t.size - tailN b) (by omega) h.1 hT
  · rw [show goodV t b = false from if_neg h]
    exact implGood_no t b w (by omega) ht
set_option maxHeartbeats 400000 in
theorem specGoodAll (t : ByteArray) (b : Bool) (w : World) (ht : t.size ≤ maxLen) :
    Calls Tryd.prog 13 #[.string t, .bool b] w fun e w' => e = .returned (.bool (goodV t b)) ∧ Below w.heap.size w w' := by
  unfold maxLen at ht
  by_cases h8 : t.size ≤ 8000
  · have c : Calls Tryd.prog 22 #[.string t, .bool b] w fun e w' => e = .returned (.bool (goodV t b)) ∧ Below w.heap.size w w' := by
      by_cases h : tailN b ≤ t.size
      · rw [show goodV t b = _ from if_pos ⟨h8, h⟩, Bool.beq_comm]
        exact specGood_at t b w (t.size - tailN b) (by omega) h8
      · rw [show goodV t b = false from if_neg fun k => h k.2]
        exact specGood_no t b w (by omega)
    have d1 : decide ((t.size : Int) ≤ 8000) = true := decide_eq_true (by omega)
    generalize goodV t b = V at *
    go_enter Tryd.func13, Tryd.ntmps13
    go_wp2_with fail
    refine c.mono ?_
    rintro e w1 ⟨rfl, hb1⟩
    go_wp2
    go_ret
    exact ⟨rfl, hb1⟩
  · have d1 : decide ((t.size : Int) ≤ 8000) = false := decide_eq_false (by omega)
    rw [show goodV t b = false from if_neg fun k => h8 k.1]
    go_enter Tryd.func13, Tryd.ntmps13
    go_wp2
    all_goals first | (exfalso; omega) | (go_ret; exact ⟨rfl, Below.refl _ _⟩)
set_option maxHeartbeats 400000 in
theorem lawGood (t : ByteArray) (b : Bool) (w : World) (ht : t.size ≤ maxLen) (hT : Lib.Utf8Tabs 0 1 w) :
    Calls Tryd.prog 6 #[.string t, .bool b] w fun e w' => e = .returned (.bool true) ∧ Below w.heap.size w w' := by
  have ht' := ht
  unfold maxLen at ht
  by_cases h1 : t.size ≤ 1048576
  · have d1 : ¬ ((1048576 : Int) < (t.size : Int)) := by omega
    have c1 := specGoodAll t b w ht'
    have C2 := hide fun w => implGoodAll t b w ht'
    generalize goodV t b = V at *
    cases V
    all_goals
      go_enter Tryd.func6, Tryd.ntmps6
      go_wp2_with fail
      refine c1.mono ?_
      rintro e w1 ⟨rfl, hb1⟩
      go_wp2_with fail
      refine (unhide C2 w1 (Utf8Tabs_below hT hb1)).mono ?_
      rintro e w2 ⟨rfl, hb2⟩
      go_wp2
      go_ret
      exact ⟨rfl, hb1.trans (hb2.mono hb1.size)⟩
  · have d1 : (1048576 : Int) < (t.size : Int) := by omega
    go_enter Tryd.func6, Tryd.ntmps6
    go_wp2
    go_ret
    exact ⟨rfl, Below.refl _ _⟩
end Go.Proofs.YtdjlkchdomllhacDoor
