/- Good, the model's, of a text of at most 8000 bytes; what lay in memory stands. -/
import Derived.Test.YtillpfcldehfdaaDoorGoodImpl
namespace Go.Proofs.YtillpfcldehfdaaDoor
open Go.RowKit
set_option maxHeartbeats 400000 in
theorem many (b : Bool) (w : World) : Calls Tryd.prog 84 #[.bool b] w fun e w' => e = .returned (.int .i64 (if b then 4 else 2)) ∧ w' = w := by
  cases b
  all_goals
    go_enter Tryd.func84, Tryd.ntmps84
    go_wp2
    go_ret
    exact ⟨rfl, rfl⟩
theorem many' (b : Bool) (w : World) : Calls Tryd.prog 84 #[.bool b] w fun e w' => e = .returned (.int .i64 (tailN b : Nat)) ∧ w' = w := by
  have := many b w
  cases b
  · exact this
  · exact this
set_option maxHeartbeats 1000000 in
theorem specGood_at (t : ByteArray) (b : Bool) (w : World) (k : Nat) (hk : t.size = k + tailN b) (h8 : t.size ≤ 8000) :
    Calls Tryd.prog 85 #[.string t, .bool b] w fun e w' => e = .returned (.bool ((tailV (t.extract 0 k) b).toList == (t.extract k t.size).toList)) ∧ Below w.heap.size w w' := by
  have hkl : k ≤ t.size := by omega
  have HC : Hid (∀ w, Calls Tryd.prog 49 #[.string (t.extract 0 k), .bool b] w fun e w' => e = .returned (.string (tailV (t.extract 0 k) b)) ∧ Below w.heap.size w w') := by
    refine hide fun w => ?_
    rw [show tailV (t.extract 0 k) b = tailB (t.extract 0 k).data.toList b from if_pos (by rw [extract_size t k hkl]; omega)]
    exact specTail (t.extract 0 k) b w (by rw [extract_size t k hkl]; unfold maxLen; omega)
  have hs := many' b
  have hc4 := tailN_le b
  generalize tailN b = c at *
  have hkk : (t.size : Int) - (c : Int) = (k : Int) := by omega
  have hki : (k : Int) ≤ (t.size : Int) := by omega
  have hk0 : decide ((0 : Int) ≤ (k : Int)) = true := decide_eq_true (by omega)
  have HS := hide hs
  clear hs hk
  generalize tailV (t.extract 0 k) b = V at *
  go_enter Tryd.func85, Tryd.ntmps85
  go_wp2_with fail
  refine (unhide HS _).mono ?_
  rintro e w1 ⟨rfl, rfl⟩
  go_wp2_with fail
  go_region_held (fun _ => True) (trivial) (first
    | (go_at_call 49; refine (unhide HC _).mono ?_; rintro e w2 ⟨rfl, hb2⟩))
  go_wp2
  go_ret
  exact ⟨rfl, (Below.refl _ _).drew.trans hb2⟩

set_option maxHeartbeats 400000 in
theorem specGood_no (t : ByteArray) (b : Bool) (w : World) (h : t.size < tailN b) :
    Calls Tryd.prog 85 #[.string t, .bool b] w fun e w' => e = .returned (.bool false) ∧ Below w.heap.size w w' := by
  have hs := many' b
  have hc4 := tailN_le b
  generalize tailN b = c at *
  have HS := hide hs
  clear hs
  obtain ⟨z, hz⟩ : ∃ z : Int, (t.size : Int) - (c : Int) = z := ⟨_, rfl⟩
  have hd : decide ((0 : Int) ≤ z) = false := decide_eq_false (by omega)
  have hz1 : -4 ≤ z := by omega
  have hz2 : z < 0 := by omega
  clear h
  go_enter Tryd.func85, Tryd.ntmps85
  go_wp2_with fail
  refine (unhide HS _).mono ?_
  rintro e w1 ⟨rfl, rfl⟩
  go_wp2_with fail
  go_quiet (fail)
  go_wp2
  go_ret
  exact ⟨rfl, rfl, rfl, rfl, Nat.le_refl _, fun _ _ => rfl⟩

end Go.Proofs.YtillpfcldehfdaaDoor
