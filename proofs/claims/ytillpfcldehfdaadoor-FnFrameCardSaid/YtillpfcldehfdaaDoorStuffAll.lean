/- Stuff, the model's, of any text and number; what lay in memory stands. -/
import Derived.Test.YtillpfcldehfdaaDoorStuff
namespace Go.Proofs.YtillpfcldehfdaaDoor
open Go.RowKit
set_option maxHeartbeats 400000 in
theorem specStuffAll (t : ByteArray) (x : Int) (w : World) (ht : t.size ≤ maxLen) :
    Calls Tryd.prog 20 #[.string t, .int .i64 x] w fun e w' => e = .returned (.string (stuffV t x)) ∧ Below w.heap.size w w' := by
  unfold maxLen at ht
  have c1 := specAccm x w
  by_cases h8 : t.size ≤ 8000
  · have d0 : ¬ ((8000 : Int) < (t.size : Int)) := by omega
    by_cases hx : accOk x = true
    · obtain ⟨a, rfl, ha⟩ := accOk_get hx
      rw [show stuffV t a = _ from if_pos ⟨h8, hx⟩, Int.toNat_natCast]
      rw [hx] at c1
      have c2 := specStuff t a w ha (by omega)
      generalize txt (Hd.stuff a t.data.toList) = V at *
      go_enter Tryd.func20, Tryd.ntmps20
      go_wp2_with (first
        | (go_at_call 55; refine c1.mono ?_; rintro e w1 ⟨rfl, rfl⟩)
        | (go_at_call 56; refine c2.mono ?_; rintro e w2 ⟨rfl, hb2⟩))
      go_ret
      exact ⟨rfl, hb2⟩
    · rw [show stuffV t x = _ from if_neg fun h => hx h.2]
      rw [Bool.not_eq_true] at hx
      rw [hx] at c1
      go_enter Tryd.func20, Tryd.ntmps20
      go_wp2_with (first
        | (go_at_call 55; refine c1.mono ?_; rintro e w1 ⟨rfl, rfl⟩))
      go_ret
      exact ⟨rfl, Below.refl _ _⟩
  · rw [show stuffV t x = _ from if_neg fun h => h8 h.1]
    have d0 : (8000 : Int) < (t.size : Int) := by omega
    go_enter Tryd.func20, Tryd.ntmps20
    go_wp2
    go_ret
    exact ⟨rfl, Below.refl _ _⟩
end Go.Proofs.YtillpfcldehfdaaDoor
