/- Is a number a protocol: the program's and the model's walks; memory stands as it was. -/
import Derived.Test.YteffbodinbmliaaInts
import Derived.Test.YteffbodinbmliaaPp
namespace Go.Proofs.Yteffbodinbmliaa
open Go.RowKit
theorem and1 (k : Nat) (h : k < 4294967296) : bits .and .i64 (k : Int) 1 = ((k % 2 : Nat) : Int) := by
  have h' := i64_and_nat k 1 h (by decide)
  rw [nat_mask1] at h'
  exact h'
/-- The ways of a number: below 0, too great, even, of an odd upper byte, or a protocol. -/
theorem proto_ways (x : Int) (P : Prop) (h1 : x < 0 → Pp.ok x = false → P) (h2 : 0 ≤ x → 65535 < x → Pp.ok x = false → P)
    (h3 : ∀ k : Nat, x = k → k < 65536 → k % 2 = 0 → Pp.ok x = false → P) (h4 : ∀ k : Nat, x = k → k < 65536 → k % 2 = 1 → k / 256 % 2 = 1 → Pp.ok x = false → P)
    (h5 : ∀ k : Nat, x = k → k < 65536 → k % 2 = 1 → k / 256 % 2 = 0 → Pp.ok x = true → P) : P := by
  by_cases a : 0 ≤ x
  · by_cases b : x ≤ 65535
    · obtain ⟨k, rfl⟩ : ∃ k : Nat, x = k := ⟨x.toNat, by omega⟩
      by_cases c : k % 2 = 1
      · by_cases d : k / 256 % 2 = 0
        · exact h5 k rfl (by omega) c d (decide_eq_true (by omega))
        · exact h4 k rfl (by omega) c (by omega) (decide_eq_false (by omega))
      · exact h3 k rfl (by omega) (by omega) (decide_eq_false (by omega))
    · exact h2 a (by omega) (decide_eq_false (by omega))
  · exact h1 (by omega) (decide_eq_false (by omega))
set_option maxHeartbeats 400000 in
theorem specIs (x : Int) (w : World) : Calls Try.prog 21 #[.int .i64 x, .int .i64 0, .int .i64 65535] w fun e w' => e = .returned (.bool (decide (0 ≤ x) && decide (x ≤ 65535))) ∧ w' = w := by
  by_cases h1 : 0 ≤ x
  · have d1 : decide ((0 : Int) ≤ x) = true := decide_eq_true h1
    rw [d1, Bool.true_and]
    go_enter Try.func21, Try.ntmps21
    go_wp2
    go_ret
    exact ⟨rfl, rfl⟩
  · have d1 : decide ((0 : Int) ≤ x) = false := decide_eq_false h1
    rw [d1, Bool.false_and]
    go_enter Try.func21, Try.ntmps21
    go_wp2
    go_ret
    exact ⟨rfl, rfl⟩
set_option maxHeartbeats 400000 in
theorem implProto (x : Int) (w : World) : Calls Try.prog 7 #[.int .i64 x] w fun e w' => e = .returned (.bool (Pp.ok x)) ∧ w' = w := by
  refine proto_ways x _ (fun a r => ?_) (fun a b r => ?_) (fun k e a b r => ?_) (fun k e a b c r => ?_) (fun k e a b c r => ?_)
  all_goals rw [r]; clear r
  · have d1 : decide ((0 : Int) ≤ x) = false := decide_eq_false (by omega)
    go_enter Try.func7, Try.ntmps7
    go_wp2
    go_ret
    exact ⟨rfl, rfl⟩
  · have d1 : decide ((0 : Int) ≤ x) = true := decide_eq_true a
    have d2 : decide (x ≤ 65535) = false := decide_eq_false (by omega)
    go_enter Try.func7, Try.ntmps7
    go_wp2
    go_ret
    exact ⟨rfl, rfl⟩
  all_goals
    subst e
    have d1 : decide ((0 : Int) ≤ (k : Int)) = true := decide_eq_true (by omega)
    have d2 : decide ((k : Int) ≤ 65535) = true := decide_eq_true (by omega)
    have e1 := and1 k (by omega)
    rw [b] at e1
  · go_enter Try.func7, Try.ntmps7
    go_wp2
    go_ret
    exact ⟨rfl, rfl⟩
  all_goals
    have e2 := and1 (k / 256) (by omega)
    rw [c] at e2
    go_enter Try.func7, Try.ntmps7
    go_wp2
    go_ret
    refine ⟨ret_bool ?_, rfl⟩
    rw [show ((k : Int) / 256) = ((k / 256 : Nat) : Int) by omega, e2]
    rfl
set_option maxHeartbeats 400000 in
theorem specProto (x : Int) (w : World) : Calls Try.prog 8 #[.int .i64 x] w fun e w' => e = .returned (.bool (Pp.ok x)) ∧ w' = w := by
  have c1 := specIs x w
  refine proto_ways x _ (fun a r => ?_) (fun a b r => ?_) (fun k e a b r => ?_) (fun k e a b c r => ?_) (fun k e a b c r => ?_)
  all_goals rw [r]; clear r
  · rw [show (decide ((0 : Int) ≤ x) && decide (x ≤ 65535)) = false by simp; omega] at c1
    go_enter Try.func8, Try.ntmps8
    go_wp2_with (first
      | (go_at_call 21; refine c1.mono ?_; rintro e w1 ⟨rfl, rfl⟩))
    go_ret
    exact ⟨rfl, rfl⟩
  · rw [show (decide ((0 : Int) ≤ x) && decide (x ≤ 65535)) = false by simp; omega] at c1
    go_enter Try.func8, Try.ntmps8
    go_wp2_with (first
      | (go_at_call 21; refine c1.mono ?_; rintro e w1 ⟨rfl, rfl⟩))
    go_ret
    exact ⟨rfl, rfl⟩
  all_goals
    subst e
    rw [show (decide ((0 : Int) ≤ (k : Int)) && decide ((k : Int) ≤ 65535)) = true by simp; omega] at c1
    have e1 : (k : Int) % 2 = ((k % 2 : Nat) : Int) := by omega
    rw [b] at e1
    go_enter Try.func8, Try.ntmps8
    go_wp2_with (first
      | (go_at_call 21; refine c1.mono ?_; rintro e w1 ⟨rfl, rfl⟩))
    go_ret
    refine ⟨ret_bool ?_, rfl⟩
    first
      | rfl
      | (rw [show (k : Int) / 256 % 2 = ((k / 256 % 2 : Nat) : Int) by omega, c]; rfl)
end Go.Proofs.Yteffbodinbmliaa
