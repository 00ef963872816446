/- Is a Config right: the program's and the model's walks; what lay in memory stands. -/
import Derived.Test.YtakbldleomhggaaBase
namespace Go.Proofs.Ytakbldleomhggaa
open Go.RowKit
/-- Is a number from lo to hi. -/
def within (lo hi x : Int) : Bool := decide (lo ≤ x) && decide (x ≤ hi)
/-- Is a Config of these numbers right. -/
def cfgOk (m a g : Int) : Bool := within 64 300 m && (within 0 4294967295 a && within 0 4294967295 g)
set_option maxHeartbeats 400000 in
theorem mruRight (x : Int) (w : World) : Calls Try.prog 66 #[.int .i64 x] w fun e w' => e = .returned (.bool (within 64 300 x)) ∧ w' = w := by
  by_cases h1 : 64 ≤ x
  · have d1 : decide ((64 : Int) ≤ x) = true := decide_eq_true h1
    by_cases h2 : x ≤ 300
    · have d2 : decide (x ≤ 300) = true := decide_eq_true h2
      rw [show within 64 300 x = true by simp [within, h1, h2]]
      go_enter Try.func66, Try.ntmps66
      go_wp2
      go_ret
      exact ⟨rfl, rfl⟩
    · have d2 : decide (x ≤ 300) = false := decide_eq_false h2
      rw [show within 64 300 x = false by simp [within, h2]]
      go_enter Try.func66, Try.ntmps66
      go_wp2
      go_ret
      exact ⟨rfl, rfl⟩
  · have d1 : decide ((64 : Int) ≤ x) = false := decide_eq_false h1
    rw [show within 64 300 x = false by simp [within, h1]]
    go_enter Try.func66, Try.ntmps66
    go_wp2
    go_ret
    exact ⟨rfl, rfl⟩
set_option maxHeartbeats 400000 in
theorem accmRight (x : Int) (w : World) : Calls Try.prog 67 #[.int .i64 x] w fun e w' => e = .returned (.bool (within 0 4294967295 x)) ∧ w' = w := by
  by_cases h1 : 0 ≤ x
  · have d1 : decide ((0 : Int) ≤ x) = true := decide_eq_true h1
    by_cases h2 : x ≤ 4294967295
    · have d2 : decide (x ≤ 4294967295) = true := decide_eq_true h2
      rw [show within 0 4294967295 x = true by simp [within, h1, h2]]
      go_enter Try.func67, Try.ntmps67
      go_wp2
      go_ret
      exact ⟨rfl, rfl⟩
    · have d2 : decide (x ≤ 4294967295) = false := decide_eq_false h2
      rw [show within 0 4294967295 x = false by simp [within, h2]]
      go_enter Try.func67, Try.ntmps67
      go_wp2
      go_ret
      exact ⟨rfl, rfl⟩
  · have d1 : decide ((0 : Int) ≤ x) = false := decide_eq_false h1
    rw [show within 0 4294967295 x = false by simp [within, h1]]
    go_enter Try.func67, Try.ntmps67
    go_wp2
    go_ret
    exact ⟨rfl, rfl⟩
set_option maxHeartbeats 400000 in
theorem specIs (x : Int) (lo hi : Int) (w : World) : Calls Try.prog 51 #[.int .i64 x, .int .i64 lo, .int .i64 hi] w fun e w' => e = .returned (.bool (within lo hi x)) ∧ w' = w := by
  by_cases h1 : lo ≤ x
  · have d1 : decide ((lo : Int) ≤ x) = true := decide_eq_true h1
    by_cases h2 : x ≤ hi
    · have d2 : decide (x ≤ hi) = true := decide_eq_true h2
      rw [show within lo hi x = true by simp [within, h1, h2]]
      go_enter Try.func51, Try.ntmps51
      go_wp2
      go_ret
      exact ⟨rfl, rfl⟩
    · have d2 : decide (x ≤ hi) = false := decide_eq_false h2
      rw [show within lo hi x = false by simp [within, h2]]
      go_enter Try.func51, Try.ntmps51
      go_wp2
      go_ret
      exact ⟨rfl, rfl⟩
  · have d1 : decide ((lo : Int) ≤ x) = false := decide_eq_false h1
    rw [show within lo hi x = false by simp [within, h1]]
    go_enter Try.func51, Try.ntmps51
    go_wp2
    go_ret
    exact ⟨rfl, rfl⟩
set_option maxHeartbeats 400000 in
theorem specAccm (x : Int) (w : World) : Calls Try.prog 62 #[.int .i64 x] w fun e w' => e = .returned (.bool (within 0 4294967295 x)) ∧ w' = w := by
  have C := hide (specIs x 0 4294967295 w)
  generalize within 0 4294967295 x = ok at *
  go_enter Try.func62, Try.ntmps62
  go_wp2_with (first
    | (go_at_call 51; refine (unhide C).mono ?_; rintro e w1 ⟨rfl, rfl⟩))
  go_ret
  exact ⟨rfl, rfl⟩
theorem cfgOk_eq (m a g : Int) (h1 : within 64 300 m = true) (h2 : within 0 4294967295 a = true) : cfgOk m a g = within 0 4294967295 g := by
  unfold cfgOk
  rw [h1, h2, Bool.true_and, Bool.true_and]
set_option maxHeartbeats 1000000 in
theorem implCfg (m a g : Int) (p c d : Bool) (w : World) : Calls Try.prog 44 #[.agg #[.int .i64 m, .int .i64 a, .int .i64 g, .bool p, .bool c, .bool d]] w fun e w' => e = .returned (.bool (cfgOk m a g)) ∧ Below w.heap.size w w' := by
  have C1 := hide fun v => mruRight m v
  have C2 := hide fun v => accmRight a v
  by_cases h1 : within 64 300 m = true
  · by_cases h2 : within 0 4294967295 a = true
    · rw [cfgOk_eq m a g h1 h2]
      rw [h1] at C1
      rw [h2] at C2
      by_cases h3 : 0 ≤ g
      · have d1 : decide ((0 : Int) ≤ g) = true := decide_eq_true h3
        by_cases h4 : g ≤ 4294967295
        · have d2 : decide (g ≤ 4294967295) = true := decide_eq_true h4
          rw [show within 0 4294967295 g = true by simp [within, h3, h4]]
          go_enter Try.func44, Try.ntmps44
          go_wp2_with (first
            | (go_at_call 66; refine (unhide C1 _).mono ?_; rintro e w1 ⟨rfl, rfl⟩)
            | (go_at_call 67; refine (unhide C2 _).mono ?_; rintro e w2 ⟨rfl, rfl⟩))
          go_ret
          exact ⟨rfl, (Below.refl _ _).alloc (Nat.le_refl _) _⟩
        · have d2 : decide (g ≤ 4294967295) = false := decide_eq_false h4
          rw [show within 0 4294967295 g = false by simp [within, h4]]
          go_enter Try.func44, Try.ntmps44
          go_wp2_with (first
            | (go_at_call 66; refine (unhide C1 _).mono ?_; rintro e w1 ⟨rfl, rfl⟩)
            | (go_at_call 67; refine (unhide C2 _).mono ?_; rintro e w2 ⟨rfl, rfl⟩))
          go_ret
          exact ⟨rfl, (Below.refl _ _).alloc (Nat.le_refl _) _⟩
      · have d1 : decide ((0 : Int) ≤ g) = false := decide_eq_false h3
        rw [show within 0 4294967295 g = false by simp [within, h3]]
        go_enter Try.func44, Try.ntmps44
        go_wp2_with (first
          | (go_at_call 66; refine (unhide C1 _).mono ?_; rintro e w1 ⟨rfl, rfl⟩)
          | (go_at_call 67; refine (unhide C2 _).mono ?_; rintro e w2 ⟨rfl, rfl⟩))
        go_ret
        exact ⟨rfl, (Below.refl _ _).alloc (Nat.le_refl _) _⟩
    · rw [Bool.not_eq_true] at h2
      rw [show cfgOk m a g = false by simp [cfgOk, h2]]
      rw [h1] at C1
      rw [h2] at C2
      go_enter Try.func44, Try.ntmps44
      go_wp2_with (first
        | (go_at_call 66; refine (unhide C1 _).mono ?_; rintro e w1 ⟨rfl, rfl⟩)
        | (go_at_call 67; refine (unhide C2 _).mono ?_; rintro e w2 ⟨rfl, rfl⟩))
      go_ret
      exact ⟨rfl, (Below.refl _ _).alloc (Nat.le_refl _) _⟩
  · rw [Bool.not_eq_true] at h1
    rw [show cfgOk m a g = false by simp [cfgOk, h1]]
    rw [h1] at C1
    clear C2
    go_enter Try.func44, Try.ntmps44
    go_wp2_with (first
      | (go_at_call 66; refine (unhide C1 _).mono ?_; rintro e w1 ⟨rfl, rfl⟩))
    go_ret
    exact ⟨rfl, (Below.refl _ _).alloc (Nat.le_refl _) _⟩
set_option maxHeartbeats 1000000 in
theorem specCfg (m a g : Int) (p c d : Bool) (w : World) : Calls Try.prog 42 #[.agg #[.int .i64 m, .int .i64 a, .int .i64 g, .bool p, .bool c, .bool d]] w fun e w' => e = .returned (.bool (cfgOk m a g)) ∧ Below w.heap.size w w' := by
  have C1 := hide fun v => specIs m 64 300 v
  have C2 := hide fun v => specAccm a v
  have C3 := hide fun v => specIs g 0 4294967295 v
  unfold cfgOk
  generalize within 64 300 m = b1 at *
  generalize within 0 4294967295 a = b2 at *
  generalize within 0 4294967295 g = b3 at *
  cases b1
  · go_enter Try.func42, Try.ntmps42
    go_wp2_with fail
    refine (unhide C1 _).mono ?_
    rintro e w1 ⟨rfl, rfl⟩
    go_wp2
    go_ret
    exact ⟨rfl, (Below.refl _ _).alloc (Nat.le_refl _) _⟩
  cases b2
  · go_enter Try.func42, Try.ntmps42
    go_wp2_with fail
    refine (unhide C1 _).mono ?_
    rintro e w1 ⟨rfl, rfl⟩
    go_wp2_with fail
    refine (unhide C2 _).mono ?_
    rintro e w2 ⟨rfl, rfl⟩
    go_wp2
    go_ret
    exact ⟨rfl, (Below.refl _ _).alloc (Nat.le_refl _) _⟩
  · go_enter Try.func42, Try.ntmps42
    go_wp2_with fail
    refine (unhide C1 _).mono ?_
    rintro e w1 ⟨rfl, rfl⟩
    go_wp2_with fail
    refine (unhide C2 _).mono ?_
    rintro e w2 ⟨rfl, rfl⟩
    go_wp2_with fail
    refine (unhide C3 _).mono ?_
    rintro e w3 ⟨rfl, rfl⟩
    go_wp2
    go_ret
    exact ⟨rfl, (Below.refl _ _).alloc (Nat.le_refl _) _⟩
end Go.Proofs.Ytakbldleomhggaa
