/- What each rule says of a number that is asked for: the code of the answer, and the number that would be good; what lay in memory stands. -/
import Derived.Test.YtkadbghglmlpkaaAsks
import Derived.Test.YtkadbghglmlpkaaCfg
import Derived.Test.YtkadbghglmlpkaaRepNum
namespace Go.Proofs.Ytkadbghglmlpkaa
open Go.RowKit
/-- The code: an ack where it is good. -/
def gc (b : Bool) (x : Int) : Int := if b then 2 else x
set_option maxHeartbeats 400000 in
theorem goodOr (b : Bool) (x : Int) (w : World) : Calls Try.prog 51 #[.bool b, .int .i64 x] w fun e w' => e = .returned (.int .i64 (gc b x)) ∧ w' = w := by
  cases b
  · go_enter Try.func51, Try.ntmps51
    go_wp2
    go_ret
    exact ⟨rfl, rfl⟩
  · go_enter Try.func51, Try.ntmps51
    go_wp2
    go_ret
    exact ⟨rfl, rfl⟩
/-- The magic number that is asked for in the place of another one. -/
def magic (g : Nat) : Nat := max 1 ((g + 77) % 4294967296)
theorem and32 (g : Nat) (h : g < 4294967296) : bits .and .i64 ((g : Int) + 77) 4294967295 = (((g + 77) % 4294967296 : Nat) : Int) := by
  show IntKind.i64.wrap ((BitVec.ofInt 64 ((g : Int) + 77) &&& BitVec.ofInt 64 4294967295).toNat : Int) = _
  rw [show (g : Int) + 77 = ((g + 77 : Nat) : Int) by omega, BitVec.toNat_and, ofInt_u64 (g + 77) (by omega), show (BitVec.ofInt 64 4294967295).toNat = 2 ^ 32 - 1 by decide, Nat.and_two_pow_sub_one_eq_mod, IntKind.wrap_i64]
  omega
set_option maxHeartbeats 400000 in
theorem otherMagic (g : Nat) (w : World) (h : g < 4294967296) : Calls Try.prog 62 #[.int .i64 g] w fun e w' => e = .returned (.int .i64 (magic g : Nat)) ∧ w' = w := by
  have ha := and32 g h
  have HM : Hid (((magic g : Nat) : Int) = max 1 (((g + 77) % 4294967296 : Nat) : Int)) := hide (by unfold magic; omega)
  generalize (g + 77) % 4294967296 = r at *
  rw [unhide HM]
  clear HM
  go_enter Try.func62, Try.ntmps62
  go_wp2
  all_goals
    go_ret
    exact ⟨ret_int (by omega), rfl⟩
set_option maxHeartbeats 1000000 in
theorem judge1 (m a g : Int) (p c d : Bool) (n : Int) (w : World) : Calls Try.prog 50 #[cfgV m a g p c d, .int .i64 n] w fun e w' => e = .returned (.tuple #[.int .i64 (gc (within 64 300 n) 3), .int .i64 m]) ∧ Below w.heap.size w w' := by
  have C1 := hide fun v => mruRight n v
  generalize within 64 300 n = ok at *
  have C2 := hide fun v => goodOr ok 3 v
  go_enter Try.func50, Try.ntmps50
  go_wp2_with fail
  go_quiet ((first
    | (go_at_call 35; exact Calls.quiet_of_same (unhide C1 _))
    | (go_at_call 51; exact Calls.quiet_of_same (unhide C2 _))))
  go_wp2
  go_ret2
  exact ⟨rfl, below_drewN ((Below.refl _ _).alloc (Nat.le_refl _) _) _⟩
set_option maxHeartbeats 1000000 in
theorem judge2 (m a g : Nat) (p c d : Bool) (n : Nat) (w : World) (ha : a < 4294967296) (hn : n < 4294967296) : Calls Try.prog 56 #[cfgV m a g p c d, .int .i64 n] w fun e w' => e = .returned (.tuple #[.int .i64 (gc (((n ||| a : Nat) : Int) == (n : Int)) 3), .int .i64 (n ||| a : Nat)]) ∧ Below w.heap.size w w' := by
  have ho := i64_or_nat n a hn ha
  have C2 := hide fun v => goodOr (((n ||| a : Nat) : Int) == (n : Int)) 3 v
  generalize n ||| a = x at *
  go_enter Try.func56, Try.ntmps56
  go_wp2_with fail
  go_quiet ((first
    | (go_at_call 51; exact Calls.quiet_of_same (unhide C2 _))))
  go_wp2
  go_ret2
  exact ⟨rfl, below_drewN ((Below.refl _ _).alloc (Nat.le_refl _) _) _⟩
set_option maxHeartbeats 1000000 in
theorem judge5 (m a g : Nat) (p c d : Bool) (n : Nat) (w : World) (hg : g < 4294967296) : Calls Try.prog 61 #[cfgV m a g p c d, .int .i64 n] w fun e w' => e = .returned (.tuple #[.int .i64 (gc ((n : Int) != 0 && (n : Int) != (g : Int)) 3), .int .i64 (magic g : Nat)]) ∧ Below w.heap.size w w' := by
  have C1 := hide fun v => otherMagic g v hg
  generalize magic g = x at *
  cases hq : ((n : Int) != 0)
  · have C2 := hide fun v => goodOr false 3 v
    rw [Bool.false_and]
    go_enter Try.func61, Try.ntmps61
    go_wp2_with fail
    go_quiet ((first
      | (go_at_call 62; exact Calls.quiet_of_same (unhide C1 _))
      | (go_at_call 51; exact Calls.quiet_of_same (unhide C2 _))))
    go_wp2
    go_ret2
    exact ⟨rfl, below_drewN ((Below.refl _ _).alloc (Nat.le_refl _) _) _⟩
  · have C2 := hide fun v => goodOr ((n : Int) != (g : Int)) 3 v
    rw [Bool.true_and]
    go_enter Try.func61, Try.ntmps61
    go_wp2_with fail
    go_quiet ((first
      | (go_at_call 62; exact Calls.quiet_of_same (unhide C1 _))
      | (go_at_call 51; exact Calls.quiet_of_same (unhide C2 _))))
    go_wp2
    go_ret2
    exact ⟨rfl, below_drewN ((Below.refl _ _).alloc (Nat.le_refl _) _) _⟩
set_option maxHeartbeats 400000 in
theorem judge7 (m a g : Int) (p c d : Bool) (n : Int) (w : World) : Calls Try.prog 67 #[cfgV m a g p c d, .int .i64 n] w fun e w' => e = .returned (.tuple #[.int .i64 (gc p 4), .int .i64 0]) ∧ Below w.heap.size w w' := by
  have C2 := hide fun v => goodOr p 4 v
  go_enter Try.func67, Try.ntmps67
  go_wp2_with (first | (go_at_call 51; refine (unhide C2 _).mono ?_; rintro e w1 ⟨rfl, rfl⟩))
  go_ret2
  exact ⟨rfl, (Below.refl _ _).alloc (Nat.le_refl _) _⟩
set_option maxHeartbeats 400000 in
theorem judge8 (m a g : Int) (p c d : Bool) (n : Int) (w : World) : Calls Try.prog 72 #[cfgV m a g p c d, .int .i64 n] w fun e w' => e = .returned (.tuple #[.int .i64 (gc c 4), .int .i64 0]) ∧ Below w.heap.size w w' := by
  have C2 := hide fun v => goodOr c 4 v
  go_enter Try.func72, Try.ntmps72
  go_wp2_with (first | (go_at_call 51; refine (unhide C2 _).mono ?_; rintro e w1 ⟨rfl, rfl⟩))
  go_ret2
  exact ⟨rfl, (Below.refl _ _).alloc (Nat.le_refl _) _⟩
set_option maxHeartbeats 1000000 in
theorem judge9 (m a g : Int) (p c d : Bool) (n : Int) (w : World) : Calls Try.prog 77 #[cfgV m a g p c d, .int .i64 n] w fun e w' => e = .returned (.tuple #[.int .i64 (gc (n == 2 || (n == 4 && d)) 3), .int .i64 2]) ∧ Below w.heap.size w w' := by
  have C2 := hide fun b v => goodOr b 3 v
  cases hq : (n == 2)
  · cases hr : (n == 4)
    · rw [Bool.false_and, Bool.false_or]
      go_enter Try.func77, Try.ntmps77
      go_wp2_with (first | (go_at_call 51; refine (unhide C2 _ _).mono ?_; rintro e w1 ⟨rfl, rfl⟩))
      go_ret2
      exact ⟨rfl, (Below.refl _ _).alloc (Nat.le_refl _) _⟩
    · rw [Bool.true_and, Bool.false_or]
      go_enter Try.func77, Try.ntmps77
      go_wp2_with (first | (go_at_call 51; refine (unhide C2 _ _).mono ?_; rintro e w1 ⟨rfl, rfl⟩))
      go_ret2
      exact ⟨rfl, (Below.refl _ _).alloc (Nat.le_refl _) _⟩
  · rw [Bool.true_or]
    go_enter Try.func77, Try.ntmps77
    go_wp2_with (first | (go_at_call 51; refine (unhide C2 _ _).mono ?_; rintro e w1 ⟨rfl, rfl⟩))
    go_ret2
    exact ⟨rfl, (Below.refl _ _).alloc (Nat.le_refl _) _⟩
end Go.Proofs.Ytkadbghglmlpkaa
