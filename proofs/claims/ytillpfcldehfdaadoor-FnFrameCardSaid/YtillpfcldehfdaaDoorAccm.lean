/- Is a number an accm, and is a byte mapped by it: the program's and the model's walks; a byte below 32 is mapped if the bit of its number is 1. -/
import Derived.Test.YtillpfcldehfdaaDoorInts
import Derived.Test.YtillpfcldehfdaaDoorHd
import Derived.Deep.RegionHeld
import Derived.Deep.QuietTactic
import Derived.BigQuiet
namespace Go.Proofs.YtillpfcldehfdaaDoor
open Go.RowKit
/-- Is it an accm? -/
def accOk (x : Int) : Bool := decide (0 ≤ x) && decide (x ≤ 4294967295)
theorem accOk_get {x : Int} (h : accOk x = true) : ∃ a : Nat, x = (a : Int) ∧ a < 4294967296 := by
  simp only [accOk, Bool.and_eq_true, decide_eq_true_eq] at h
  obtain ⟨a, ha⟩ := Int.eq_ofNat_of_zero_le h.1
  exact ⟨a, ha, by omega⟩
theorem accOk_nat {a : Nat} (h : a < 4294967296) : accOk (a : Int) = true := by
  simp only [accOk, Bool.and_eq_true, decide_eq_true_eq]; omega

set_option maxHeartbeats 400000 in
theorem accmRight (x : Int) (w : World) : Calls Tryd.prog 54 #[.int .i64 x] w fun e w' => e = .returned (.bool (accOk x)) ∧ w' = w := by
  by_cases h1 : 0 ≤ x
  · by_cases h2 : x ≤ 4294967295
    · have d1 : decide ((0 : Int) ≤ x) = true := decide_eq_true h1
      have d2 : decide (x ≤ 4294967295) = true := decide_eq_true h2
      rw [show accOk x = true by simp [accOk, h1, h2]]
      go_enter Tryd.func54, Tryd.ntmps54
      go_wp2
      go_ret
      exact ⟨rfl, rfl⟩
    · have d1 : decide ((0 : Int) ≤ x) = true := decide_eq_true h1
      have d2 : decide (x ≤ 4294967295) = false := decide_eq_false h2
      rw [show accOk x = false by simp [accOk, h1, h2]]
      go_enter Tryd.func54, Tryd.ntmps54
      go_wp2
      go_ret
      exact ⟨rfl, rfl⟩
  · have d1 : decide ((0 : Int) ≤ x) = false := decide_eq_false h1
    rw [show accOk x = false by simp [accOk, h1]]
    go_enter Tryd.func54, Tryd.ntmps54
    go_wp2
    go_ret
    exact ⟨rfl, rfl⟩
set_option maxHeartbeats 400000 in
theorem specAccm (x : Int) (w : World) : Calls Tryd.prog 55 #[.int .i64 x] w fun e w' => e = .returned (.bool (accOk x)) ∧ w' = w := by
  by_cases h1 : 0 ≤ x
  · by_cases h2 : x ≤ 4294967295
    · have d1 : decide ((0 : Int) ≤ x) = true := decide_eq_true h1
      have d2 : decide (x ≤ 4294967295) = true := decide_eq_true h2
      rw [show accOk x = true by simp [accOk, h1, h2]]
      go_enter Tryd.func55, Tryd.ntmps55
      go_wp2
      go_ret
      exact ⟨rfl, rfl⟩
    · have d1 : decide ((0 : Int) ≤ x) = true := decide_eq_true h1
      have d2 : decide (x ≤ 4294967295) = false := decide_eq_false h2
      rw [show accOk x = false by simp [accOk, h1, h2]]
      go_enter Tryd.func55, Tryd.ntmps55
      go_wp2
      go_ret
      exact ⟨rfl, rfl⟩
  · have d1 : decide ((0 : Int) ≤ x) = false := decide_eq_false h1
    rw [show accOk x = false by simp [accOk, h1]]
    go_enter Tryd.func55, Tryd.ntmps55
    go_wp2
    go_ret
    exact ⟨rfl, rfl⟩

theorem shr_and (a n : Nat) (ha : a < 4294967296) : (bits .and .i64 ((a : Int) / 2 ^ n) 1 == 1) = (a / 2 ^ n % 2 == 1) := by
  have hlt : a / 2 ^ n < 4294967296 := Nat.lt_of_le_of_lt (Nat.div_le_self _ _) ha
  have h := i64_and_nat (a / 2 ^ n) 1 (by omega) (by decide)
  rw [nat_mask1] at h
  have e : ((a : Int) / 2 ^ n) = ((a / 2 ^ n : Nat) : Int) := by simp
  rw [e]
  have h' : bits .and .i64 ((a / 2 ^ n : Nat) : Int) 1 = ((a / 2 ^ n % 2 : Nat) : Int) := h
  rw [h']
  rcases Nat.mod_two_eq_zero_or_one (a / 2 ^ n) with h0 | h0 <;> rw [h0] <;> rfl
set_option maxHeartbeats 400000 in
theorem implMapped (a : Nat) (c : UInt8) (B : Nat) (w : World) (ha : a < 4294967296) (hB : w.cell? ⟨B, 0, none⟩ = some (.int .i64 a)) :
    Calls Tryd.prog 80 #[.int .u8 c.toNat, .pointer (some ⟨B, 0, none⟩)] w fun e w' => e = .returned (.bool (Hd.mapped a c)) ∧ w' = w := by
  have hc := c.toNat_lt
  unfold Hd.mapped
  generalize c.toNat = n at *
  by_cases h1 : n < 32
  · have d1 : decide ((n : Int) < 32) = true := decide_eq_true (by omega)
    rw [decide_eq_true h1, Bool.true_and]
    go_enter Tryd.func80, Tryd.ntmps80
    go_wp2
    go_ret
    exact ⟨ret_bool (shr_and a n ha), rfl⟩
  · have d1 : decide ((n : Int) < 32) = false := decide_eq_false (by omega)
    rw [decide_eq_false h1, Bool.false_and]
    go_enter Tryd.func80, Tryd.ntmps80
    go_wp2
    go_ret
    exact ⟨rfl, rfl⟩
set_option maxHeartbeats 400000 in
theorem specMapped (a : Nat) (c : UInt8) (w : World) (ha : a < 4294967296) :
    Calls Tryd.prog 64 #[.int .u8 c.toNat, .int .i64 a] w fun e w' => e = .returned (.bool (Hd.mapped a c)) ∧ w' = w := by
  have hc := c.toNat_lt
  unfold Hd.mapped
  generalize c.toNat = n at *
  by_cases h1 : n < 32
  · have d1 : decide ((n : Int) < 32) = true := decide_eq_true (by omega)
    rw [decide_eq_true h1, Bool.true_and]
    go_enter Tryd.func64, Tryd.ntmps64
    go_wp2
    go_ret
    exact ⟨ret_bool (shr_and a n ha), rfl⟩
  · have d1 : decide ((n : Int) < 32) = false := decide_eq_false (by omega)
    rw [decide_eq_false h1, Bool.false_and]
    go_enter Tryd.func64, Tryd.ntmps64
    go_wp2
    go_ret
    exact ⟨rfl, rfl⟩
set_option maxHeartbeats 400000 in
theorem mappedBy (a : Nat) (w : World) :
    Calls Tryd.prog 57 #[.int .i64 a] w fun e w' => e = .returned (.func (.func 80) #[] #[.pointer (some ⟨w.heap.size, 0, none⟩)]) ∧ w' = w.alloc (.cells #[.int .i64 a] 2) := by
  have hmf : ∀ (fn : Fn) (first cap : Array Value) (w : World), (Instr.makeFunc fn first cap).run Tryd.prog w = .ok (.func fn first cap) w := fun _ _ _ _ => rfl
  go_enter Tryd.func57, Tryd.ntmps57
  go_wp2
  go_ret
  exact ⟨rfl, rfl⟩
end Go.Proofs.YtillpfcldehfdaaDoor
