/- A part of a text, as it goes over one of several lines: which is right, its first byte; the program's walks and the model's; memory that was there stands. -/
import Derived.Test.YtfkeokfmancgiaaInts
import Derived.Test.YtfkeokfmancgiaaTxt
namespace Go.Proofs.Ytfkeokfmancgiaa
open Go.RowKit
/-- A part. -/
structure Fg where
  seq : Int
  beg : Bool
  fin : Bool
  text : ByteArray
abbrev fgV (f : Fg) : Value := .agg #[.int .i64 f.seq, .bool f.beg, .bool f.fin, .string f.text]
/-- Is it right? -/
def fgOk (f : Fg) : Bool := decide ((0 ≤ f.seq ∧ f.seq ≤ 16777215) ∧ f.text.size ≤ 200)
set_option maxHeartbeats 400000 in
theorem iWithin9 (x lo hi : Int) (w : World) : Calls Try.prog 32 #[.int .i64 x, .int .i64 lo, .int .i64 hi] w fun e w' => e = .returned (.bool (decide (lo ≤ x) && decide (x ≤ hi))) ∧ w' = w := by
  by_cases h1 : lo ≤ x
  · have d1 : decide (lo ≤ x) = true := decide_eq_true h1
    rw [d1, Bool.true_and]
    go_enter Try.func32, Try.ntmps32
    go_wp2
    go_ret
    exact ⟨rfl, rfl⟩
  · have d1 : decide (lo ≤ x) = false := decide_eq_false h1
    rw [d1, Bool.false_and]
    go_enter Try.func32, Try.ntmps32
    go_wp2
    go_ret
    exact ⟨rfl, rfl⟩
set_option maxHeartbeats 400000 in
theorem sWithin9 (x lo hi : Int) (w : World) : Calls Try.prog 36 #[.int .i64 x, .int .i64 lo, .int .i64 hi] w fun e w' => e = .returned (.bool (decide (lo ≤ x) && decide (x ≤ hi))) ∧ w' = w := by
  by_cases h1 : lo ≤ x
  · have d1 : decide (lo ≤ x) = true := decide_eq_true h1
    rw [d1, Bool.true_and]
    go_enter Try.func36, Try.ntmps36
    go_wp2
    go_ret
    exact ⟨rfl, rfl⟩
  · have d1 : decide (lo ≤ x) = false := decide_eq_false h1
    rw [d1, Bool.false_and]
    go_enter Try.func36, Try.ntmps36
    go_wp2
    go_ret
    exact ⟨rfl, rfl⟩
theorem wi {x lo hi : Int} (h : lo ≤ x ∧ x ≤ hi) : (decide (lo ≤ x) && decide (x ≤ hi)) = true := by simp; omega
theorem wo {x lo hi : Int} (h : ¬ (lo ≤ x ∧ x ≤ hi)) : (decide (lo ≤ x) && decide (x ≤ hi)) = false := by simp; omega
set_option maxHeartbeats 400000 in
theorem iSeq (x : Int) (w : World) : Calls Try.prog 33 #[.int .i64 x] w fun e w' => e = .returned (.bool (decide (0 ≤ x) && decide (x ≤ 16777215))) ∧ w' = w := by
  have C := hide fun v => iWithin9 x 0 16777215 v
  go_enter Try.func33, Try.ntmps33
  go_wp2_with fail
  refine (unhide C _).mono ?_
  rintro e w2 ⟨rfl, hw⟩
  replace hw := hw.symm
  subst hw
  go_wp2
  go_ret
  exact ⟨rfl, rfl⟩
set_option maxHeartbeats 1000000 in
theorem iFgRight (f : Fg) (w : World) : Calls Try.prog 41 #[fgV f] w fun e w' => e = .returned (.bool (fgOk f)) ∧ Below w.heap.size w w' := by
  have C := hide fun v => iSeq f.seq v
  unfold fgOk
  obtain ⟨sq, bg, fn, t⟩ := f
  dsimp only at *
  by_cases h : 0 ≤ sq ∧ sq ≤ 16777215
  · rw [wi h] at C
    rw [show decide ((0 ≤ sq ∧ sq ≤ 16777215) ∧ t.size ≤ 200) = decide ((t.size : Int) ≤ 200) from decide_eq_decide.2 (by omega)]
    clear h
    go_enter Try.func41, Try.ntmps41
    go_wp2_with fail
    refine (unhide C _).mono ?_
    rintro e w2 ⟨rfl, rfl⟩
    go_wp2
    go_ret
    exact ⟨rfl, (Below.refl _ _).alloc (Nat.le_refl _) _⟩
  · rw [wo h] at C
    rw [decide_eq_false (by omega)]
    clear h
    go_enter Try.func41, Try.ntmps41
    go_wp2_with fail
    refine (unhide C _).mono ?_
    rintro e w2 ⟨rfl, rfl⟩
    go_wp2
    go_ret
    exact ⟨rfl, (Below.refl _ _).alloc (Nat.le_refl _) _⟩
set_option maxHeartbeats 1000000 in
theorem sFgRight (f : Fg) (w : World) : Calls Try.prog 49 #[fgV f] w fun e w' => e = .returned (.bool (fgOk f)) ∧ Below w.heap.size w w' := by
  have C := hide fun v => sWithin9 f.seq 0 16777215 v
  unfold fgOk
  obtain ⟨sq, bg, fn, t⟩ := f
  dsimp only at *
  by_cases h : 0 ≤ sq ∧ sq ≤ 16777215
  · rw [wi h] at C
    rw [show decide ((0 ≤ sq ∧ sq ≤ 16777215) ∧ t.size ≤ 200) = decide ((t.size : Int) ≤ 200) from decide_eq_decide.2 (by omega)]
    clear h
    go_enter Try.func49, Try.ntmps49
    go_wp2_with fail
    refine (unhide C _).mono ?_
    rintro e w2 ⟨rfl, rfl⟩
    go_wp2
    go_ret
    exact ⟨rfl, (Below.refl _ _).alloc (Nat.le_refl _) _⟩
  · rw [wo h] at C
    rw [decide_eq_false (by omega)]
    clear h
    go_enter Try.func49, Try.ntmps49
    go_wp2_with fail
    refine (unhide C _).mono ?_
    rintro e w2 ⟨rfl, rfl⟩
    go_wp2
    go_ret
    exact ⟨rfl, (Below.refl _ _).alloc (Nat.le_refl _) _⟩
end Go.Proofs.Ytfkeokfmancgiaa
