/- Numbered frames: which are right, and their bytes, the program's walks and the model's; no condition. -/
import Derived.Test.YtjgnldkncoighaaInts
import Derived.Test.YtjgnldkncoighaaTxt
namespace Go.Proofs.Ytjgnldkncoighaa
open Go.RowKit
/-- A numbered frame. -/
structure Nb where
  kind : Int
  ns : Int
  nr : Int
  text : ByteArray
abbrev nbV (f : Nb) : Value := .agg #[.int .i64 f.kind, .int .i64 f.ns, .int .i64 f.nr, .string f.text]
/-- Is it right? -/
def nbOk (f : Nb) : Bool := decide ((0 ≤ f.nr ∧ f.nr ≤ 7) ∧ ((f.kind = 1 ∧ (0 ≤ f.ns ∧ f.ns ≤ 7) ∧ f.text.size ≤ 200) ∨ ((f.kind = 2 ∨ f.kind = 3) ∧ f.ns = 0 ∧ f.text.size = 0)))
theorem nb_ways (f : Nb) (P : Prop)
    (h0 : ¬ (0 ≤ f.nr ∧ f.nr ≤ 7) → nbOk f = false → P)
    (h1 : (0 ≤ f.nr ∧ f.nr ≤ 7) → f.kind = 1 → ¬ (0 ≤ f.ns ∧ f.ns ≤ 7) → nbOk f = false → P)
    (h2 : (0 ≤ f.nr ∧ f.nr ≤ 7) → f.kind = 1 → (0 ≤ f.ns ∧ f.ns ≤ 7) → ¬ (f.text.size ≤ 200) → nbOk f = false → P)
    (h3 : (0 ≤ f.nr ∧ f.nr ≤ 7) → f.kind = 1 → (0 ≤ f.ns ∧ f.ns ≤ 7) → f.text.size ≤ 200 → nbOk f = true → P)
    (h4 : (0 ≤ f.nr ∧ f.nr ≤ 7) → f.kind = 2 ∨ f.kind = 3 → f.ns ≠ 0 → nbOk f = false → P)
    (h5 : (0 ≤ f.nr ∧ f.nr ≤ 7) → f.kind = 2 ∨ f.kind = 3 → f.ns = 0 → f.text.size ≠ 0 → nbOk f = false → P)
    (h6 : (0 ≤ f.nr ∧ f.nr ≤ 7) → f.kind = 2 ∨ f.kind = 3 → f.ns = 0 → f.text.size = 0 → nbOk f = true → P)
    (h7 : (0 ≤ f.nr ∧ f.nr ≤ 7) → f.kind ≠ 1 → f.kind ≠ 2 → f.kind ≠ 3 → nbOk f = false → P) : P := by
  by_cases a : 0 ≤ f.nr ∧ f.nr ≤ 7
  · by_cases k1 : f.kind = 1
    · by_cases b : 0 ≤ f.ns ∧ f.ns ≤ 7
      · by_cases c : f.text.size ≤ 200
        · exact h3 a k1 b c (decide_eq_true (by omega))
        · exact h2 a k1 b c (decide_eq_false (by omega))
      · exact h1 a k1 b (decide_eq_false (by omega))
    · by_cases k2 : f.kind = 2 ∨ f.kind = 3
      · by_cases b : f.ns = 0
        · by_cases c : f.text.size = 0
          · exact h6 a k2 b c (decide_eq_true (by omega))
          · exact h5 a k2 b c (decide_eq_false (by omega))
        · exact h4 a k2 b (decide_eq_false (by omega))
      · exact h7 a k1 (by omega) (by omega) (decide_eq_false (by omega))
  · exact h0 a (decide_eq_false (by omega))
set_option maxHeartbeats 400000 in
theorem iWithin (x lo hi : Int) (w : World) : Calls Try.prog 57 #[.int .i64 x, .int .i64 lo, .int .i64 hi] w fun e w' => e = .returned (.bool (decide (lo ≤ x) && decide (x ≤ hi))) ∧ w' = w := by
  by_cases h1 : lo ≤ x
  · have d1 : decide (lo ≤ x) = true := decide_eq_true h1
    rw [d1, Bool.true_and]
    go_enter Try.func57, Try.ntmps57
    go_wp2
    go_ret
    exact ⟨rfl, rfl⟩
  · have d1 : decide (lo ≤ x) = false := decide_eq_false h1
    rw [d1, Bool.false_and]
    go_enter Try.func57, Try.ntmps57
    go_wp2
    go_ret
    exact ⟨rfl, rfl⟩
set_option maxHeartbeats 400000 in
theorem sWithin (x lo hi : Int) (w : World) : Calls Try.prog 49 #[.int .i64 x, .int .i64 lo, .int .i64 hi] w fun e w' => e = .returned (.bool (decide (lo ≤ x) && decide (x ≤ hi))) ∧ w' = w := by
  by_cases h1 : lo ≤ x
  · have d1 : decide (lo ≤ x) = true := decide_eq_true h1
    rw [d1, Bool.true_and]
    go_enter Try.func49, Try.ntmps49
    go_wp2
    go_ret
    exact ⟨rfl, rfl⟩
  · have d1 : decide (lo ≤ x) = false := decide_eq_false h1
    rw [d1, Bool.false_and]
    go_enter Try.func49, Try.ntmps49
    go_wp2
    go_ret
    exact ⟨rfl, rfl⟩
set_option maxHeartbeats 400000 in
theorem iNumber (x : Int) (w : World) : Calls Try.prog 47 #[.int .i64 x] w fun e w' => e = .returned (.bool (decide (0 ≤ x) && decide (x ≤ 7))) ∧ w' = w := by
  have C := hide fun v => iWithin x 0 7 v
  go_enter Try.func47, Try.ntmps47
  go_wp2_with fail
  refine (unhide C _).mono ?_
  rintro e w2 ⟨rfl, hw⟩
  replace hw := hw.symm
  subst hw
  go_wp2
  go_ret
  exact ⟨rfl, rfl⟩
set_option maxHeartbeats 400000 in
theorem sNumber (x : Int) (w : World) : Calls Try.prog 50 #[.int .i64 x] w fun e w' => e = .returned (.bool (decide (0 ≤ x) && decide (x ≤ 7))) ∧ w' = w := by
  have C := hide fun v => sWithin x 0 7 v
  go_enter Try.func50, Try.ntmps50
  go_wp2_with fail
  refine (unhide C _).mono ?_
  rintro e w2 ⟨rfl, hw⟩
  replace hw := hw.symm
  subst hw
  go_wp2
  go_ret
  exact ⟨rfl, rfl⟩
theorem in7 {x : Int} (h : 0 ≤ x ∧ x ≤ 7) : (decide (0 ≤ x) && decide (x ≤ 7)) = true := by simp; omega
theorem out7 {x : Int} (h : ¬ (0 ≤ x ∧ x ≤ 7)) : (decide (0 ≤ x) && decide (x ≤ 7)) = false := by simp; omega
theorem empty_of {t : ByteArray} (h : t.size = 0) : t = ⟨#[]⟩ := by
  apply ByteArray.ext
  exact Array.eq_empty_of_size_eq_zero h
theorem nonempty_of {t : ByteArray} (h : t.size ≠ 0) : t.toList.isEmpty = false := by
  rw [ByteArray.toList_eq]
  cases hq : t.data.toList with
  | nil => exact absurd (by have := congrArg List.length hq; simpa using this) h
  | cons a l => rfl
end Go.Proofs.Ytjgnldkncoighaa
