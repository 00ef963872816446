/- The law FnExactDeframerRight walked: the law's own copy of a Deframer and its bytes counted; it returns true, and what lay in memory stands. -/
import Derived.Test.YtfigahpkljihpadRight
import Derived.Deep.WholeRow
namespace Go.Proofs.Ytfigahpkljihpad
open Go.RowKit
theorem row6 {w : World} {B : Nat} {x0 x1 x2 x3 x4 x5 : Value} {T : TypeId} (h : w.heap[B]? = some (.cells #[x0, x1, x2, x3, x4, x5] T)) :
    w.cell? ⟨B, 0, none⟩ = some x0 ∧ w.cell? ⟨B, 1, none⟩ = some x1 ∧ w.cell? ⟨B, 2, none⟩ = some x2 ∧ w.cell? ⟨B, 3, none⟩ = some x3 ∧ w.cell? ⟨B, 4, none⟩ = some x4 ∧ w.cell? ⟨B, 5, none⟩ = some x5 :=
  ⟨by rw [cell_of_row _ _ 0 _ _ (0, 0) h]; rfl, by rw [cell_of_row _ _ 1 _ _ (0, 0) h]; rfl, by rw [cell_of_row _ _ 2 _ _ (0, 0) h]; rfl, by rw [cell_of_row _ _ 3 _ _ (0, 0) h]; rfl,
    by rw [cell_of_row _ _ 4 _ _ (0, 0) h]; rfl, by rw [cell_of_row _ _ 5 _ _ (0, 0) h]; rfl⟩
set_option maxHeartbeats 1000000 in
theorem toDef (wide : Bool) (x : Int) (inn esc long : Bool) (t : ByteArray) (w : World) :
    Calls Try.prog 9 #[.agg #[.bool wide, .int .i64 x, .bool inn, .bool esc, .bool long, .string t]] w fun e w' => e = .returned (.agg #[.bool wide, .int .i64 x, .bool inn, .bool esc, .bool long, .string t]) ∧ Below w.heap.size w w' := by
  go_enter Try.func9, Try.ntmps9
  go_wp2
  refine bodyPost_ret (v := .agg #[.bool wide, .int .i64 x, .bool inn, .bool esc, .bool long, .string t]) (by simp [results, Try.results9, go_sem]) rfl ⟨rfl, ?_⟩
  exact (((Below.refl _ _).alloc (Nat.le_refl _) _).alloc (by simp) _).alloc (by simp; omega) _
set_option maxHeartbeats 400000 in
theorem szDef (wide : Bool) (x : Int) (inn esc long : Bool) (t : ByteArray) (w : World) (ht : t.size ≤ maxLen) :
    Calls Try.prog 7 #[.agg #[.bool wide, .int .i64 x, .bool inn, .bool esc, .bool long, .string t], .int .i64 1048576] w fun e w' => e = .returned (.int .i64 (if t.size ≤ 1048576 then 1048576 - (t.size : Int) else -1)) ∧ Below w.heap.size w w' := by
  unfold maxLen at ht
  by_cases h : t.size ≤ 1048576
  · rw [if_pos h]
    have d1 : ¬ (1048576 - (t.size : Int) < 0) := by omega
    go_enter Try.func7, Try.ntmps7
    go_wp2
    all_goals first | (exfalso; omega) | (go_ret; exact ⟨rfl, (Below.refl _ _).alloc (Nat.le_refl _) _⟩)
  · rw [if_neg h]
    have d1 : 1048576 - (t.size : Int) < 0 := by omega
    go_enter Try.func7, Try.ntmps7
    go_wp2
    all_goals first | (exfalso; omega) | (go_ret; exact ⟨rfl, (Below.refl _ _).alloc (Nat.le_refl _) _⟩)
set_option maxHeartbeats 400000 in
theorem lawRight (wide : Bool) (x : Int) (inn esc long : Bool) (t : ByteArray) (w : World) (ht : t.size ≤ maxLen) :
    Calls Try.prog 4 #[.agg #[.bool wide, .int .i64 x, .bool inn, .bool esc, .bool long, .string t]] w fun e w' => e = .returned (.bool true) ∧ Below w.heap.size w w' := by
  have CS := hide fun w => szDef wide x inn esc long t w ht
  have CT := hide fun w => toDef wide x inn esc long t w
  have CM := hide fun w => specRight wide x inn esc long t w ht
  have CI := hide fun w => implRight wide x inn esc long t w ht
  unfold maxLen at ht
  generalize rightV x inn esc long t = V at *
  by_cases h : t.size ≤ 1048576
  · have d1 : ¬ (1048576 - (t.size : Int) < 0) := by omega
    rw [if_pos h] at CS
    cases V
    all_goals
      go_enter Try.func4, Try.ntmps4
      go_wp2_with fail
      refine (unhide CS _).mono ?_
      rintro e w1 ⟨rfl, hb1⟩
      have hbx : Below w.heap.size w w1 := ((Below.refl _ _).alloc (Nat.le_refl _) _).trans (hb1.mono (by simp))
      have hcx : w1.heap[w.heap.size]? = some (.cells #[.bool wide, .int .i64 x, .bool inn, .bool esc, .bool long, .string t] 25) := by
        rw [hb1.block w.heap.size (by simp)]; exact heap_alloc_last w _
      obtain ⟨c0, c1, c2, c3, c4, c5⟩ := row6 hcx
      have HX := hide hcx
      have hw1 : w.heap.size < w1.heap.size := (Array.getElem?_eq_some_iff.1 hcx).1
      clear hcx
      go_wp2_with fail
      refine (unhide CT _).mono ?_
      rintro e w2 ⟨rfl, hb2⟩
      go_wp2_with fail
      refine (unhide CM _).mono ?_
      rintro e w3 ⟨rfl, hb3⟩
      have hb13 : Below w1.heap.size w1 w3 := hb2.trans (hb3.mono hb2.size)
      have hcy : w3.heap[w.heap.size]? = some (.cells #[.bool wide, .int .i64 x, .bool inn, .bool esc, .bool long, .string t] 25) := by
        rw [hb13.block w.heap.size hw1]; exact unhide HX
      clear c0 c1 c2 c3 c4 c5 HX
      obtain ⟨c0, c1, c2, c3, c4, c5⟩ := row6 hcy
      clear hcy
      go_wp2_with fail
      refine (unhide CT _).mono ?_
      rintro e w4 ⟨rfl, hb4⟩
      go_wp2_with fail
      refine (unhide CI _).mono ?_
      rintro e w5 ⟨rfl, hb5⟩
      go_wp2
      go_ret
      have hb15 : Below w1.heap.size w1 w5 := hb13.trans ((hb4.mono hb13.size).trans (hb5.mono (Nat.le_trans hb13.size hb4.size)))
      exact ⟨rfl, hbx.trans (hb15.mono hbx.size)⟩
  · have d1 : (-1 : Int) < 0 := by decide
    rw [if_neg h] at CS
    go_enter Try.func4, Try.ntmps4
    go_wp2_with fail
    refine (unhide CS _).mono ?_
    rintro e w1 ⟨rfl, hb1⟩
    go_wp2
    go_ret
    exact ⟨rfl, ((Below.refl _ _).alloc (Nat.le_refl _) _).trans (hb1.mono (by simp))⟩
end Go.Proofs.Ytfigahpkljihpad
