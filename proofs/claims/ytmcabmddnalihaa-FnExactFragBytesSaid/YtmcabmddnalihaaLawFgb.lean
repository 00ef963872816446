/- The law FnExactFragBytes walked: it returns true, and what lay in memory stands. -/
import Derived.Test.YtmcabmddnalihaaFgB
import Derived.Test.YtmcabmddnalihaaFgTo
import Derived.Deep.WholeRow
namespace Go.Proofs.Ytmcabmddnalihaa
open Go.RowKit
set_option maxHeartbeats 2000000 in
theorem lawFgb (k : Int) (x y : Bool) (t : ByteArray) (w : World) (ht : t.size ≤ maxLen) :
    Calls Try.prog 3 #[.agg #[.int .i64 k, .bool x, .bool y, .string t]] w fun e w' => e = .returned (.bool true) ∧ Below w.heap.size w w' := by
  have CS := hide fun v => szFg k x y t v ht 1048576 (by decide)
  have CT := hide fun v => toFg k x y t v
  have CM := hide fun v => sFgBytes ⟨k, x, y, t⟩ v
  have CI := hide fun v => iFgBytes ⟨k, x, y, t⟩ v
  dsimp only [fgV] at CM CI
  generalize fgTold ⟨k, x, y, t⟩ = V at *
  have HW : Hid (∀ w1, Below (w.alloc (.cells #[.int .i64 k, .bool x, .bool y, .string t] 23)).heap.size (w.alloc (.cells #[.int .i64 k, .bool x, .bool y, .string t] 23)) w1 → w1.heap[w.heap.size]? = some (.cells #[.int .i64 k, .bool x, .bool y, .string t] 23) ∧ Below w.heap.size w w1 ∧ w.heap.size < w1.heap.size) := by
    refine hide fun w1 hb => ?_
    have h1 := (hb.block w.heap.size (by simp)).trans (heap_alloc_new w _)
    exact ⟨h1, ((Below.refl _ _).alloc (Nat.le_refl _) _).trans (hb.mono (by simp)), (Array.getElem?_eq_some_iff.1 h1).1⟩
  by_cases h : t.size ≤ 1048576
  · rw [if_pos h] at CS
    have d1 : ¬ (1048576 - (t.size : Int) < 0) := by omega
    clear ht
    go_enter Try.func3, Try.ntmps3
    go_wp2_with fail
    refine (unhide CS _).mono ?_
    rintro e w1 ⟨rfl, hb1⟩
    obtain ⟨hO1, hB1, hl1⟩ := unhide HW _ hb1
    obtain ⟨c0, c1, c2, c3⟩ := row4g hO1
    have HO1 := hide hO1
    clear hb1 hO1 CS HW
    go_wp2_with fail
    refine (unhide CT _).mono ?_
    rintro e w2 ⟨rfl, hb2⟩
    go_wp2_with fail
    refine (unhide CM _).mono ?_
    rintro e w3 ⟨rfl, hb3⟩
    have hb13 := hb2.trans (hb3.mono hb2.size)
    have hO3 := (hb13.block w.heap.size hl1).trans (unhide HO1)
    have hB3 := hB1.trans (hb13.mono hB1.size)
    have hl3 := Nat.lt_of_lt_of_le hl1 hb13.size
    clear c0 c1 c2 c3
    obtain ⟨c0, c1, c2, c3⟩ := row4g hO3
    clear hO3 hb2 hb3 hb13 HO1 CM
    go_wp2_with fail
    refine (unhide CT _).mono ?_
    rintro e w4 ⟨rfl, hb4⟩
    go_wp2_with fail
    refine (unhide CI _).mono ?_
    rintro e w5 ⟨rfl, hb5⟩
    clear c0 c1 c2 c3
    go_wp2
    go_ret
    have hb35 := hb4.trans (hb5.mono hb4.size)
    exact ⟨rfl, hB3.trans (hb35.mono hB3.size)⟩
  · rw [if_neg h] at CS
    have d1 : (-1 : Int) < 0 := by decide
    go_enter Try.func3, Try.ntmps3
    go_wp2_with fail
    refine (unhide CS _).mono ?_
    rintro e w1 ⟨rfl, hb1⟩
    obtain ⟨_, hB1, _⟩ := unhide HW _ hb1
    go_wp2
    go_ret
    exact ⟨rfl, hB1⟩
end Go.Proofs.Ytmcabmddnalihaa
