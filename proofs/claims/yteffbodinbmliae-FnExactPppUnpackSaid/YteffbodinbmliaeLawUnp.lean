/- The law FnExactPppUnpack walked: it returns true, and what lay in memory stands. -/
import Derived.Test.YteffbodinbmliaeUnpAll
namespace Go.Proofs.Yteffbodinbmliae
open Go.RowKit
set_option maxHeartbeats 400000 in
theorem eqOut (x y : Int) (t : ByteArray) (w : World) :
    Calls Try.prog 6 #[.agg #[.int .i64 x, .string t, .int .i64 y], .agg #[.int .i64 x, .string t, .int .i64 y]] w fun e w' => e = .returned (.bool true) ∧ Below w.heap.size w w' := by
  go_enter Try.func6, Try.ntmps6
  go_wp2
  go_ret
  exact ⟨rfl, ((Below.refl _ _).alloc (Nat.le_refl _) _).alloc (by simp) _⟩
set_option maxHeartbeats 400000 in
theorem lawUnp (t : ByteArray) (w : World) (ht : t.size ≤ maxLen) :
    Calls Try.prog 3 #[.string t] w fun e w' => e = .returned (.bool true) ∧ Below w.heap.size w w' := by
  have c1 := specUnpAll t w ht
  have C2 := hide fun w => implUnpAll t w ht
  unfold maxLen at ht
  unfold outV at c1 C2
  generalize Pp.unpack t.data.toList = o at *
  obtain ⟨x, l, y⟩ := o
  generalize txt l = V at *
  by_cases h1 : t.size ≤ 1048576
  · have d1 : ¬ ((1048576 : Int) < (t.size : Int)) := by omega
    go_enter Try.func3, Try.ntmps3
    go_wp2_with fail
    refine c1.mono ?_
    rintro e w1 ⟨rfl, hb1⟩
    go_wp2_with fail
    refine (unhide C2 _).mono ?_
    rintro e w2 ⟨rfl, hb2⟩
    have hs1 : (w1.alloc (.cells #[.int .i64 x, .string V, .int .i64 y] 23)).heap.size = w1.heap.size + 1 := by simp
    have hblk : w2.heap[w1.heap.size]? = some (.cells #[.int .i64 x, .string V, .int .i64 y] 23) := (hb2.block w1.heap.size (by rw [hs1]; omega)).trans (heap_alloc_new w1 _)
    have hlt2 : w1.heap.size < w2.heap.size := (Array.getElem?_eq_some_iff.1 hblk).1
    have hblk2 : (w2.alloc (.cells #[.int .i64 x, .string V, .int .i64 y] 23)).heap[w1.heap.size]? = some (.cells #[.int .i64 x, .string V, .int .i64 y] 23) := (Below.heap_alloc _ _ _ hlt2).trans hblk
    have k0 : (w2.alloc (.cells #[.int .i64 x, .string V, .int .i64 y] 23)).cell? ⟨w1.heap.size, 0, none⟩ = some (.int .i64 x) := by rw [cell_of_row _ _ _ _ _ _ hblk2]; rfl
    have k1 : (w2.alloc (.cells #[.int .i64 x, .string V, .int .i64 y] 23)).cell? ⟨w1.heap.size, 1, none⟩ = some (.string V) := by rw [cell_of_row _ _ _ _ _ _ hblk2]; rfl
    have k2 : (w2.alloc (.cells #[.int .i64 x, .string V, .int .i64 y] 23)).cell? ⟨w1.heap.size, 2, none⟩ = some (.int .i64 y) := by rw [cell_of_row _ _ _ _ _ _ hblk2]; rfl
    have hb12 : Below w.heap.size w w2 := (hb1.alloc hb1.size _).trans (hb2.mono (by rw [hs1]; have := hb1.size; omega))
    clear hblk hblk2 hb2
    go_wp2_with fail
    refine (eqOut x y V _).mono ?_
    rintro e w3 ⟨rfl, hb3⟩
    have hb3' := hb3.mono (show w.heap.size ≤ _ by have := hb12.size; simp; omega)
    go_wp2
    go_ret
    exact ⟨rfl, (hb12.alloc hb12.size _).trans hb3'⟩
  · have d1 : (1048576 : Int) < (t.size : Int) := by omega
    go_enter Try.func3, Try.ntmps3
    go_wp2
    go_ret
    exact ⟨rfl, Below.refl _ _⟩
end Go.Proofs.Yteffbodinbmliae
