/- The law FnExactFragRead walked: it returns true, and what lay in memory stands. -/
import Derived.Test.YtmcabmddnalihaaFgE
import Derived.Test.YtmcabmddnalihaaFgQ
namespace Go.Proofs.Ytmcabmddnalihaa
open Go.RowKit
set_option maxHeartbeats 400000 in
theorem lawFgd (t : ByteArray) (w : World) (ht : t.size ≤ maxLen) :
    Calls Try.prog 4 #[.string t] w fun e w' => e = .returned (.bool true) ∧ Below w.heap.size w w' := by
  have c1 := sFgRead t w ht
  have C2 := hide fun w => iFgRead t w ht
  unfold maxLen at ht
  generalize fgRead t = o at *
  obtain ⟨k, x, y, V⟩ := o
  dsimp only [fgV] at c1 C2
  by_cases h1 : t.size ≤ 1048576
  · have d1 : ¬ ((1048576 : Int) < (t.size : Int)) := by omega
    go_enter Try.func4, Try.ntmps4
    go_wp2_with fail
    refine c1.mono ?_
    rintro e w1 ⟨rfl, hb1⟩
    go_wp2_with fail
    refine (unhide C2 _).mono ?_
    rintro e w2 ⟨rfl, hb2⟩
    have hs1 : (w1.alloc (.cells #[.int .i64 k, .bool x, .bool y, .string V] 26)).heap.size = w1.heap.size + 1 := by simp
    have hblk : w2.heap[w1.heap.size]? = some (.cells #[.int .i64 k, .bool x, .bool y, .string V] 26) := (hb2.block w1.heap.size (by rw [hs1]; omega)).trans (heap_alloc_new w1 _)
    have hlt2 : w1.heap.size < w2.heap.size := (Array.getElem?_eq_some_iff.1 hblk).1
    have hblk2 : (w2.alloc (.cells #[.int .i64 k, .bool x, .bool y, .string V] 26)).heap[w1.heap.size]? = some (.cells #[.int .i64 k, .bool x, .bool y, .string V] 26) := (Below.heap_alloc _ _ _ hlt2).trans hblk
    obtain ⟨k0, k1, k2, k3⟩ := row4g hblk2
    have hb12 : Below w.heap.size w w2 := (hb1.alloc hb1.size _).trans (hb2.mono (by rw [hs1]; have := hb1.size; omega))
    clear hblk hblk2 hb2
    go_wp2_with fail
    refine (eqFg k x y V _).mono ?_
    rintro e w3 ⟨rfl, hb3⟩
    have hb3' := hb3.mono (show w.heap.size ≤ _ by have := hb12.size; simp; omega)
    go_wp2
    go_ret
    exact ⟨rfl, (hb12.alloc hb12.size _).trans hb3'⟩
  · have d1 : (1048576 : Int) < (t.size : Int) := by omega
    go_enter Try.func4, Try.ntmps4
    go_wp2
    go_ret
    exact ⟨rfl, Below.refl _ _⟩
end Go.Proofs.Ytmcabmddnalihaa
