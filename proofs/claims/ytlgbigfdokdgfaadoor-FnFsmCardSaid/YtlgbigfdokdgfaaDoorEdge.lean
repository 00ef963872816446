/- A drawn number at some limit; what lay in memory stands. -/
import Derived.Test.YtlgbigfdokdgfaaDoorSrcNew
namespace Go.Proofs.YtlgbigfdokdgfaaDoor
open Go.RowKit
/-- A cell that holds a number of 64 bits. -/
def okI64 : Value → Bool
  | .int .i64 n => decide (-9223372036854775808 ≤ n ∧ n ≤ 9223372036854775807)
  | _ => false
theorem okI64_get {v : Value} (h : okI64 v = true) : ∃ x : Int, v = .int .i64 x ∧ -9223372036854775808 ≤ x ∧ x ≤ 9223372036854775807 := by
  unfold okI64 at h
  split at h
  · exact ⟨_, rfl, by simpa using h⟩
  · cases h
theorem lit_cell {w : World} {g : Nat} {cs : Array Value} {T : TypeId} (h : w.heap[g]? = some (.cells cs T)) (ha : ∀ v ∈ cs.toList, okI64 v = true) (r : Nat) (hr : r < cs.size) :
    ∃ x : Int, w.cell? ⟨g, r, none⟩ = some (.int .i64 x) ∧ -9223372036854775808 ≤ x ∧ x ≤ 9223372036854775807 := by
  obtain ⟨x, hx, h1, h2⟩ := okI64_get (ha cs[r] (by simp))
  exact ⟨x, by rw [cell_of_row w g r cs T (0, 0) h, Array.getElem?_eq_getElem hr, hx], h1, h2⟩

set_option maxHeartbeats 1000000 in
theorem src_edge (w : World) (B : Nat) (sl : Value) (n : Nat) (hn : n ≤ maxLen) (hS : Src w B sl n) (hD : Dat w B sl n) :
    Calls Tryd.prog 22 #[.pointer (some ⟨B, 0, none⟩)] w fun e w' => ∃ x : Int, e = .returned (.int .i64 x) ∧ -9223372036854775808 ≤ x ∧ x ≤ 9223372036854775807 ∧ Src w' B sl n ∧ Below B w w' := by
  have hBw := hS.lt
  have HS := hide hS
  have HD := hide hD
  clear hS hD
  go_enter Tryd.func22, Tryd.ntmps22
  go_wp2_with fail
  refine (src_n _ B sl n 14 (by decide) hn ((unhide HS).same (Below.heap_alloc _ _ _ hBw)) ((unhide HD).below ((Below.refl _ _).alloc (by omega) _))).mono ?_
  rintro e w1 ⟨r, rfl, hr, hS1, ht1⟩
  have hr2 : r < 14 := by omega
  obtain ⟨x, hx, hx1, hx2⟩ := lit_cell ((ht1.block w.heap.size (by omega)).trans (heap_alloc_last w _)) (by decide) r (by simpa using hr2)
  have hb2 : Below B w w1 := ((Below.refl _ _).alloc (by omega) _).trans ht1.below
  clear ht1 hr
  have HS1 := hide hS1
  clear hS1
  go_wp2
  go_ret
  exact ⟨x, rfl, hx1, hx2, unhide HS1, hb2⟩

end Go.Proofs.YtlgbigfdokdgfaaDoor
