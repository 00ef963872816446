/- The draws of chapter 2: a text of fewer than 20 bytes and a width; a number of 64 bits and a text of fewer than 12 bytes; what lay in memory stands. -/
import Derived.Test.YtdjlkchdomllhaaDoorSrcNew
namespace Go.Proofs.YtdjlkchdomllhaaDoor
open Go.RowKit

/-- A cell that holds a number of 64 bits. -/
def okI64 : Value → Bool
  | .int .i64 n => decide (-9223372036854775808 ≤ n ∧ n ≤ 9223372036854775807)
  | _ => false
theorem okI64_get {v : Value} (h : okI64 v = true) : ∃ x : Int, v = .int .i64 x ∧ -9223372036854775808 ≤ x ∧ x ≤ 9223372036854775807 := by
  unfold okI64 at h
  split at h
  · exact ⟨_, rfl, by simpa using h⟩
  · cases h
theorem lit_cell {w : World} {g : Nat} {cs : Array Value} {T : TypeId} (h : w.heap[g]? = some (.cells cs T)) (ha : ∀ v ∈ cs.toList, okI64 v = true) (r : Nat) (hr : r < cs.size) :
    ∃ x : Int, w.cell? ⟨g, r, none⟩ = some (.int .i64 x) ∧ -9223372036854775808 ≤ x ∧ x ≤ 9223372036854775807 := by
  obtain ⟨x, hx, h1, h2⟩ := okI64_get (ha cs[r] (by simp))
  exact ⟨x, by rw [cell_of_row w g r cs T (0, 0) h, Array.getElem?_eq_getElem hr, hx], h1, h2⟩

set_option maxHeartbeats 1000000 in
theorem src_edge (w : World) (B : Nat) (sl : Value) (n : Nat) (hn : n ≤ maxLen) (hS : Src w B sl n) (hD : Dat w B sl n) :
    Calls Tryd.prog 29 #[.pointer (some ⟨B, 0, none⟩)] w fun e w' => ∃ x : Int, e = .returned (.int .i64 x) ∧ -9223372036854775808 ≤ x ∧ x ≤ 9223372036854775807 ∧ Src w' B sl n ∧ Below B w w' := by
  have hBw := hS.lt
  have HS := hide hS
  have HD := hide hD
  clear hS hD
  go_enter Tryd.func29, Tryd.ntmps29
  go_wp2_with fail
  refine (src_n _ B sl n 14 (by decide) hn ((unhide HS).same (Below.heap_alloc _ _ _ hBw)) ((unhide HD).below ((Below.refl _ _).alloc (by omega) _))).mono ?_
  rintro e w1 ⟨r, rfl, hr, hS1, ht1⟩
  have hr2 : r < 14 := by omega
  obtain ⟨x, hx, hx1, hx2⟩ := lit_cell ((ht1.block w.heap.size (by omega)).trans (heap_alloc_last w _)) (by decide) r (by simpa using hr2)
  have hb2 : Below B w w1 := ((Below.refl _ _).alloc (by omega) _).trans ht1.below
  clear ht1 hr
  have HS1 := hide hS1
  clear hS1
  go_wp2
  go_ret
  exact ⟨x, rfl, hx1, hx2, unhide HS1, hb2⟩

set_option maxHeartbeats 1000000 in
theorem src_sumOf (w : World) (B : Nat) (sl : Value) (n : Nat) (hn : n ≤ maxLen) (hS : Src w B sl n) (hD : Dat w B sl n) :
    Calls Tryd.prog 22 #[.pointer (some ⟨B, 0, none⟩)] w fun e w' => ∃ x : Int, e = .returned (.int .i64 x) ∧ -9223372036854775808 ≤ x ∧ x ≤ 9223372036854775807 ∧ Src w' B sl n ∧ Below B w w' := by
  have HD := hide hD
  have c := src_one w B sl n 6 (by decide) hn hS hD
  clear hS hD
  go_enter Tryd.func22, Tryd.ntmps22
  go_wp2_with fail
  refine c.mono ?_
  rintro e w1 ⟨b, rfl, hS1, ht1⟩
  have hb1 : Below B w w1 := ht1.below
  have HS1 := hide hS1
  clear hS1 ht1 c
  cases b
  · go_wp2_with fail
    refine (src_n w1 B sl n 65536 (by decide) hn (unhide HS1) ((unhide HD).below hb1)).mono ?_
    rintro e w2 ⟨r, rfl, hr, hS2, ht2⟩
    go_wp2
    go_ret
    exact ⟨r, rfl, by omega, by omega, hS2, hb1.trans ht2.below⟩
  · go_wp2_with fail
    refine (src_edge w1 B sl n hn (unhide HS1) ((unhide HD).below hb1)).mono ?_
    rintro e w2 ⟨x, rfl, hx1, hx2, hS2, hb2⟩
    have hBw := hS2.lt
    have HS2 := hide hS2
    clear hS2
    go_wp2_with fail
    have hb3 := hb1.trans hb2
    refine (src_n _ B sl n 7 (by decide) hn ((unhide HS2).same (Below.heap_alloc _ _ _ hBw)) ((unhide HD).below (hb3.alloc (by omega) _))).mono ?_
    rintro e w3 ⟨r, rfl, hr, hS3, ht3⟩
    have hr2 : r < 7 := by omega
    obtain ⟨y, hy, hy1, hy2⟩ := lit_cell ((ht3.block w2.heap.size (by omega)).trans (heap_alloc_last w2 _)) (by
      intro v hv
      simp only [List.mem_cons, List.not_mem_nil, or_false] at hv
      rcases hv with rfl | rfl | rfl | rfl | rfl | rfl | rfl
      all_goals simp [okI64, hx1, hx2]) r (by simpa using hr2)
    have hb4 : Below B w w3 := (hb3.alloc (by omega) _).trans ht3.below
    have HS3 := hide hS3
    clear hS3 ht3 hr
    go_wp2
    go_ret
    exact ⟨y, rfl, hy1, hy2, unhide HS3, hb4⟩

set_option maxHeartbeats 1000000 in
theorem drawTail (w : World) (sl : Value) (n : Nat) (hn : n ≤ maxLen) (hD : Dat w w.heap.size sl n) :
    Calls Tryd.prog 4 #[sl] w fun e w' => ∃ (xs : List Int) (b : Bool), e = .returned (.tuple #[.string (strOfNums xs), .bool b]) ∧ xs.length < 20 ∧ Below w.heap.size w w' := by
  have c := src_new w sl n hn hD
  have HD := hide hD
  clear hD
  go_enter Tryd.func4, Tryd.ntmps4
  go_wp2_with fail
  refine c.mono ?_
  rintro e w1 ⟨rfl, hS1, hb1⟩
  have HS1 := hide hS1
  clear hS1 c
  go_wp2_with fail
  refine (src_n w1 w.heap.size sl n 20 (by decide) hn (unhide HS1) ((unhide HD).below hb1)).mono ?_
  rintro e w2 ⟨r, rfl, hr, hS2, ht2⟩
  have hb2 := hb1.trans ht2.below
  have HS2 := hide hS2
  clear hS2 ht2
  go_wp2_with fail
  refine (src_bytes w2 w.heap.size sl n r (by omega) hn (unhide HS2) ((unhide HD).below hb2)).mono ?_
  rintro e w3 ⟨xs, rfl, hxl, hS3, hb3⟩
  have hb4 := hb2.trans hb3
  have hxl2 : xs.length < 20 := by omega
  have HS3 := hide hS3
  clear hS3 hxl
  go_wp2_with fail
  refine (src_one w3 w.heap.size sl n 2 (by decide) hn (unhide HS3) ((unhide HD).below hb4)).mono ?_
  rintro e w4 ⟨b, rfl, hS4, ht4⟩
  go_wp2
  go_ret2
  exact ⟨xs, b, rfl, hxl2, hb4.trans ht4.below⟩

set_option maxHeartbeats 1000000 in
theorem drawFcs (w : World) (sl : Value) (n : Nat) (hn : n ≤ maxLen) (hD : Dat w w.heap.size sl n) :
    Calls Tryd.prog 6 #[sl] w fun e w' => ∃ (x : Int) (xs : List Int), e = .returned (.tuple #[.int .i64 x, .string (strOfNums xs)]) ∧ -9223372036854775808 ≤ x ∧ x ≤ 9223372036854775807 ∧ xs.length < 12 ∧ Below w.heap.size w w' := by
  have c := src_new w sl n hn hD
  have HD := hide hD
  clear hD
  go_enter Tryd.func6, Tryd.ntmps6
  go_wp2_with fail
  refine c.mono ?_
  rintro e w1 ⟨rfl, hS1, hb1⟩
  have HS1 := hide hS1
  clear hS1 c
  go_wp2_with fail
  refine (src_sumOf w1 w.heap.size sl n hn (unhide HS1) ((unhide HD).below hb1)).mono ?_
  rintro e w2 ⟨x, rfl, hx1, hx2, hS2, hb2⟩
  have hb3 := hb1.trans hb2
  have HS2 := hide hS2
  clear hS2
  go_wp2_with fail
  refine (src_n w2 w.heap.size sl n 12 (by decide) hn (unhide HS2) ((unhide HD).below hb3)).mono ?_
  rintro e w3 ⟨r, rfl, hr, hS3, ht3⟩
  have hb4 := hb3.trans ht3.below
  have HS3 := hide hS3
  clear hS3 ht3
  go_wp2_with fail
  refine (src_bytes w3 w.heap.size sl n r (by omega) hn (unhide HS3) ((unhide HD).below hb4)).mono ?_
  rintro e w4 ⟨xs, rfl, hxl, hS4, hb5⟩
  have hxl2 : xs.length < 12 := by omega
  clear hxl
  go_wp2
  go_ret2
  exact ⟨x, xs, rfl, hx1, hx2, hxl2, hb4.trans hb5⟩
end Go.Proofs.YtdjlkchdomllhaaDoor
