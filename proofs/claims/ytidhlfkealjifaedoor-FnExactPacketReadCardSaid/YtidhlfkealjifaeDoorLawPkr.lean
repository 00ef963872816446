/- The law FnExactPacketRead walked: it returns true, and what lay in memory stands; under the library's variable errors.errorType as it is laid. -/
import Derived.Test.YtidhlfkealjifaeDoorSpecPkt
namespace Go.Proofs.YtidhlfkealjifaeDoor
open Go.RowKit
set_option maxHeartbeats 400000 in
theorem eqPk (x y : Int) (t : ByteArray) (w : World) :
    Calls Tryd.prog 20 #[.agg #[.int .i64 x, .int .i64 y, .string t], .agg #[.int .i64 x, .int .i64 y, .string t]] w fun e w' => e = .returned (.bool true) ∧ Below w.heap.size w w' := by
  go_enter Tryd.func20, Tryd.ntmps20
  go_wp2
  go_ret
  exact ⟨rfl, ((Below.refl _ _).alloc (Nat.le_refl _) _).alloc (by simp) _⟩
theorem start2 (w : World) (a b : Obj) : ((w.alloc a).alloc b).heap.size = w.heap.size + 1 + 1 ∧ ((w.alloc a).alloc b).heap[w.heap.size]? = some a ∧ ((w.alloc a).alloc b).heap[w.heap.size + 1]? = some b ∧ Below w.heap.size w ((w.alloc a).alloc b) := by
  have s1 : (w.alloc a).heap.size = w.heap.size + 1 := by simp
  have e2 := heap_alloc_new (w.alloc a) b
  rw [s1] at e2
  refine ⟨by simp, ?_, e2, ((Below.refl _ _).alloc (Nat.le_refl _) _).alloc (by omega) _⟩
  rw [Below.heap_alloc _ _ _ (by omega)]
  exact heap_alloc_new w a
set_option maxHeartbeats 1000000 in
theorem eqPo (o : Op.Out) (w : World) : Calls Tryd.prog 12 #[poV o, poV o] w fun e w' => e = .returned (.bool true) ∧ Below w.heap.size w w' := by
  obtain ⟨⟨x, y, t⟩, c⟩ := o
  unfold poV
  dsimp only
  obtain ⟨hs, q0, q1, hb0⟩ := start2 w (.cells #[.int .i64 x, .int .i64 y, .string t, .int .i64 c] 32) (.cells #[.int .i64 x, .int .i64 y, .string t, .int .i64 c] 32)
  have HQ := hide (And.intro hs (And.intro q0 (And.intro q1 hb0)))
  clear hs q0 q1 hb0
  go_enter Tryd.func12, Tryd.ntmps12
  go_wp2_with fail
  refine (eqPk x y t _).mono ?_
  rintro e w2 ⟨rfl, hb2⟩
  obtain ⟨hs, q0, q1, hb0⟩ := unhide HQ
  rw [hs] at hb2
  have r0 := (hb2.block w.heap.size (by omega)).trans q0
  have r1 := (hb2.block (w.heap.size + 1) (by omega)).trans q1
  obtain ⟨_, _, _, c3⟩ := row4v r0
  obtain ⟨_, _, _, d3⟩ := row4v r1
  have hb := hb0.trans (hb2.mono (by omega))
  clear HQ q0 q1 r0 r1 hb2 hs
  go_wp2
  go_ret
  exact ⟨rfl, hb⟩
set_option maxHeartbeats 1000000 in
theorem lawPkr (t : ByteArray) (w : World) (ht : t.size ≤ maxLen) (hE : Et w) :
    Calls Tryd.prog 4 #[.string t] w fun e w' => e = .returned (.bool true) ∧ Below w.heap.size w w' := by
  have hlt := hE.lt
  have c1 := specPktRead t w ht
  have C2 := hide fun v (hv : Below w.heap.size w v) => implPktRead t v ht (hE.below hv hlt)
  unfold maxLen at ht
  generalize Op.pread t.data.toList = o at *
  have C3 := hide fun v => eqPo o v
  obtain ⟨⟨x, y, u⟩, c⟩ := o
  unfold poV at c1 C2 C3
  dsimp only at c1 C2 C3
  by_cases h1 : t.size ≤ 1048576
  · have d1 : ¬ ((1048576 : Int) < (t.size : Int)) := by omega
    go_enter Tryd.func4, Tryd.ntmps4
    go_wp2_with fail
    refine c1.mono ?_
    rintro e w1 ⟨rfl, hb1⟩
    go_wp2_with fail
    refine (unhide C2 _ (hb1.alloc hb1.size _)).mono ?_
    rintro e w2 ⟨rfl, hb2⟩
    have hs1 : (w1.alloc (.cells #[.int .i64 x, .int .i64 y, .string u, .int .i64 c] 32)).heap.size = w1.heap.size + 1 := by simp
    have hblk : w2.heap[w1.heap.size]? = some (.cells #[.int .i64 x, .int .i64 y, .string u, .int .i64 c] 32) := (hb2.block w1.heap.size (by rw [hs1]; omega)).trans (heap_alloc_new w1 _)
    have hlt2 : w1.heap.size < w2.heap.size := (Array.getElem?_eq_some_iff.1 hblk).1
    have hblk2 : (w2.alloc (.cells #[.int .i64 x, .int .i64 y, .string u, .int .i64 c] 32)).heap[w1.heap.size]? = some (.cells #[.int .i64 x, .int .i64 y, .string u, .int .i64 c] 32) := (Below.heap_alloc _ _ _ hlt2).trans hblk
    obtain ⟨k0, k1, k2, k3⟩ := row4v hblk2
    have hb12 : Below w.heap.size w w2 := (hb1.alloc hb1.size _).trans (hb2.mono (by rw [hs1]; have := hb1.size; omega))
    clear hblk hblk2 hb2
    go_wp2_with fail
    refine (unhide C3 _).mono ?_
    rintro e w3 ⟨rfl, hb3⟩
    have hb3' := hb3.mono (show w.heap.size ≤ _ by have := hb12.size; simp; omega)
    go_wp2
    go_ret
    exact ⟨rfl, (hb12.alloc hb12.size _).trans hb3'⟩
  · have d1 : (1048576 : Int) < (t.size : Int) := by omega
    go_enter Tryd.func4, Tryd.ntmps4
    go_wp2
    go_ret
    exact ⟨rfl, Below.refl _ _⟩
end Go.Proofs.YtidhlfkealjifaeDoor
