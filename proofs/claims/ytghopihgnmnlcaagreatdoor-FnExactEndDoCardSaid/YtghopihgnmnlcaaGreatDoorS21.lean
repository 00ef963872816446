/- One option's rule, looked for in the map, and a copy of an option; what lay in memory stands. -/
import Derived.Test.YtghopihgnmnlcaaGreatDoorS20
import Derived.Test.YtghopihgnmnlcaaGreatDoorCln
import Derived.Test.YtghopihgnmnlcaaGreatDoorS05
namespace Go.Proofs.YtghopihgnmnlcaaGreatDoor
open Go.RowKit
set_option maxHeartbeats 400000 in
theorem strClone (t : ByteArray) (w : World) (ht : t.size ≤ 20) : Calls Tryz.prog 138 #[.string t] w fun e w' => e = .returned (.string t) ∧ Below w.heap.size w w' := by
  have C := hide (Any.stringslite_Clone Tryz.laysCln t w (by omega))
  go_enter Tryz.func138, Tryz.ntmps138
  go_wp2_with fail
  refine (unhide C).mono ?_
  rintro e w1 ⟨rfl, hb⟩
  go_wp2
  go_ret
  exact ⟨rfl, hb⟩
set_option maxHeartbeats 1000000 in
theorem sameOpt (k : Int) (t : ByteArray) (w : World) (ht : t.size ≤ 20) : Calls Tryz.prog 117 #[.agg #[.int .i64 k, .string t]] w fun e w' => e = .returned (.agg #[.int .i64 k, .string t]) ∧ Below w.heap.size w w' := by
  obtain ⟨hs, q0, q1, hb0⟩ := start2r w (.cells #[.int .i64 k, .string t] 118) (.cells #[.int .i64 0, .string ⟨#[]⟩] 118)
  have HQ := hide (And.intro hs (And.intro q0 (And.intro q1 hb0)))
  have C := hide fun v => strClone t v ht
  clear hs q0 q1 hb0
  go_enter Tryz.func117, Tryz.ntmps117
  go_wp2_with fail
  refine gen_world (fun q => q.heap.size = w.heap.size + 1 + 1 ∧ q.heap[w.heap.size]? = some (.cells #[.int .i64 k, .string t] 118) ∧ q.heap[w.heap.size + 1]? = some (.cells #[.int .i64 0, .string ⟨#[]⟩] 118) ∧ Below w.heap.size w q) (unhide HQ) ?_
  rintro q ⟨hs, h0, h1, hb⟩
  obtain ⟨c0, c1, _, _⟩ := row2x h0
  have HH := hide (And.intro hs (And.intro h0 (And.intro h1 hb)))
  clear hs h0 h1 hb HQ
  go_region_with (first
    | (go_at_call 138; refine (unhide C _).mono ?_; rintro e w3 ⟨rfl, hb3⟩
       have hz : q.heap.size = w.heap.size + 1 + 1 := (unhide HH).1
       have hr3 := (hb3.block w.heap.size (by show w.heap.size < q.heap.size; omega)).trans (unhide HH).2.1
       have ho3 := (hb3.block (w.heap.size + 1) (by show w.heap.size + 1 < q.heap.size; omega)).trans (unhide HH).2.2.1
       obtain ⟨k0, k1, _, _⟩ := row2x hr3
       obtain ⟨o0, o1, p0, p1⟩ := row2x ho3
       have hbb : Below w.heap.size w w3 := (unhide HH).2.2.2.trans ((show Below q.heap.size q w3 from ⟨hb3.os, hb3.tape, hb3.output, hb3.size, hb3.block⟩).mono (by omega))
       have HX := hide (And.intro ho3 hbb)
       clear hr3 ho3 hb3 hbb hz))
  all_goals
    go_wp2
    refine bodyPost_ret (v := .agg #[.int .i64 k, .string t]) (by simp [results, Tryz.results117, asAddr, load2 (set2_at (unhide HX).1 (.int .i64 k) (.string t))]) rfl ⟨rfl, ?_⟩
    exact ((unhide HX).2.setCell (p := ⟨w.heap.size + 1, 0, none⟩) (Nat.le_succ _) _).setCell (p := ⟨w.heap.size + 1, 1, none⟩) (Nat.le_succ _) _
end Go.Proofs.YtghopihgnmnlcaaGreatDoor
