/- One option's rule, looked for in the map, and a copy of an option; what lay in memory stands. -/
import Derived.Test.YtkadbghglmlpkaaJudge
import Derived.Test.YtkadbghglmlpkaaCln
import Derived.Test.YtkadbghglmlpkaaRow6
import Derived.Laws.ResultCell
import Derived.Deep.RegionHeld3
namespace Go.Proofs.Ytkadbghglmlpkaa
open Go.RowKit
theorem row2x {w : World} {B : Nat} {x0 x1 : Value} {T : TypeId} (h : w.heap[B]? = some (.cells #[x0, x1] T)) :
    w.cell? ⟨B, 0, none⟩ = some x0 ∧ w.cell? ⟨B, 1, none⟩ = some x1 ∧ w.frozen? ⟨B, 0, none⟩ = false ∧ w.frozen? ⟨B, 1, none⟩ = false :=
  ⟨by rw [cell_of_row _ _ _ _ _ _ h]; rfl, by rw [cell_of_row _ _ _ _ _ _ h]; rfl, frz h _, frz h _⟩
theorem start2r (w : World) (a b : Obj) : ((w.alloc a).alloc b).heap.size = w.heap.size + 1 + 1 ∧ ((w.alloc a).alloc b).heap[w.heap.size]? = some a ∧ ((w.alloc a).alloc b).heap[w.heap.size + 1]? = some b ∧ Below w.heap.size w ((w.alloc a).alloc b) := by
  have s1 : (w.alloc a).heap.size = w.heap.size + 1 := by simp
  have e2 := heap_alloc_new (w.alloc a) b
  rw [s1] at e2
  refine ⟨by simp, ?_, e2, ((Below.refl _ _).alloc (Nat.le_refl _) _).alloc (by omega) _⟩
  rw [Below.heap_alloc _ _ _ (by omega)]
  exact heap_alloc_new w a
theorem infoOp : (Try.prog.info? 54).map (·.size) = some 2 := by kernel_rfl
theorem load2 {W : World} {E : Nat} {x0 x1 : Value} (h : W.heap[E]? = some (.cells #[x0, x1] 54)) : (loadVar 54 ⟨E, 0, none⟩).run Try.prog W = .ok (.agg #[x0, x1]) W :=
  run_loadVar_row (P := Try.prog) _ _ 54 54 #[x0, x1] (0, 0) _ h Try.underlying54 rfl infoOp
theorem set2_at {W : World} {E : Nat} {z0 z1 : Value} {T : TypeId} (h : W.heap[E]? = some (.cells #[z0, z1] T)) (x0 x1 : Value) :
    ((W.setCell ⟨E, 0, none⟩ x0).setCell ⟨E, 1, none⟩ x1).heap[E]? = some (.cells #[x0, x1] T) :=
  heap_setCell_same _ _ 1 _ _ x1 (heap_setCell_same _ _ 0 _ _ x0 h)
set_option maxHeartbeats 400000 in
theorem strClone (t : ByteArray) (w : World) (ht : t.size ≤ 20) : Calls Try.prog 82 #[.string t] w fun e w' => e = .returned (.string t) ∧ Below w.heap.size w w' := by
  have C := hide (Any.stringslite_Clone Try.laysCln t w (by omega))
  go_enter Try.func82, Try.ntmps82
  go_wp2_with fail
  refine (unhide C).mono ?_
  rintro e w1 ⟨rfl, hb⟩
  go_wp2
  go_ret
  exact ⟨rfl, hb⟩
set_option maxHeartbeats 1000000 in
theorem sameOpt (k : Int) (t : ByteArray) (w : World) (ht : t.size ≤ 20) : Calls Try.prog 48 #[.agg #[.int .i64 k, .string t]] w fun e w' => e = .returned (.agg #[.int .i64 k, .string t]) ∧ Below w.heap.size w w' := by
  obtain ⟨hs, q0, q1, hb0⟩ := start2r w (.cells #[.int .i64 k, .string t] 54) (.cells #[.int .i64 0, .string ⟨#[]⟩] 54)
  have HQ := hide (And.intro hs (And.intro q0 (And.intro q1 hb0)))
  have C := hide fun v => strClone t v ht
  clear hs q0 q1 hb0
  go_enter Try.func48, Try.ntmps48
  go_wp2_with fail
  refine gen_world (fun q => q.heap.size = w.heap.size + 1 + 1 ∧ q.heap[w.heap.size]? = some (.cells #[.int .i64 k, .string t] 54) ∧ q.heap[w.heap.size + 1]? = some (.cells #[.int .i64 0, .string ⟨#[]⟩] 54) ∧ Below w.heap.size w q) (unhide HQ) ?_
  rintro q ⟨hs, h0, h1, hb⟩
  obtain ⟨c0, c1, _, _⟩ := row2x h0
  have HH := hide (And.intro hs (And.intro h0 (And.intro h1 hb)))
  clear hs h0 h1 hb HQ
  go_region_with (first
    | (go_at_call 82; refine (unhide C _).mono ?_; rintro e w3 ⟨rfl, hb3⟩
       have hz : q.heap.size = w.heap.size + 1 + 1 := (unhide HH).1
       have hr3 := (hb3.block w.heap.size (by show w.heap.size < q.heap.size; omega)).trans (unhide HH).2.1
       have ho3 := (hb3.block (w.heap.size + 1) (by show w.heap.size + 1 < q.heap.size; omega)).trans (unhide HH).2.2.1
       obtain ⟨k0, k1, _, _⟩ := row2x hr3
       obtain ⟨o0, o1, p0, p1⟩ := row2x ho3
       have hbb : Below w.heap.size w w3 := (unhide HH).2.2.2.trans ((show Below q.heap.size q w3 from ⟨hb3.os, hb3.tape, hb3.output, hb3.size, hb3.block⟩).mono (by omega))
       have HX := hide (And.intro ho3 hbb)
       clear hr3 ho3 hb3 hbb hz))
  all_goals
    go_wp2
    refine bodyPost_ret (v := .agg #[.int .i64 k, .string t]) (by simp [results, Try.results48, asAddr, load2 (set2_at (unhide HX).1 (.int .i64 k) (.string t))]) rfl ⟨rfl, ?_⟩
    exact ((unhide HX).2.setCell (p := ⟨w.heap.size + 1, 0, none⟩) (Nat.le_succ _) _).setCell (p := ⟨w.heap.size + 1, 1, none⟩) (Nat.le_succ _) _
end Go.Proofs.Ytkadbghglmlpkaa
