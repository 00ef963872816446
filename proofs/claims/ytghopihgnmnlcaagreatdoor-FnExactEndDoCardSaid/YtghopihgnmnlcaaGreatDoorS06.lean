/- An option's rule, looked for in the map of rules; what lay in memory stands. -/
import Derived.Test.YtghopihgnmnlcaaGreatDoorS05
namespace Go.Proofs.YtghopihgnmnlcaaGreatDoor
open Go.RowKit
theorem look2_at (w : World) (M : Nat) (es : Array MapEntry) (c i : Nat) (k : Int) (v : Value) (hb : w.heap[M]? = some (.map es c)) (hf : Instr.findNow (.int .i64) (.int .i64 k) es.toList 0 = some (some (i, v))) :
    (Instr.lookup 179 (.map (some M)) (.int .i64 k) true).run Tryz.prog w = .ok (.tuple #[v, .bool true]) w := by
  unfold Instr.lookup
  simp only [Sem.run_bind, Sem.run_pure, run_underlying Tryz.underlying179, MapKept.run_getObj_map hb, MapKept.run_checkKey Tryz.underlying2 (d := .int .i64) (k := .int .i64 k) (by trivial), MapKept.run_findKey Tryz.underlying2 hf, Result.andThen]
  rfl
/-- No rule. -/
abbrev noRule : Value := .agg #[.int .i64 0, .nilFunc, .nilFunc, .nilFunc, .nilFunc, .nilFunc]
theorem look2_no (w : World) (M : Nat) (es : Array MapEntry) (c : Nat) (k : Int) (hb : w.heap[M]? = some (.map es c)) (hf : Instr.findNow (.int .i64) (.int .i64 k) es.toList 0 = some none) :
    (Instr.lookup 179 (.map (some M)) (.int .i64 k) true).run Tryz.prog w = .ok (.tuple #[noRule, .bool false]) w := by
  unfold Instr.lookup
  simp only [Sem.run_bind, Sem.run_pure, run_underlying Tryz.underlying179, MapKept.run_getObj_map hb, MapKept.run_checkKey Tryz.underlying2 (d := .int .i64) (k := .int .i64 k) (by trivial), MapKept.run_findKey Tryz.underlying2 hf, Result.andThen, Tryz.zeroValue187]
  rfl
theorem info6 : (Tryz.prog.info? 187).map (·.size) = some 6 := by kernel_rfl
theorem load6 {W : World} {E : Nat} {x0 x1 x2 x3 x4 x5 : Value} (h : W.heap[E]? = some (.cells #[x0, x1, x2, x3, x4, x5] 187)) : (loadVar 187 ⟨E, 0, none⟩).run Tryz.prog W = .ok (.agg #[x0, x1, x2, x3, x4, x5]) W :=
  run_loadVar_row (P := Tryz.prog) _ _ 187 187 #[x0, x1, x2, x3, x4, x5] (0, 0) _ h Tryz.underlying187 rfl info6
theorem load6d {W : World} {E : Nat} {x0 x1 x2 x3 x4 x5 : Value} (h : W.heap[E]? = some (.cells #[x0, x1, x2, x3, x4, x5] 187)) : (loadVar 187 ⟨E, 0, none⟩).run Tryz.prog W.drew = .ok (.agg #[x0, x1, x2, x3, x4, x5]) W.drew :=
  load6 (W := W.drew) h
theorem set6_at {W : World} {E : Nat} {z0 z1 z2 z3 z4 z5 : Value} {T : TypeId} (h : W.heap[E]? = some (.cells #[z0, z1, z2, z3, z4, z5] T)) (x0 x1 x2 x3 x4 x5 : Value) :
    ((((((W.setCell ⟨E, 0, none⟩ x0).setCell ⟨E, 1, none⟩ x1).setCell ⟨E, 2, none⟩ x2).setCell ⟨E, 3, none⟩ x3).setCell ⟨E, 4, none⟩ x4).setCell ⟨E, 5, none⟩ x5).heap[E]? = some (.cells #[x0, x1, x2, x3, x4, x5] T) :=
  heap_setCell_same _ _ 5 _ _ x5 (heap_setCell_same _ _ 4 _ _ x4 (heap_setCell_same _ _ 3 _ _ x3 (heap_setCell_same _ _ 2 _ _ x2 (heap_setCell_same _ _ 1 _ _ x1 (heap_setCell_same _ _ 0 _ _ x0 h)))))
theorem set6_below {n : Nat} {w W : World} {E : Nat} (h : Below n w W) (hE : n ≤ E) (x0 x1 x2 x3 x4 x5 : Value) :
    Below n w ((((((W.setCell ⟨E, 0, none⟩ x0).setCell ⟨E, 1, none⟩ x1).setCell ⟨E, 2, none⟩ x2).setCell ⟨E, 3, none⟩ x3).setCell ⟨E, 4, none⟩ x4).setCell ⟨E, 5, none⟩ x5) :=
  (((((h.setCell (p := ⟨E, 0, none⟩) hE _).setCell (p := ⟨E, 1, none⟩) hE _).setCell (p := ⟨E, 2, none⟩) hE _).setCell (p := ⟨E, 3, none⟩) hE _).setCell (p := ⟨E, 4, none⟩) hE _).setCell (p := ⟨E, 5, none⟩) hE _
theorem row6f {w : World} {B : Nat} {x0 x1 x2 x3 x4 x5 : Value} {T : TypeId} (h : w.heap[B]? = some (.cells #[x0, x1, x2, x3, x4, x5] T)) :
    w.frozen? ⟨B, 0, none⟩ = false ∧ w.frozen? ⟨B, 1, none⟩ = false ∧ w.frozen? ⟨B, 2, none⟩ = false ∧ w.frozen? ⟨B, 3, none⟩ = false ∧ w.frozen? ⟨B, 4, none⟩ = false ∧ w.frozen? ⟨B, 5, none⟩ = false :=
  ⟨frz h _, frz h _, frz h _, frz h _, frz h _, frz h _⟩
set_option maxHeartbeats 2000000 in
theorem ruleOf_yes (M : Nat) (k : Int) (t : ByteArray) (s f f2 f3 f4 f5 j : Nat) (w : World) (hM : w.heap[M]? = some (.map rules 6)) (hf : Instr.findNow (.int .i64) (.int .i64 k) rules.toList 0 = some (some (j, ruleV s f f2 f3 f4 f5))) :
    Calls Tryz.prog 136 #[.map (some M), .agg #[.int .i64 k, .string t]] w fun e w' => e = .returned (.tuple #[ruleV s f f2 f3 f4 f5, .bool ((t.size : Int) == (s : Int))]) ∧ Below w.heap.size w w' := by
  have hMl : M < w.heap.size := (Array.getElem?_eq_some_iff.1 hM).1
  obtain ⟨hs, q0, q1, hb0⟩ := start2r w (.cells #[.int .i64 k, .string t] 118) (.cells #[.int .i64 0, .nilFunc, .nilFunc, .nilFunc, .nilFunc, .nilFunc] 187)
  have hlk := look2_at ((w.alloc (.cells #[.int .i64 k, .string t] 118)).alloc (.cells #[.int .i64 0, .nilFunc, .nilFunc, .nilFunc, .nilFunc, .nilFunc] 187)) M rules 6 j k _ ((hb0.block M hMl).trans hM) hf
  have HQ := hide (And.intro hs (And.intro q0 (And.intro q1 hb0)))
  clear hs q0 q1 hb0 hM hf
  go_enter Tryz.func136, Tryz.ntmps136
  go_upto_region 2 with fail
  refine gen_world (fun q => q.heap[w.heap.size]? = some (.cells #[.int .i64 k, .string t] 118) ∧ q.heap[w.heap.size + 1]? = some (.cells #[.int .i64 0, .nilFunc, .nilFunc, .nilFunc, .nilFunc, .nilFunc] 187) ∧ q.heap[w.heap.size + 1 + 1]? = some (.cells #[.int .i64 s, fnV f, fnV f2, fnV f3, fnV f4, fnV f5] 187) ∧ Below w.heap.size w q) (by
      obtain ⟨hs, q0, q1, hb0⟩ := unhide HQ
      have hn := heap_alloc_new ((w.alloc (.cells #[.int .i64 k, .string t] 118)).alloc (.cells #[.int .i64 0, .nilFunc, .nilFunc, .nilFunc, .nilFunc, .nilFunc] 187)) (.cells #[.int .i64 s, fnV f, fnV f2, fnV f3, fnV f4, fnV f5] 187)
      rw [hs] at hn
      exact ⟨(Below.heap_alloc _ _ _ (by omega)).trans q0, (Below.heap_alloc _ _ _ (by omega)).trans q1, hn, hb0.alloc hb0.size _⟩) ?_
  rintro q ⟨h0, h1, h2, hb⟩
  clear hlk HQ
  obtain ⟨c0, c1, _, _⟩ := row2x h0
  obtain ⟨e0, e1, e2, e3, e4, e5⟩ := row6 h1
  obtain ⟨g0, g1, g2, g3, g4, g5⟩ := row6f h1
  obtain ⟨r0, r1, r2, r3, r4, r5⟩ := row6 h2
  have HH := hide (And.intro h1 hb)
  clear h0 h1 h2 hb
  go_region_held3 (fun z => z.cell? ⟨w.heap.size, 1, none⟩ = some (.string t) ∧ z.cell? ⟨w.heap.size + 1 + 1, 0, none⟩ = some (.int .i64 s) ∧ z.cell? ⟨w.heap.size + 1 + 1, 1, none⟩ = some (fnV f) ∧ z.cell? ⟨w.heap.size + 1 + 1, 2, none⟩ = some (fnV f2) ∧ z.cell? ⟨w.heap.size + 1 + 1, 3, none⟩ = some (fnV f3) ∧ z.cell? ⟨w.heap.size + 1 + 1, 4, none⟩ = some (fnV f4) ∧ z.cell? ⟨w.heap.size + 1 + 1, 5, none⟩ = some (fnV f5)) (go_keep) (fail)
  all_goals
    go_wp2
    refine bodyPost_ret (v := .tuple #[ruleV s f f2 f3 f4 f5, .bool ((t.size : Int) == (s : Int))]) (by simp [results, Tryz.results136, asAddr, load6d (set6_at (unhide HH).1 (.int .i64 s) (fnV f) (fnV f2) (fnV f3) (fnV f4) (fnV f5))]) rfl ⟨rfl, ?_⟩
    exact (set6_below (unhide HH).2 (Nat.le_succ _) _ _ _ _ _ _).drew
set_option maxHeartbeats 2000000 in
theorem ruleOf_no (M : Nat) (k : Int) (t : ByteArray) (w : World) (hM : w.heap[M]? = some (.map rules 6)) (hf : Instr.findNow (.int .i64) (.int .i64 k) rules.toList 0 = some none) :
    Calls Tryz.prog 136 #[.map (some M), .agg #[.int .i64 k, .string t]] w fun e w' => e = .returned (.tuple #[noRule, .bool false]) ∧ Below w.heap.size w w' := by
  have hMl : M < w.heap.size := (Array.getElem?_eq_some_iff.1 hM).1
  obtain ⟨hs, q0, q1, hb0⟩ := start2r w (.cells #[.int .i64 k, .string t] 118) (.cells #[.int .i64 0, .nilFunc, .nilFunc, .nilFunc, .nilFunc, .nilFunc] 187)
  have hlk := look2_no ((w.alloc (.cells #[.int .i64 k, .string t] 118)).alloc (.cells #[.int .i64 0, .nilFunc, .nilFunc, .nilFunc, .nilFunc, .nilFunc] 187)) M rules 6 k ((hb0.block M hMl).trans hM) hf
  have HQ := hide (And.intro hs (And.intro q0 (And.intro q1 hb0)))
  clear hs q0 q1 hb0 hM hf
  go_enter Tryz.func136, Tryz.ntmps136
  go_upto_region 2 with fail
  refine gen_world (fun q => q.heap[w.heap.size]? = some (.cells #[.int .i64 k, .string t] 118) ∧ q.heap[w.heap.size + 1]? = some (.cells #[.int .i64 0, .nilFunc, .nilFunc, .nilFunc, .nilFunc, .nilFunc] 187) ∧ q.heap[w.heap.size + 1 + 1]? = some (.cells #[.int .i64 0, .nilFunc, .nilFunc, .nilFunc, .nilFunc, .nilFunc] 187) ∧ Below w.heap.size w q) (by
      obtain ⟨hs, q0, q1, hb0⟩ := unhide HQ
      have hn := heap_alloc_new ((w.alloc (.cells #[.int .i64 k, .string t] 118)).alloc (.cells #[.int .i64 0, .nilFunc, .nilFunc, .nilFunc, .nilFunc, .nilFunc] 187)) (.cells #[.int .i64 0, .nilFunc, .nilFunc, .nilFunc, .nilFunc, .nilFunc] 187)
      rw [hs] at hn
      exact ⟨(Below.heap_alloc _ _ _ (by omega)).trans q0, (Below.heap_alloc _ _ _ (by omega)).trans q1, hn, hb0.alloc hb0.size _⟩) ?_
  rintro q ⟨h0, h1, h2, hb⟩
  clear hlk HQ
  obtain ⟨c0, c1, _, _⟩ := row2x h0
  obtain ⟨e0, e1, e2, e3, e4, e5⟩ := row6 h1
  obtain ⟨g0, g1, g2, g3, g4, g5⟩ := row6f h1
  obtain ⟨r0, r1, r2, r3, r4, r5⟩ := row6 h2
  have HH := hide (And.intro h1 hb)
  clear h0 h1 h2 hb
  go_region
  all_goals
    go_wp2
    refine bodyPost_ret (v := .tuple #[noRule, .bool false]) (by simp [results, Tryz.results136, asAddr, load6d (set6_at (unhide HH).1 (.int .i64 0) .nilFunc .nilFunc .nilFunc .nilFunc .nilFunc)]) rfl ⟨rfl, ?_⟩
    exact (set6_below (unhide HH).2 (Nat.le_succ _) _ _ _ _ _ _).drew
end Go.Proofs.YtghopihgnmnlcaaGreatDoor
