/- The rules of options, by kind, as the program lays them in a map; what lay in memory stands. -/
import Derived.Test.YtakbldleomhggaaBase
import Derived.MapKept
import Derived.Laws.EntriesVeiled
import Derived.Deep.WholeRow
namespace Go.Proofs.Ytakbldleomhggaa
open Go.RowKit
/-- A function of the program as a value. -/
abbrev fnV (f : Nat) : Value := .func (.func f) #[] #[]
/-- A rule as a value. -/
abbrev ruleV (k : Int) (a b c d e : Nat) : Value := .agg #[.int .i64 k, fnV a, fnV b, fnV c, fnV d, fnV e]
theorem put_at (w : World) (M : Nat) (es : Array MapEntry) (c : Nat) (k : Int) (v : Value) (hb : w.heap[M]? = some (.map es c)) (hf : Instr.findNow (.int .i64) (.int .i64 k) es.toList 0 = some none) :
    ∃ W, (Instr.mapUpdate 95 (.map (some M)) (.int .i64 k) v).run Try.prog w = .ok () W ∧ W.heap[M]? = some (.map (es.push { key := .int .i64 k, val := v, born := c }) (c + 1)) ∧ (∀ B, B ≤ M → Below B w W) := by
  refine ⟨{ w with heap := w.heap.setIfInBounds M (.map (es.push { key := .int .i64 k, val := v, born := c }) (c + 1)) }, ?_, (MapKept.heap_set hb).1, fun B hB => ⟨rfl, rfl, rfl, ?_, fun g hg => (MapKept.heap_set hb).2 g (by omega)⟩⟩
  · unfold Instr.mapUpdate
    simp only [Sem.run_bind, run_underlying Try.underlying95, MapKept.run_getObj_map hb, MapKept.run_checkKey Try.underlying2 (d := .int .i64) (k := .int .i64 k) (by trivial), MapKept.run_findKey Try.underlying2 hf, Result.andThen]
    rw [MapKept.run_setObj_map _ hb]
  · simp
theorem look_at (w : World) (M : Nat) (es : Array MapEntry) (c i : Nat) (k : Int) (v : Value) (hb : w.heap[M]? = some (.map es c)) (hf : Instr.findNow (.int .i64) (.int .i64 k) es.toList 0 = some (some (i, v))) :
    (Instr.lookup 95 (.map (some M)) (.int .i64 k) false).run Try.prog w = .ok v w := by
  unfold Instr.lookup
  simp only [Sem.run_bind, Sem.run_pure, run_underlying Try.underlying95, MapKept.run_getObj_map hb, MapKept.run_checkKey Try.underlying2 (d := .int .i64) (k := .int .i64 k) (by trivial), MapKept.run_findKey Try.underlying2 hf, Result.andThen]
  rfl
set_option maxHeartbeats 400000 in
theorem mruRule (w : World) : Calls Try.prog 74 #[] w fun e w' => e = .returned (ruleV 2 83 84 86 87 88) ∧ Below w.heap.size w w' := by
  go_enter Try.func74, Try.ntmps74
  go_wp2
  refine bodyPost_ret (v := (ruleV 2 83 84 86 87 88)) (by simp [results, Try.results74, go_sem]) rfl ⟨rfl, ?_⟩
  exact (Below.refl _ _).alloc (Nat.le_refl _) _
set_option maxHeartbeats 400000 in
theorem accmRule (w : World) : Calls Try.prog 75 #[] w fun e w' => e = .returned (ruleV 4 89 90 91 92 93) ∧ Below w.heap.size w w' := by
  go_enter Try.func75, Try.ntmps75
  go_wp2
  refine bodyPost_ret (v := (ruleV 4 89 90 91 92 93)) (by simp [results, Try.results75, go_sem]) rfl ⟨rfl, ?_⟩
  exact (Below.refl _ _).alloc (Nat.le_refl _) _
set_option maxHeartbeats 400000 in
theorem magicRule (w : World) : Calls Try.prog 76 #[] w fun e w' => e = .returned (ruleV 4 94 95 97 98 99) ∧ Below w.heap.size w w' := by
  go_enter Try.func76, Try.ntmps76
  go_wp2
  refine bodyPost_ret (v := (ruleV 4 94 95 97 98 99)) (by simp [results, Try.results76, go_sem]) rfl ⟨rfl, ?_⟩
  exact (Below.refl _ _).alloc (Nat.le_refl _) _
set_option maxHeartbeats 400000 in
theorem pfcRule (w : World) : Calls Try.prog 77 #[] w fun e w' => e = .returned (ruleV 0 100 101 102 103 104) ∧ Below w.heap.size w w' := by
  go_enter Try.func77, Try.ntmps77
  go_wp2
  refine bodyPost_ret (v := (ruleV 0 100 101 102 103 104)) (by simp [results, Try.results77, go_sem]) rfl ⟨rfl, ?_⟩
  exact (Below.refl _ _).alloc (Nat.le_refl _) _
set_option maxHeartbeats 400000 in
theorem acfcRule (w : World) : Calls Try.prog 78 #[] w fun e w' => e = .returned (ruleV 0 105 106 107 108 109) ∧ Below w.heap.size w w' := by
  go_enter Try.func78, Try.ntmps78
  go_wp2
  refine bodyPost_ret (v := (ruleV 0 105 106 107 108 109)) (by simp [results, Try.results78, go_sem]) rfl ⟨rfl, ?_⟩
  exact (Below.refl _ _).alloc (Nat.le_refl _) _
set_option maxHeartbeats 400000 in
theorem fcsRule (w : World) : Calls Try.prog 79 #[] w fun e w' => e = .returned (ruleV 1 110 111 112 113 114) ∧ Below w.heap.size w w' := by
  go_enter Try.func79, Try.ntmps79
  go_wp2
  refine bodyPost_ret (v := (ruleV 1 110 111 112 113 114)) (by simp [results, Try.results79, go_sem]) rfl ⟨rfl, ?_⟩
  exact (Below.refl _ _).alloc (Nat.le_refl _) _
/-- The rules, by kind. -/
def rules : Array MapEntry := #[{ key := .int .i64 1, val := (ruleV 2 83 84 86 87 88), born := 0 }, { key := .int .i64 2, val := (ruleV 4 89 90 91 92 93), born := 1 }, { key := .int .i64 5, val := (ruleV 4 94 95 97 98 99), born := 2 }, { key := .int .i64 7, val := (ruleV 0 100 101 102 103 104), born := 3 }, { key := .int .i64 8, val := (ruleV 0 105 106 107 108 109), born := 4 }, { key := .int .i64 9, val := (ruleV 1 110 111 112 113 114), born := 5 }]
set_option maxHeartbeats 2000000 in
theorem optionRules (w : World) : Calls Try.prog 68 #[] w fun e w' => e = .returned (.map (some w.heap.size)) ∧ w'.heap[w.heap.size]? = some (.map rules 6) ∧ Below w.heap.size w w' := by
  have hmm := @run_makeMap Try.prog
  have hb0 := (Below.refl w.heap.size w).alloc (Nat.le_refl _) (.map #[] 0)
  have hm0 : (w.alloc (.map #[] 0)).heap[w.heap.size]? = some (.map #[] 0) := heap_alloc_last w _
  have hl0 : (w.alloc (.map #[] 0)).heap.size = w.heap.size + 1 := by simp
  go_enter Try.func68, Try.ntmps68
  go_wp2_with fail
  refine (mruRule _).mono ?_
  rintro e v1 ⟨rfl, hc1⟩
  have hn1 := (hc1.block w.heap.size (Array.getElem?_eq_some_iff.1 hm0).1).trans hm0
  have hd1 := hb0.trans (hc1.mono hb0.size)
  obtain ⟨w1, hp1, hm1, hq1⟩ := put_at v1 w.heap.size #[] 0 1 (ruleV 2 83 84 86 87 88) hn1 rfl
  have hb1 := hd1.trans (hq1 _ (Nat.le_refl _))
  simp only [List.push_toArray, List.nil_append] at hm1
  clear hc1 hn1 hd1 hq1 hb0 hm0
  go_wp2_with fail
  refine (accmRule _).mono ?_
  rintro e v2 ⟨rfl, hc2⟩
  have hn2 := (hc2.block w.heap.size (Array.getElem?_eq_some_iff.1 hm1).1).trans hm1
  have hd2 := hb1.trans (hc2.mono hb1.size)
  obtain ⟨w2, hp2, hm2, hq2⟩ := put_at v2 w.heap.size #[{ key := .int .i64 1, val := (ruleV 2 83 84 86 87 88), born := 0 }] 1 2 (ruleV 4 89 90 91 92 93) hn2 rfl
  have hb2 := hd2.trans (hq2 _ (Nat.le_refl _))
  simp only [List.push_toArray, List.cons_append, List.nil_append] at hm2
  clear hc2 hn2 hd2 hq2 hb1 hm1
  go_wp2_with fail
  refine (magicRule _).mono ?_
  rintro e v3 ⟨rfl, hc3⟩
  have hn3 := (hc3.block w.heap.size (Array.getElem?_eq_some_iff.1 hm2).1).trans hm2
  have hd3 := hb2.trans (hc3.mono hb2.size)
  obtain ⟨w3, hp3, hm3, hq3⟩ := put_at v3 w.heap.size #[{ key := .int .i64 1, val := (ruleV 2 83 84 86 87 88), born := 0 }, { key := .int .i64 2, val := (ruleV 4 89 90 91 92 93), born := 1 }] 2 5 (ruleV 4 94 95 97 98 99) hn3 rfl
  have hb3 := hd3.trans (hq3 _ (Nat.le_refl _))
  simp only [List.push_toArray, List.cons_append, List.nil_append] at hm3
  clear hc3 hn3 hd3 hq3 hb2 hm2
  go_wp2_with fail
  refine (pfcRule _).mono ?_
  rintro e v4 ⟨rfl, hc4⟩
  have hn4 := (hc4.block w.heap.size (Array.getElem?_eq_some_iff.1 hm3).1).trans hm3
  have hd4 := hb3.trans (hc4.mono hb3.size)
  obtain ⟨w4, hp4, hm4, hq4⟩ := put_at v4 w.heap.size #[{ key := .int .i64 1, val := (ruleV 2 83 84 86 87 88), born := 0 }, { key := .int .i64 2, val := (ruleV 4 89 90 91 92 93), born := 1 }, { key := .int .i64 5, val := (ruleV 4 94 95 97 98 99), born := 2 }] 3 7 (ruleV 0 100 101 102 103 104) hn4 rfl
  have hb4 := hd4.trans (hq4 _ (Nat.le_refl _))
  simp only [List.push_toArray, List.cons_append, List.nil_append] at hm4
  clear hc4 hn4 hd4 hq4 hb3 hm3
  go_wp2_with fail
  refine (acfcRule _).mono ?_
  rintro e v5 ⟨rfl, hc5⟩
  have hn5 := (hc5.block w.heap.size (Array.getElem?_eq_some_iff.1 hm4).1).trans hm4
  have hd5 := hb4.trans (hc5.mono hb4.size)
  obtain ⟨w5, hp5, hm5, hq5⟩ := put_at v5 w.heap.size #[{ key := .int .i64 1, val := (ruleV 2 83 84 86 87 88), born := 0 }, { key := .int .i64 2, val := (ruleV 4 89 90 91 92 93), born := 1 }, { key := .int .i64 5, val := (ruleV 4 94 95 97 98 99), born := 2 }, { key := .int .i64 7, val := (ruleV 0 100 101 102 103 104), born := 3 }] 4 8 (ruleV 0 105 106 107 108 109) hn5 rfl
  have hb5 := hd5.trans (hq5 _ (Nat.le_refl _))
  simp only [List.push_toArray, List.cons_append, List.nil_append] at hm5
  clear hc5 hn5 hd5 hq5 hb4 hm4
  go_wp2_with fail
  refine (fcsRule _).mono ?_
  rintro e v6 ⟨rfl, hc6⟩
  have hn6 := (hc6.block w.heap.size (Array.getElem?_eq_some_iff.1 hm5).1).trans hm5
  have hd6 := hb5.trans (hc6.mono hb5.size)
  obtain ⟨w6, hp6, hm6, hq6⟩ := put_at v6 w.heap.size #[{ key := .int .i64 1, val := (ruleV 2 83 84 86 87 88), born := 0 }, { key := .int .i64 2, val := (ruleV 4 89 90 91 92 93), born := 1 }, { key := .int .i64 5, val := (ruleV 4 94 95 97 98 99), born := 2 }, { key := .int .i64 7, val := (ruleV 0 100 101 102 103 104), born := 3 }, { key := .int .i64 8, val := (ruleV 0 105 106 107 108 109), born := 4 }] 5 9 (ruleV 1 110 111 112 113 114) hn6 rfl
  have hb6 := hd6.trans (hq6 _ (Nat.le_refl _))
  simp only [List.push_toArray, List.cons_append, List.nil_append] at hm6
  clear hc6 hn6 hd6 hq6 hb5 hm5
  go_wp2
  go_ret
  exact ⟨rfl, hm6, hb6⟩
end Go.Proofs.Ytakbldleomhggaa
