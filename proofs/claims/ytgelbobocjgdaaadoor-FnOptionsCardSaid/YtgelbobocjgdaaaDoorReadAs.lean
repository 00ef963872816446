/- The readers of parts, and a reading of bytes laid so, the program's; what lay in memory stands. -/
import Derived.Test.YtgelbobocjgdaaaDoorReads2
import Derived.MapKept
namespace Go.Proofs.YtgelbobocjgdaaaDoor
open Go.RowKit
theorem alloc_set (w : World) (o o' : Obj) : ({ w.alloc o with heap := (w.alloc o).heap.setIfInBounds w.heap.size o' } : World) = w.alloc o' := by
  unfold World.alloc
  congr 1
  simp only [Array.push]
  simp [Array.setIfInBounds]
theorem put_new (w : World) (es : Array MapEntry) (c : Nat) (k : Int) (v : Value) (hf : Instr.findNow (.int .i64) (.int .i64 k) es.toList 0 = some none) :
    (Instr.mapUpdate 138 (.map (some w.heap.size)) (.int .i64 k) v).run Tryd.prog (w.alloc (.map es c)) = .ok () (w.alloc (.map (es.push { key := .int .i64 k, val := v, born := c }) (c + 1))) := by
  have hb := (MapKept.heap_alloc w (.map es c)).1
  unfold Instr.mapUpdate
  simp only [Sem.run_bind, run_underlying Tryd.underlying138, MapKept.run_getObj_map hb, MapKept.run_checkKey Tryd.underlying140 (d := .int .i64) (k := .int .i64 k) (by trivial), MapKept.run_findKey Tryd.underlying140 hf, Result.andThen]
  rw [MapKept.run_setObj_map _ hb, alloc_set]
theorem look_at (w : World) (M : Nat) (es : Array MapEntry) (c i : Nat) (k : Int) (v : Value) (hb : w.heap[M]? = some (.map es c)) (hf : Instr.findNow (.int .i64) (.int .i64 k) es.toList 0 = some (some (i, v))) :
    (Instr.lookup 138 (.map (some M)) (.int .i64 k) false).run Tryd.prog w = .ok v w := by
  unfold Instr.lookup
  simp only [Sem.run_bind, Sem.run_pure, run_underlying Tryd.underlying138, MapKept.run_getObj_map hb, MapKept.run_checkKey Tryd.underlying140 (d := .int .i64) (k := .int .i64 k) (by trivial), MapKept.run_findKey Tryd.underlying140 hf, Result.andThen]
  rfl
/-- A function of the program as a value. -/
abbrev fnV (f : Nat) : Value := .func (.func f) #[] #[]
/-- The readers of parts. -/
def readers : Array MapEntry := #[{ key := .int .i64 0, val := fnV 101, born := 0 }, { key := .int .i64 1, val := fnV 102, born := 1 }, { key := .int .i64 2, val := fnV 103, born := 2 }, { key := .int .i64 3, val := fnV 104, born := 3 }]
set_option maxHeartbeats 1000000 in
theorem partReaders (w : World) : Calls Tryd.prog 96 #[] w fun e w' => e = .returned (.map (some w.heap.size)) ∧ w' = w.alloc (.map readers 4) := by
  have hmm := @run_makeMap Tryd.prog
  have h0 := put_new w #[] 0 0 (fnV 101) rfl
  have h1 := put_new w #[{ key := .int .i64 0, val := fnV 101, born := 0 }] 1 1 (fnV 102) rfl
  have h2 := put_new w #[{ key := .int .i64 0, val := fnV 101, born := 0 }, { key := .int .i64 1, val := fnV 102, born := 1 }] 2 2 (fnV 103) rfl
  have h3 := put_new w #[{ key := .int .i64 0, val := fnV 101, born := 0 }, { key := .int .i64 1, val := fnV 102, born := 1 }, { key := .int .i64 2, val := fnV 103, born := 2 }] 3 3 (fnV 104) rfl
  simp only [List.push_toArray, List.cons_append, List.nil_append] at h0 h1 h2 h3
  go_enter Tryd.func96, Tryd.ntmps96
  go_wp2
  go_ret
  exact ⟨rfl, rfl⟩
end Go.Proofs.YtgelbobocjgdaaaDoor
