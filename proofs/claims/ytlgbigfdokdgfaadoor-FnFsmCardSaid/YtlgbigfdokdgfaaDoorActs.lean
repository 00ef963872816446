/- The program's table of actions: what actionsOf answers at each of its 160 places; what lay in memory stands. -/
import Derived.Test.YtlgbigfdokdgfaaDoorFsmS
import Derived.Great.Walk
namespace Go.Proofs.YtlgbigfdokdgfaaDoor
open Go.RowKit
/-- The table's texts, event by event and state by state. -/
def actRows : List (List (List UInt8)) := [[[], [105, 114, 99, 32, 115, 99, 114], [], [], [], [], [], [], [], []],
  [[], [], [], [116, 108, 115], [], [], [], [], [], [116, 108, 100]],
  [[116, 108, 115], [], [105, 114, 99, 32, 115, 99, 114], [], [], [], [], [], [], []],
  [[], [116, 108, 102], [], [], [], [], [105, 114, 99, 32, 115, 116, 114], [105, 114, 99, 32, 115, 116, 114], [105, 114, 99, 32, 115, 116, 114], [116, 108, 100, 32, 105, 114, 99, 32, 115, 116, 114]],
  [[], [], [], [], [115, 116, 114], [115, 116, 114], [115, 99, 114], [115, 99, 114], [115, 99, 114], []],
  [[], [], [], [], [116, 108, 102], [116, 108, 102], [116, 108, 102], [116, 108, 102], [116, 108, 102], []],
  [[], [], [115, 116, 97], [105, 114, 99, 32, 115, 99, 114, 32, 115, 99, 97], [], [], [115, 99, 97], [115, 99, 97, 32, 116, 108, 117], [115, 99, 97], [116, 108, 100, 32, 115, 99, 114, 32, 115, 99, 97]],
  [[], [], [115, 116, 97], [105, 114, 99, 32, 115, 99, 114, 32, 115, 99, 110], [], [], [115, 99, 110], [115, 99, 110], [115, 99, 110], [116, 108, 100, 32, 115, 99, 114, 32, 115, 99, 110]],
  [[], [], [115, 116, 97], [115, 116, 97], [], [], [105, 114, 99], [115, 99, 114], [105, 114, 99, 32, 116, 108, 117], [116, 108, 100, 32, 115, 99, 114]],
  [[], [], [115, 116, 97], [115, 116, 97], [], [], [105, 114, 99, 32, 115, 99, 114], [115, 99, 114], [105, 114, 99, 32, 115, 99, 114], [116, 108, 100, 32, 115, 99, 114]],
  [[], [], [115, 116, 97], [115, 116, 97], [115, 116, 97], [115, 116, 97], [115, 116, 97], [115, 116, 97], [115, 116, 97], [116, 108, 100, 32, 122, 114, 99, 32, 115, 116, 97]],
  [[], [], [], [], [116, 108, 102], [116, 108, 102], [], [], [], [116, 108, 100, 32, 115, 99, 114]],
  [[], [], [115, 99, 106], [115, 99, 106], [115, 99, 106], [115, 99, 106], [115, 99, 106], [115, 99, 106], [115, 99, 106], [115, 99, 106]],
  [[], [], [], [], [], [], [], [], [], []],
  [[], [], [116, 108, 102], [116, 108, 102], [116, 108, 102], [116, 108, 102], [116, 108, 102], [116, 108, 102], [116, 108, 102], [116, 108, 100, 32, 105, 114, 99, 32, 115, 116, 114]],
  [[], [], [], [], [], [], [], [], [], [115, 101, 114]]]
/-- The table's next states; of none -1. -/
def nxtRows : List (List Int) := [[2, 6, -1, -1, -1, -1, -1, -1, -1, -1],
  [-1, -1, 0, 1, 0, 1, 1, 1, 1, 1],
  [1, 1, 6, 3, 5, 5, 6, 7, 8, 9],
  [0, 0, 2, 2, 4, 4, 4, 4, 4, 4],
  [-1, -1, -1, -1, 4, 5, 6, 6, 8, -1],
  [-1, -1, -1, -1, 2, 3, 3, 3, 3, -1],
  [-1, -1, 2, 8, 4, 5, 8, 9, 8, 8],
  [-1, -1, 2, 6, 4, 5, 6, 7, 6, 6],
  [-1, -1, 2, 3, 4, 5, 7, 6, 9, 6],
  [-1, -1, 2, 3, 4, 5, 6, 6, 8, 6],
  [-1, -1, 2, 3, 4, 5, 6, 6, 6, 5],
  [-1, -1, 2, 3, 2, 3, 6, 6, 8, 6],
  [-1, -1, 2, 3, 4, 5, 6, 7, 8, 9],
  [-1, -1, 2, 3, 4, 5, 6, 6, 8, 9],
  [-1, -1, 2, 3, 2, 3, 3, 3, 3, 5],
  [-1, -1, 2, 3, 4, 5, 6, 7, 8, 9]]
def rowC (i : Nat) : Array Value := ((actRows.getD i []).map fun l => Value.string ⟨l.toArray⟩).toArray
def actC : Array Value := (actRows.flatten.map fun l => Value.string ⟨l.toArray⟩).toArray
/-- The actions' text at a place. -/
def actAt (i s : Nat) : ByteArray := ⟨((actRows.getD i []).getD s []).toArray⟩
theorem actC_size : actC.size = 160 := by kernel_rfl
theorem actC_all : ((List.range 16).all fun i => (List.range 10).all fun s => match actC[i * 10 + s]? with | some (.string t) => decide (t = actAt i s) | _ => false) = true := by kernel_rfl
theorem actC_at {i s : Nat} (hi : i < 16) (hs : s < 10) : actC[i * 10 + s]? = some (.string (actAt i s)) := by
  have h := List.all_eq_true.1 (List.all_eq_true.1 actC_all i (List.mem_range.2 hi)) s (List.mem_range.2 hs)
  split at h
  · next t e => rw [e, of_decide_eq_true h]
  · cases h
attribute [local irreducible] rowC actC
set_option maxHeartbeats 4000000 in
set_option maxRecDepth 100000 in
theorem implActs (i s : Nat) (hi : i < 16) (hs : s < 10) (w : World) : Calls Tryd.prog 25 #[.int .i64 i, .int .i64 s] w fun e w' => e = .returned (.string (actAt i s)) ∧ w' = w.alloc (.cells actC 64) := by
  have hc : (w.alloc (.cells actC 64)).cell? ⟨w.heap.size, i * 10 + s, none⟩ = some (.string (actAt i s)) := by
    rw [cell_of_row _ _ _ _ _ _ (heap_alloc_new w _)]
    exact actC_at hi hs
  have d1 : (i : Int) < 16 := by omega
  have d2 : (s : Int) < 10 := by omega
  go_enter Tryd.func25, Tryd.ntmps25
  go_upto_region 1 with fail
  apply wp_region_lit
  refine wpList_buildTo rfl 63 _ rfl (some 6) rfl (rowC 0) (by as_aux_lemma => kernel_rfl) ?_
  refine wpList_buildTo rfl 63 _ rfl (some 7) rfl (rowC 1) (by as_aux_lemma => kernel_rfl) ?_
  refine wpList_buildTo rfl 63 _ rfl (some 8) rfl (rowC 2) (by as_aux_lemma => kernel_rfl) ?_
  refine wpList_buildTo rfl 63 _ rfl (some 9) rfl (rowC 3) (by as_aux_lemma => kernel_rfl) ?_
  refine wpList_buildTo rfl 63 _ rfl (some 10) rfl (rowC 4) (by as_aux_lemma => kernel_rfl) ?_
  refine wpList_buildTo rfl 63 _ rfl (some 11) rfl (rowC 5) (by as_aux_lemma => kernel_rfl) ?_
  refine wpList_buildTo rfl 63 _ rfl (some 12) rfl (rowC 6) (by as_aux_lemma => kernel_rfl) ?_
  refine wpList_buildTo rfl 63 _ rfl (some 13) rfl (rowC 7) (by as_aux_lemma => kernel_rfl) ?_
  refine wpList_buildTo rfl 63 _ rfl (some 14) rfl (rowC 8) (by as_aux_lemma => kernel_rfl) ?_
  refine wpList_buildTo rfl 63 _ rfl (some 15) rfl (rowC 9) (by as_aux_lemma => kernel_rfl) ?_
  refine wpList_buildTo rfl 63 _ rfl (some 16) rfl (rowC 10) (by as_aux_lemma => kernel_rfl) ?_
  refine wpList_buildTo rfl 63 _ rfl (some 17) rfl (rowC 11) (by as_aux_lemma => kernel_rfl) ?_
  refine wpList_buildTo rfl 63 _ rfl (some 18) rfl (rowC 12) (by as_aux_lemma => kernel_rfl) ?_
  refine wpList_buildTo rfl 63 _ rfl (some 19) rfl (rowC 14) (by as_aux_lemma => kernel_rfl) ?_
  refine wpList_buildTo rfl 63 _ rfl (some 20) rfl (rowC 15) (by as_aux_lemma => kernel_rfl) ?_
  refine wpList_buildTo rfl 64 _ rfl (some 21) rfl actC (by as_aux_lemma => kernel_rfl) ?_
  refine Great.wpList_allocTo rfl (some 5) rfl (.pointer (some ⟨w.heap.size, 0, none⟩)) (.cells (Array.replicate 160 (.string ⟨#[]⟩)) 64) (by as_aux_lemma => kernel_rfl) ?_
  refine wpList_store_rowTo rfl 64 _ _ rfl rfl w.heap.size actC (by as_aux_lemma => kernel_rfl) (by as_aux_lemma => kernel_rfl) 64 _ (heap_alloc_new w _) (by as_aux_lemma => kernel_rfl) (by as_aux_lemma => kernel_rfl) (by as_aux_lemma => kernel_rfl) ?_
  rw [World.setRow_alloc_new]
  refine wpList_frame (a' := ⟨#[.int .i64 i, .int .i64 s, undef, undef, .string ⟨#[]⟩, .pointer (some ⟨w.heap.size, 0, none⟩), .agg (rowC 0), .agg (rowC 1), .agg (rowC 2), .agg (rowC 3), .agg (rowC 4), .agg (rowC 5), .agg (rowC 6), .agg (rowC 7), .agg (rowC 8), .agg (rowC 9), .agg (rowC 10), .agg (rowC 11), .agg (rowC 12), .agg (rowC 14), .agg (rowC 15), .agg actC, undef, undef, undef, undef, undef], []⟩) (by as_aux_lemma => kernel_rfl) ?_
  apply wpList_nil
  go_wp2
  go_ret
  exact ⟨rfl, rfl⟩
end Go.Proofs.YtlgbigfdokdgfaaDoor
