/- The table of 256 of a check sum, of both widths: the walk of sumTable: it hands back the array whose cell j is eight shifts of j; no condition but that the rule fits its kind. -/
import Derived.Test.YtillpfcldehfdaaDoorShift
import Derived.Deep.WholeRow
import Derived.Laws.ResultCell
import Derived.Deep.LoopGhost
namespace Go.Proofs.YtillpfcldehfdaaDoor
open Go.RowKit

theorem setRow_alloc_second (w : World) (c c' : Array Value) (t : TypeId) (o : Obj) :
    ((w.alloc (.cells c t)).alloc o).setRow w.heap.size c' = (w.alloc (.cells c' t)).alloc o := by
  simp only [World.setRow, World.alloc]
  congr 1
  apply Array.ext_getElem?
  intro i
  rw [Array.getElem?_modify]
  by_cases h : w.heap.size = i
  · subst h
    simp [Array.getElem?_push]
  · have h' : ¬ i = w.heap.size := fun e => h e.symm
    simp [h, h', Array.getElem?_push]
theorem heap_alloc_second (w : World) (o o' : Obj) : ((w.alloc o).alloc o').heap[w.heap.size]? = some o := by
  show ((w.heap.push o).push o')[w.heap.size]? = some o
  simp [Array.getElem?_push]
theorem heap_alloc_two (w : World) (o o' : Obj) : ((w.alloc o).alloc o').heap[w.heap.size + 1]? = some o' := by
  have := heap_alloc_last (w.alloc o) o'
  have e : (w.alloc o).heap.size = w.heap.size + 1 := by simp
  rw [e] at this
  exact this

theorem results_cell {fn : Func} {p : Tmp} {ty : TypeId} (h : fn.results = #[.cell p ty]) (tmps : Array Value) (P : Program) (w : World) :
    (results fn tmps).run P w = ((asAddr (tmps.getD p undef)).run P w).andThen fun a w₁ => (loadVar ty a).run P w₁ := by
  simp only [results, h]
  simp [Sem.run_bind, Result.andThen]

/-- A whole array is loaded from the head of a block. -/
theorem wpList_load_row {P : Program} (w : World) {ops : Array Oper} {rest : List Oper} {o : Oper} {a : Act} {Q : Exit → Act → World → Prop}
    (hg : o.guard = none) (t : TypeId) (p : Operand) (hop : o.op = Op.load t p) (g : Nat) (c : Array Value) (n : Nat) (e : TypeId)
    (hp : a.eval p = .pointer (some ⟨g, 0, none⟩)) (hh : w.heap[g]? = some (.cells c t (0, 0))) (hu : P.underlying t = some (.array n e))
    (hi : (P.info? t).map (·.size) = some c.size) (hK : wpList P ops Q rest (a.put o.dst (.agg c)) w) : wpList P ops Q (o :: rest) a w := by
  refine wpList_plain hg fun K hK' => ?_
  have hrun : (Instr.loadAt t (.pointer (some ⟨g, 0, none⟩))).run P w = .ok (.agg c) w := by
    simp only [Instr.loadAt, Instr.sureAddr, Sem.run_bind, Sem.run_pure, Result.andThen]
    exact run_loadVar_row w g t t c (0, 0) _ hh hu rfl hi
  unfold Oper.wp
  simp [execOp, hop, hp, hrun, Result.andThen]
  exact hK' _ _ hK
/-- A whole array is stored at the head of a block. -/
theorem wpList_store_row {P : Program} (w : World) {ops : Array Oper} {rest : List Oper} {o : Oper} {a : Act} {Q : Exit → Act → World → Prop}
    (hg : o.guard = none) (t : TypeId) (p x : Operand) (hop : o.op = Op.store t p x) (g : Nat) (old c : Array Value)
    (hp : a.eval p = .pointer (some ⟨g, 0, none⟩)) (hx : a.eval x = .agg c) (hh : w.heap[g]? = some (.cells old t (0, 0)))
    (hi : (P.info? t).map (·.size) = some c.size) (ho : old.size = c.size) (h1 : c.all (·.oneCell') = true)
    (hK : wpList P ops Q rest (a.put o.dst undef) (w.setRow g c)) : wpList P ops Q (o :: rest) a w := by
  refine wpList_plain hg fun K hK' => ?_
  have hrun : (Instr.storeAt t (.pointer (some ⟨g, 0, none⟩)) (.agg c)).run P w = .ok () (w.setRow g c) := by
    simp only [Instr.storeAt, Instr.sureAddr, Sem.run_bind, Sem.run_pure, Result.andThen]
    exact run_storeVar_row w g t t old c hh hi ho h1
  unfold Oper.wp
  simp [execOp, hop, hp, hx, hrun, Result.andThen]
  exact hK' _ _ hK

/-- The table's cells when k of them are laid. -/
def tabC (K : IntKind) (r k : Nat) : Array Value := (Array.range 256).map fun j => .int K (if j < k then (Fcs.stp r 8 j : Nat) else 0)
theorem tabC_size (K : IntKind) (r k : Nat) : (tabC K r k).size = 256 := by simp [tabC]
theorem tabC_zero (K : IntKind) (r : Nat) : tabC K r 0 = Array.replicate 256 (.int K 0) := by
  apply Array.ext_getElem?
  intro i
  simp only [tabC, Array.getElem?_map, Array.getElem?_range, Array.getElem?_replicate]
  by_cases h : i < 256 <;> simp [h]
theorem tabC_succ (K : IntKind) (r k : Nat) (h : k < 256) : (tabC K r k).setIfInBounds k (.int K (Fcs.stp r 8 k : Nat)) = tabC K r (k + 1) := by
  apply Array.ext_getElem?
  intro i
  rw [Array.getElem?_setIfInBounds, tabC_size]
  simp only [tabC, Array.getElem?_map, Array.getElem?_range]
  by_cases hi : k = i
  · subst hi
    simp [h]
  · by_cases h2 : i < 256
    · by_cases h3 : i < k
      · have : i < k + 1 := by omega
        simp [hi, h2, h3, this]
      · have : ¬ i < k + 1 := by omega
        simp [hi, h2, h3, this]
    · simp [hi, h2]
theorem tabC_at (K : IntKind) (r j : Nat) (h : j < 256) : (tabC K r 256)[j]? = some (.int K (Fcs.stp r 8 j : Nat)) := by
  simp [tabC, h]
theorem tabC_one (K : IntKind) (r k : Nat) : (tabC K r k).all (·.oneCell') = true := by
  rw [Array.all_eq_true]
  intro i hi
  simp [tabC, Value.oneCell']

theorem tabInfo_u16 : (Tryd.prog.info? 116).map (fun i => (i.zero, i.size)) = some (some (.agg (Array.replicate 256 (.int .u16 0))), 256) := by kernel_rfl

set_option maxHeartbeats 1000000 in
set_option maxRecDepth 100000 in
theorem table_u16 (r : Nat) (w : World) (hr : r < 65536) :
    Calls Tryd.prog 78 #[.int .u16 r] w fun e w' => e = .returned (.agg (tabC .u16 r 256)) ∧ w' = (w.alloc (.cells (tabC .u16 r 256) 116)).alloc (.cells (tabC .u16 r 256) 116) := by
  have hv := (zero_of_info tabInfo_u16).1
  have hi := (zero_of_info tabInfo_u16).2
  go_enter Tryd.func78, Tryd.ntmps78
  go_wp2_with fail
  rw [← tabC_zero .u16 r]
  generalize hc0 : tabC .u16 r 0 = c0
  have hs0 : c0.size = 256 := by rw [← hc0, tabC_size]
  have HC0 := hide hc0
  go_loopw [5] (fun i wr => ∃ k : Nat, k ≤ 256 ∧ i = .int .i64 k ∧ wr = (w.alloc (.cells c0 116)).alloc (.cells (tabC .u16 r k) 116)) (fun i _ => 256 - (intOf i).toNat)
  case atStart => exact ⟨0, by omega, rfl, by rw [unhide HC0]⟩
  case round =>
    obtain ⟨k, hk, rfl, rfl⟩ := hrel
    clear hc0
    by_cases hlt : k < 256
    · have hlt' : (k : Int) < 256 := by omega
      have hsz := tabC_size .u16 r k
      go_wp2_with fail
      refine (shift_u16 k r _ (by omega) hr).mono ?_
      rintro e w' ⟨rfl, rfl⟩
      go_wp2
      go_roundw
      case rel => exact ⟨k + 1, by omega, by go_num, by rw [← tabC_succ .u16 r k hlt]⟩
      case measure => simp [intOf]; omega
    · obtain rfl : k = 256 := by omega
      have hsz := tabC_size .u16 r 256
      have hld := run_loadVar_row (P := Tryd.prog) ((w.alloc (.cells (tabC .u16 r 256) 116)).alloc (.cells (tabC .u16 r 256) 116)) w.heap.size 116 116 (tabC .u16 r 256) (0, 0) _ (heap_alloc_second w _ _) Tryd.underlying116 rfl (by rw [hsz]; exact hi)
      go_wp2_with (first
        | (refine wpList_load_row _ rfl 116 _ rfl (w.heap.size + 1) (tabC .u16 r 256) 256 _ rfl (heap_alloc_two w _ _) Tryd.underlying116 (by rw [hsz]; exact hi) ?_)
        | (refine wpList_store_row _ rfl 116 _ _ rfl w.heap.size c0 (tabC .u16 r 256) rfl rfl (heap_alloc_second w _ _) (by rw [hsz]; exact hi) (by rw [hsz, hs0]) (tabC_one _ _ _) ?_; rw [setRow_alloc_second]))
      refine bodyPost_ret (v := .agg (tabC .u16 r 256)) ?_ rfl ⟨rfl, rfl⟩
      rw [results_cell rfl]
      simp [asAddr, Result.andThen, Act.put, hld]
theorem tabInfo_u32 : (Tryd.prog.info? 112).map (fun i => (i.zero, i.size)) = some (some (.agg (Array.replicate 256 (.int .u32 0))), 256) := by kernel_rfl

set_option maxHeartbeats 1000000 in
set_option maxRecDepth 100000 in
theorem table_u32 (r : Nat) (w : World) (hr : r < 4294967296) :
    Calls Tryd.prog 76 #[.int .u32 r] w fun e w' => e = .returned (.agg (tabC .u32 r 256)) ∧ w' = (w.alloc (.cells (tabC .u32 r 256) 112)).alloc (.cells (tabC .u32 r 256) 112) := by
  have hv := (zero_of_info tabInfo_u32).1
  have hi := (zero_of_info tabInfo_u32).2
  go_enter Tryd.func76, Tryd.ntmps76
  go_wp2_with fail
  rw [← tabC_zero .u32 r]
  generalize hc0 : tabC .u32 r 0 = c0
  have hs0 : c0.size = 256 := by rw [← hc0, tabC_size]
  have HC0 := hide hc0
  go_loopw [5] (fun i wr => ∃ k : Nat, k ≤ 256 ∧ i = .int .i64 k ∧ wr = (w.alloc (.cells c0 112)).alloc (.cells (tabC .u32 r k) 112)) (fun i _ => 256 - (intOf i).toNat)
  case atStart => exact ⟨0, by omega, rfl, by rw [unhide HC0]⟩
  case round =>
    obtain ⟨k, hk, rfl, rfl⟩ := hrel
    clear hc0
    by_cases hlt : k < 256
    · have hlt' : (k : Int) < 256 := by omega
      have hsz := tabC_size .u32 r k
      go_wp2_with fail
      refine (shift_u32 k r _ (by omega) hr).mono ?_
      rintro e w' ⟨rfl, rfl⟩
      go_wp2
      go_roundw
      case rel => exact ⟨k + 1, by omega, by go_num, by rw [← tabC_succ .u32 r k hlt]⟩
      case measure => simp [intOf]; omega
    · obtain rfl : k = 256 := by omega
      have hsz := tabC_size .u32 r 256
      have hld := run_loadVar_row (P := Tryd.prog) ((w.alloc (.cells (tabC .u32 r 256) 112)).alloc (.cells (tabC .u32 r 256) 112)) w.heap.size 112 112 (tabC .u32 r 256) (0, 0) _ (heap_alloc_second w _ _) Tryd.underlying112 rfl (by rw [hsz]; exact hi)
      go_wp2_with (first
        | (refine wpList_load_row _ rfl 112 _ rfl (w.heap.size + 1) (tabC .u32 r 256) 256 _ rfl (heap_alloc_two w _ _) Tryd.underlying112 (by rw [hsz]; exact hi) ?_)
        | (refine wpList_store_row _ rfl 112 _ _ rfl w.heap.size c0 (tabC .u32 r 256) rfl rfl (heap_alloc_second w _ _) (by rw [hsz]; exact hi) (by rw [hsz, hs0]) (tabC_one _ _ _) ?_; rw [setRow_alloc_second]))
      refine bodyPost_ret (v := .agg (tabC .u32 r 256)) ?_ rfl ⟨rfl, rfl⟩
      rw [results_cell rfl]
      simp [asAddr, Result.andThen, Act.put, hld]
end Go.Proofs.YtillpfcldehfdaaDoor
