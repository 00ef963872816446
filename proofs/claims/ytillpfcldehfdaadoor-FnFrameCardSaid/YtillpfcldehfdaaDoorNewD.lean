/- A new deframing in memory: its cells as they are built and stored, and what a text that is copied into it makes of them; no condition but those that are written. -/
import Derived.Test.YtillpfcldehfdaaDoorTold
import Derived.Laws.Tables
namespace Go.Proofs.YtillpfcldehfdaaDoor
open Go.RowKit
def isAggV : Value → Bool
  | .agg _ => true
  | _ => false
theorem isAggV_get {z : Value} (h : isAggV z = true) : ∃ Z, z = .agg Z := by
  cases z <;> first | exact ⟨_, rfl⟩ | cases h
theorem infoD : ∃ (it : TypeInfo) (z : Value), Tryd.prog.info? 84 = some it ∧ it.zero = some z ∧ it.size = 1109 ∧ z.cells.size = 1109 ∧ z.cells[307]? = some (.int .i64 0) ∧ z.cells[1108]? = some (.int .i64 0) ∧ z.cells.toList.all (fun v => v.oneCell') = true ∧ (∃ Z, z = .agg Z) := by
  have h1 : (Tryd.prog.info? 84).map (fun i => (i.zero.map fun z => (z.cells.size, z.cells[307]?, z.cells[1108]?), i.size)) = some (some (1109, some (.int .i64 0), some (.int .i64 0)), 1109) := by kernel_rfl
  have h2 : (Tryd.prog.info? 84).map (fun i => (i.zero.map fun z => (z.cells.toList.all (fun v => v.oneCell'), isAggV z))) = some (some (true, true)) := by kernel_rfl
  obtain ⟨it, hi, h3⟩ := Option.map_eq_some_iff.1 h1
  rw [hi] at h2
  simp only [Option.map_some, Option.some.injEq, Prod.mk.injEq] at h2 h3
  obtain ⟨h4, h5⟩ := h3
  obtain ⟨z, hz, h6⟩ := Option.map_eq_some_iff.1 h4
  rw [hz] at h2
  simp only [Option.map_some, Option.some.injEq, Prod.mk.injEq] at h2 h6
  exact ⟨it, z, hi, hz, h5, h6.1, h6.2.1, h6.2.2, h2.1, isAggV_get h2.2⟩
theorem placesD : ∃ fs : Array Field, Tryd.prog.underlying 84 = some (.struct fs) ∧ fs.toList.mapM (fun f => (Tryd.prog.info? f.type).map fun i => (f.offset, i.size)) = some [(0, 1), (1, 1), (2, 1), (3, 304), (307, 1), (308, 800), (1108, 1)] := ⟨_, Tryd.underlying84, by kernel_rfl⟩
/-- The cells as they are built. -/
def cellsD (Z : Array Value) (wide long : Bool) (fn : Value) : Array Value := ((Z.setIfInBounds 0 (.bool wide)).setIfInBounds 1 (.bool long)).setIfInBounds 2 fn
theorem fillD (Z : Array Value) (hs : Z.size = 1109) (wide long : Bool) (fn : Value) (h1 : fn.cells = #[fn]) :
    Instr.fill (fun x => ([(0, 1), (1, 1), (2, 1), (3, 304), (307, 1), (308, 800), (1108, 1)] : List (Nat × Nat)).toArray[x]?) Z [(0, .bool wide), (1, .bool long), (2, fn)] = some (cellsD Z wide long fn) := by
  have hb : ∀ b : Bool, (Value.bool b).cells = #[.bool b] := fun _ => rfl
  simp [Instr.fill, hb, h1, hs, cellsD]
theorem build_D (Z : Array Value) (it : TypeInfo) (z : Value) (hi : Tryd.prog.info? 84 = some it) (hz : it.zero = some z) (hZ : z.cells = Z) (hs : Z.size = 1109) (wide long : Bool) (g : Nat) (u : World) :
    (Instr.build 84 #[(0, .bool wide), (1, .bool long), (2, .func (.func 80) #[] #[.pointer (some ⟨g, 0, none⟩)])]).run Tryd.prog u = .ok (.agg (cellsD Z wide long (.func (.func 80) #[] #[.pointer (some ⟨g, 0, none⟩)]))) u := by
  obtain ⟨fs, hU, hP⟩ := placesD
  refine run_build u _ _ _ ?_
  unfold Program.built
  rw [hi, hU]
  simp only [hz, hP]
  rw [hZ]
  exact fillD Z hs wide long _ rfl
theorem dcD (Z : Array Value) (hs : Z.size = 1109) (h7 : Z[307]? = some (.int .i64 0)) (h8 : Z[1108]? = some (.int .i64 0)) (wide long : Bool) (g : Nat) :
    Dc (cellsD Z wide long (.func (.func 80) #[] #[.pointer (some ⟨g, 0, none⟩)])) g wide long [] [] where
  size := by simp [cellsD, hs]
  c0 := by unfold cellsD; rw [set_ne (by decide), set_ne (by decide), set_eq (by omega)]
  c1 := by unfold cellsD; rw [set_ne (by decide), set_eq (by rw [set_size]; omega)]
  c2 := by unfold cellsD; rw [set_eq (by rw [set_size, set_size]; omega)]
  cz := by unfold cellsD; rw [set_ne (by decide), set_ne (by decide), set_ne (by decide)]; exact h7
  cn := by unfold cellsD; rw [set_ne (by decide), set_ne (by decide), set_ne (by decide)]; exact h8
  hl := by simp
  fl := by simp
  hv := fun i c h => by simp at h
  fk := fun i f h => by simp at h
  ft := fun i f h => by simp at h
/-- The list of cells as it is stored. -/
theorem dcS (Z : Array Value) (hs : Z.size = 1109) (h7 : Z[307]? = some (.int .i64 0)) (h8 : Z[1108]? = some (.int .i64 0)) (wide long : Bool) (g : Nat) :
    Dc (setAll Z 0 (((Z.toList.set 0 (.bool wide)).set 1 (.bool long)).set 2 (.func (.func 80) #[] #[.pointer (some ⟨g, 0, none⟩)]))) g wide long [] [] := by
  have e : setAll Z 0 (((Z.toList.set 0 (.bool wide)).set 1 (.bool long)).set 2 (.func (.func 80) #[] #[.pointer (some ⟨g, 0, none⟩)])) = cellsD Z wide long (.func (.func 80) #[] #[.pointer (some ⟨g, 0, none⟩)]) := by
    apply Array.ext_getElem?
    intro j
    have hl : (((Z.toList.set 0 (.bool wide)).set 1 (.bool long)).set 2 (.func (.func 80) #[] #[.pointer (some ⟨g, 0, none⟩)])).length = 1109 := by simp [hs]
    rw [setAll_get _ _ _ _ (by rw [hl, hs]; omega), hl]
    unfold cellsD
    by_cases hj : j < 1109
    · rw [if_pos (by omega), Nat.sub_zero]
      simp only [List.getElem?_set, Array.getElem?_setIfInBounds, List.length_set, Array.length_toList, Array.size_setIfInBounds, Array.getElem?_toList]
    · rw [if_neg (by omega), set_ne (by omega), set_ne (by omega), set_ne (by omega)]
  rw [e]
  exact dcD Z hs h7 h8 wide long g
theorem store_D (Z : Array Value) (hs : Z.size = 1109) (ho : Z.toList.all (fun v => v.oneCell') = true) (wide long : Bool) (g B : Nat) (W : World) (hB : W.heap[B]? = some (.cells Z 84)) :
    (storeCells ⟨B, 0, none⟩ (((Z.toList.set 0 (.bool wide)).set 1 (.bool long)).set 2 (.func (.func 80) #[] #[.pointer (some ⟨g, 0, none⟩)]))).run Tryd.prog W = .ok () (W.setCells B 0 (((Z.toList.set 0 (.bool wide)).set 1 (.bool long)).set 2 (.func (.func 80) #[] #[.pointer (some ⟨g, 0, none⟩)]))) := by
  have h := run_storeCells_cells (P := Tryd.prog) B 0 (((Z.toList.set 0 (.bool wide)).set 1 (.bool long)).set 2 (.func (.func 80) #[] #[.pointer (some ⟨g, 0, none⟩)])) 0 W (fun j hj => by
    have hj2 : j < 1109 := by simpa [hs] using hj
    rw [cell_of_row _ _ _ _ _ _ hB, Array.getElem?_eq_getElem (by omega)]
    rfl) (fun j _ => frz hB _) (fun v hv => by
    have h1 := List.all_eq_true.1 ho
    rcases List.mem_or_eq_of_mem_set hv with hv | rfl
    · rcases List.mem_or_eq_of_mem_set hv with hv | rfl
      · rcases List.mem_or_eq_of_mem_set hv with hv | rfl
        · exact h1 v hv
        · rfl
      · rfl
    · rfl)
  simpa using h
/-- A text copied into what is held, and its size. -/
theorem Dc.fill {cs : Array Value} {g : Nat} {wide long : Bool} (h : Dc cs g wide long [] []) (l : List UInt8) (hl : l.length ≤ 304) (s : Int) (hs : s = (l.length : Int)) :
    Dc ((setAll cs 3 (vals l)).setIfInBounds 307 (.int .i64 s)) g wide long l [] := by
  have hb : 3 + (vals l).length ≤ cs.size := by rw [vals_len, h.size]; omega
  have ho : ∀ j, j < 3 ∨ 307 ≤ j → (setAll cs 3 (vals l))[j]? = cs[j]? := fun j hj => by
    rw [setAll_get _ _ _ _ hb, if_neg (by rw [vals_len]; omega)]
  constructor
  · rw [set_size, setAll_size, h.size]
  · rw [set_ne (by decide), ho _ (by omega)]; exact h.c0
  · rw [set_ne (by decide), ho _ (by omega)]; exact h.c1
  · rw [set_ne (by decide), ho _ (by omega)]; exact h.c2
  · rw [set_eq (by rw [setAll_size, h.size]; decide), hs]
  · rw [set_ne (by decide), ho _ (by omega)]; exact h.cn
  · exact hl
  · simp
  · intro i c hc
    have hi := get_lt hc
    rw [set_ne (by omega), setAll_get _ _ _ _ hb, if_pos (by rw [vals_len]; omega), show 3 + i - 3 = i by omega]
    simp [vals, nums, hc]
  · intro i f hf; simp at hf
  · intro i f hf; simp at hf
/-- copy, of a text into bytes. -/
theorem run_copy_str {P : Program} (w : World) (dT sT ty elem : TypeId) (b o dLen dCap : Nat) (t : ByteArray)
    (hu : P.underlying dT = some (.slice elem)) (hs : (P.info? elem).map (·.size) = some 1) (hn : t.size ≤ dLen)
    (hc : ∀ j, j < t.size → (w.cell? ⟨b, o + j, none⟩).isSome = true) (hf : ∀ j, j < t.size → w.frozen? ⟨b, o + j, none⟩ = false) :
    (Builtin.copy_ #[dT, sT] ty #[.slice (some ⟨b, o, none⟩) dLen dCap, .string t]).run P w = .ok (goInt t.size) (w.setCells b o (vals t.data.toList)) := by
  have hl : (vals t.data.toList).length = t.size := by rw [vals_len, Array.length_toList]; rfl
  have hst := run_storeCells_cells (P := P) b o (vals t.data.toList) 0 w (by rw [hl]; simpa using hc) (by rw [hl]; simpa using hf) (fun v hv => by
    simp only [vals, nums, List.map_map, List.mem_map] at hv
    obtain ⟨x, _, rfl⟩ := hv
    rfl)
  have hmin : Nat.min t.size dLen = t.size := Nat.min_eq_left hn
  have hcells : List.take t.size (List.map (fun b : UInt8 => Value.int .u8 b.toNat) t.data.toList) = vals t.data.toList := by
    rw [List.take_of_length_le (by rw [List.length_map, Array.length_toList]; exact Nat.le_refl _)]
    simp [vals, nums]
  cases hq : P.info? elem with
  | none => simp [hq] at hs
  | some i =>
    simp only [Nat.add_zero] at hst
    simp [Builtin.copy_, run_underlying hu, Builtin.lenOf, Builtin.firstCells, sizeOf, typeInfo, hq, hmin]
    rw [hcells, hst]
    rfl
end Go.Proofs.YtillpfcldehfdaaDoor
