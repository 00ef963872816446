/- What the listed variables give the walks: the program's two tables of the automaton and the library's table of blanks as they are laid, and a start in which they lie; no condition. -/
import Derived.Test.YtlgbigfdokdgfaaDoorLaidEv
import Derived.Test.YtlgbigfdokdgfaaDoorFsmI
namespace Go.Proofs.YtlgbigfdokdgfaaDoor
open Go.ChangeShapes Go.WideShapes Go.ChangeAt Go.RowKit
theorem laidOutF : laidOutB Tryd.prog = true := by kernel_rfl
theorem nxG : Tryd.prog.globalNamed "loop.example/g00351/impl.nextStates" = some 0 := by kernel_rfl
theorem nxG_type : (Tryd.prog.globals[0]?).map (·.type) = some 48 := by kernel_rfl
theorem cells_row : Tryd.prog.cellsOf 47 = 10 := by kernel_rfl
theorem cells_int : Tryd.prog.cellsOf 2 = 1 := by kernel_rfl
theorem nxData : (Rows.laid_loop_example_g00351_impl_nextStates : DataW Unit) = .agg (nxtRows.map fun l => Lib.tabData .i64 l) := by kernel_rfl
theorem nxLens : (nxtRows.all fun l => decide (l.length = 10)) = true := by kernel_rfl
theorem nxT_of {W : World} (h : Lib.VarReads Tryd.prog W "loop.example/g00351/impl.nextStates" Rows.laid_loop_example_g00351_impl_nextStates) : NxT W := by
  rw [nxData] at h
  obtain ⟨g, t, cs, fuel, p, hg, hty, hvar, hd⟩ := h
  obtain rfl := Option.some.inj (nxG.symm.trans hg)
  obtain rfl := Option.some.inj (nxG_type.symm.trans hty)
  intro i s hi hs
  obtain ⟨fuel', d, q, hdi, he⟩ := Lib.array_elem Tryd.underlying48 hd i hi
  rw [List.getElem?_map] at hdi
  obtain ⟨r, hr, rfl⟩ := Option.map_eq_some_iff.1 hdi
  have hrl : r.length = 10 := of_decide_eq_true (List.all_eq_true.1 nxLens r (List.mem_of_getElem? hr))
  rw [cells_row] at he
  have hcs := Lib.cells_of_tab Tryd.underlying47 Tryd.underlying2 cells_int cells_row he
  rw [World.var?_cell hg hvar (i * 10 + s), ← Array.getElem?_toList]
  have e0 := congrArg (·[s]?) hcs
  simp only [List.getElem?_take, List.getElem?_drop, hs, if_true, List.getElem?_map] at e0
  rw [e0]
  unfold nxtAt
  rw [show nxtRows.getD i [] = r by rw [List.getD_eq_getElem?_getD, hr]; rfl, List.getD_eq_getElem?_getD, List.getElem?_eq_getElem (by omega)]
  rfl
theorem spG : Tryd.prog.globalNamed "strings.asciiSpace" = some 2 := by kernel_rfl
theorem spG_type : (Tryd.prog.globals[2]?).map (·.type) = some 60 := by kernel_rfl
theorem cells_tab : Tryd.prog.cellsOf 60 = 256 := by kernel_rfl
theorem cells_u8 : Tryd.prog.cellsOf 5 = 1 := by kernel_rfl
theorem spData : (Rows.laid_strings_asciiSpace : DataW Unit) = Lib.tabData .u8 Lib.asciiSpaceTab := by kernel_rfl
theorem spT_of {W : World} (h : Lib.VarReads Tryd.prog W "strings.asciiSpace" Rows.laid_strings_asciiSpace) : SpT W := by
  rw [spData] at h
  obtain ⟨g, t, cs, fuel, p, hg, hty, hvar, hd⟩ := h
  obtain rfl := Option.some.inj (spG.symm.trans hg)
  obtain rfl := Option.some.inj (spG_type.symm.trans hty)
  intro c hc
  have hcs := Lib.cells_of_tab Tryd.underlying60 Tryd.underlying5 cells_u8 cells_tab hd
  rw [World.var?_cell hg hvar c, ← Array.getElem?_toList, hcs, List.getElem?_map]
  have hl : c < Lib.asciiSpaceTab.length := by rw [Lib.asciiSpaceTab_length]; exact hc
  have := Lib.asciiSpaceTab_at c hc
  rw [List.getD_eq_getElem?_getD, List.getElem?_eq_getElem hl, Option.getD_some] at this
  rw [List.getElem?_eq_getElem hl, Option.map_some, this]
def laidTabs : List (String × DataW Unit) := Rows.fnFsmRow.laid
theorem tabs_of {W : World} (hL : laidMetH Tryd.prog laidTabs W) : EvT W ∧ NxT W ∧ SpT W := by
  rw [MakeChecks.laidMetH_plain _ _ _ (by kernel_rfl)] at hL
  exact ⟨evT_of (Lib.laidMet.reads hL (.tail _ (.tail _ (.head _)))), nxT_of (Lib.laidMet.reads hL (.tail _ (.tail _ (.tail _ (.head _))))), spT_of (Lib.laidMet.reads hL (.tail _ (.head _)))⟩
set_option maxRecDepth 100000 in
theorem start_met (os : Os) (args : Array Value) : laidMetH Tryd.prog laidTabs ((World.laidAll Tryd.prog os laidTabs).forCall (fun _ _ => 0) ⟨#[], args, []⟩).memory := by
  rw [MakeChecks.laidMetH_plain _ _ _ (by kernel_rfl)]
  exact laidMet_laidAll _ (by kernel_rfl) (by kernel_rfl)
end Go.Proofs.YtlgbigfdokdgfaaDoor
