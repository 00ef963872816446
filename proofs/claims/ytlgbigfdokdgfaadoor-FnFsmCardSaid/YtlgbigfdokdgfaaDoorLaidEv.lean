/- What the listed variable of the program, the events' names, gives the walks; no condition. -/
import Derived.Test.YtlgbigfdokdgfaaDoorRows
import Derived.Test.YtlgbigfdokdgfaaDoorEvI
import Derived.Lib.LaidU8
import Derived.ProofKit
import Derived.Lay
import Derived.MakeChecks
import Derived.ChangeVars
import Derived.OpenVars
namespace Go.Proofs.YtlgbigfdokdgfaaDoor
open Go.ChangeShapes Go.WideShapes Go.ChangeAt Go.RowKit
theorem own : ownKnob Tryd.prog.godebug = none := by kernel_rfl
theorem evG : Tryd.prog.globalNamed "loop.example/g00351/impl.eventNames" = some 1 := by kernel_rfl
theorem evG_type : (Tryd.prog.globals[1]?).map (·.type) = some 54 := by kernel_rfl
theorem cells_str : Tryd.prog.cellsOf 9 = 1 := by kernel_rfl
theorem evData : (Rows.laid_loop_example_g00351_impl_eventNames : DataW Unit) = .agg (evRow.map fun x => .lit (.string x.1)) := by kernel_rfl
theorem evT_of {W : World} (h : Lib.VarReads Tryd.prog W "loop.example/g00351/impl.eventNames" Rows.laid_loop_example_g00351_impl_eventNames) : EvT W := by
  rw [evData] at h
  obtain ⟨g, t, cs, fuel, p, hg, hty, hvar, hd⟩ := h
  obtain rfl := Option.some.inj (evG.symm.trans hg)
  obtain rfl := Option.some.inj (evG_type.symm.trans hty)
  intro i x hx
  have hi : i < 16 := (List.getElem?_eq_some_iff.1 hx).1
  obtain ⟨fuel', d, q, hdi, he⟩ := Lib.array_elem Tryd.underlying54 hd i hi
  unfold evTexts at hx
  rw [List.getElem?_map] at hx hdi
  obtain ⟨r, hr, rfl⟩ := Option.map_eq_some_iff.1 hx
  rw [hr] at hdi
  obtain rfl := Option.some.inj hdi
  rw [cells_str, Nat.mul_one] at he
  obtain ⟨s, hc, hz, hw⟩ := DataW.trod_string Tryd.underlying9 he
  rw [World.var?_cell hg hvar i, ← Array.getElem?_toList]
  have e0 : cs.toList[i]? = some (.string s) := by
    have := congrArg (·[0]?) hc
    simpa [List.getElem?_take, List.getElem?_drop] using this
  rw [e0]
  simp at hz
  rw [hz.1]
  rfl
end Go.Proofs.YtlgbigfdokdgfaaDoor
