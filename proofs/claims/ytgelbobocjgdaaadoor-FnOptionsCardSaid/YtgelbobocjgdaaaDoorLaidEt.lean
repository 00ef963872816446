/- What the listed variable of the library, errors.errorType, gives the walks: its one cell; and a start in which it lies; no condition. -/
import Derived.Test.YtgelbobocjgdaaaDoorRows
import Derived.Test.YtgelbobocjgdaaaDoorAsHit
import Derived.ProofKit
import Derived.Lay
import Derived.MakeChecks
import Derived.LaidLaws
import Derived.LaidHandle
import Derived.RowKitTokens
namespace Go.Proofs.YtgelbobocjgdaaaDoor
open Go.ChangeShapes Go.WideShapes Go.ChangeAt Go.RowKit
theorem own : ownKnob Tryd.prog.godebug = none := by kernel_rfl
theorem et_at : Tryd.prog.globalNamed "errors.errorType" = some 0 := by kernel_rfl
theorem rt_at : (Tryd.prog.cutTypes.find? (·.1 == "internal/reflectlite.rtype")).map (·.2) = some 162 := by kernel_rfl
theorem one_row : ((List.range 208).filter fun t => Tryd.prog.rowNamed t [101, 114, 114, 111, 114]) = [97] := by kernel_rfl
theorem types_size : Tryd.prog.types.size = 208 := by kernel_rfl
def laidEt : List (String × DataW Unit) := [("errors.errorType", Rows.laid_errors_errorType)]
theorem et_of {W : World} (h : laidMetH Tryd.prog laidEt W) : Et W := by
  have h' : laidMet Tryd.prog [] W ∧ handlesMet Tryd.prog laidEt W := h
  obtain ⟨name, u, ty, e1, e2, e3, e4, e5⟩ := h'.2 _ (List.mem_singleton.2 rfl)
  have en : name = [101, 114, 114, 111, 114] := (Option.some.inj e1).symm
  subst en
  obtain rfl := Option.some.inj (rt_at.symm.trans e2)
  have hm : ty ∈ (List.range 208).filter fun t => Tryd.prog.rowNamed t [101, 114, 114, 111, 114] := List.mem_filter.2 ⟨List.mem_range.2 (by rw [← types_size]; exact e3), e4⟩
  rw [one_row] at hm
  obtain rfl := List.mem_singleton.1 hm
  have hh : typeHandle Tryd.prog 97 = .pointer (some ⟨3, 97, none⟩) := by kernel_rfl
  rw [hh] at e5
  have := World.var?_cell et_at e5 0
  exact this
/-- A world that meets the condition: the settled one, the variable's cell laid. -/
noncomputable def startEt (os : Os) : World :=
  let w0 := World.holding Tryd.prog os ⟨#[], #[], []⟩
  { w0 with heap := w0.heap.modify 0 fun
      | .cells _ t frozen => .cells #[.iface 162 (.agg #[.pointer (some ⟨3, 97, none⟩)])] t frozen
      | o => o }
theorem startEt_met (os : Os) (args : Array Value) : laidMetH Tryd.prog laidEt ((startEt os).forCall (fun _ _ => 0) ⟨#[], args, []⟩).memory :=
  laidMetH_of_parts ⟨[], rfl, List.nodup_nil, fun _ _ h => by cases h⟩ (by kernel_rfl)
end Go.Proofs.YtgelbobocjgdaaaDoor
