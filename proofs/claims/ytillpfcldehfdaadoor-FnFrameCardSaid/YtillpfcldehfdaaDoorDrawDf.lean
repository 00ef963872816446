/- Words for the draw of a Deframer: its cells, its part of an answer, and what is wanted of the model's Deframe; no condition. -/
import Derived.Test.YtillpfcldehfdaaDoorSrcNear
import Derived.Deep.DeepCutAuto
namespace Go.Proofs.YtillpfcldehfdaaDoor
open Go.RowKit
theorem row6d {w : World} {B : Nat} {x0 x1 x2 x3 x4 x5 : Value} {T : TypeId} (h : w.heap[B]? = some (.cells #[x0, x1, x2, x3, x4, x5] T)) :
    w.cell? ⟨B, 0, none⟩ = some x0 ∧ w.cell? ⟨B, 1, none⟩ = some x1 ∧ w.cell? ⟨B, 2, none⟩ = some x2 ∧ w.cell? ⟨B, 3, none⟩ = some x3 ∧ w.cell? ⟨B, 4, none⟩ = some x4 ∧ w.cell? ⟨B, 5, none⟩ = some x5 := by
  refine ⟨?_, ?_, ?_, ?_, ?_, ?_⟩
  all_goals
    rw [cell_of_row _ _ _ _ _ _ h]
    rfl
theorem row6e {w : World} {B : Nat} {x0 x1 x2 x3 x4 x5 : Value} {T : TypeId} (h : w.heap[B]? = some (.cells #[x0, x1, x2, x3, x4, x5] T)) :
    w.frozen? ⟨B, 0, none⟩ = false ∧ w.frozen? ⟨B, 1, none⟩ = false ∧ w.frozen? ⟨B, 2, none⟩ = false ∧ w.frozen? ⟨B, 3, none⟩ = false ∧ w.frozen? ⟨B, 4, none⟩ = false ∧ w.frozen? ⟨B, 5, none⟩ = false :=
  ⟨frz h _, frz h _, frz h _, frz h _, frz h _, frz h _⟩
theorem infoD6 : (Tryd.prog.info? 38).map (·.size) = some 6 := by kernel_rfl
theorem field_dfr (x0 x1 x2 x3 x4 x5 x6 x7 : Value) (W : World) : (Instr.field 41 (.agg #[x0, x1, x2, x3, x4, x5, x6, x7]) 0).run Tryd.prog W = .ok (.agg #[x0, x1, x2, x3, x4, x5]) W := by
  cases hq : Tryd.prog.info? 38 with
  | none => have := infoD6; rw [hq] at this; cases this
  | some i =>
    have hs : i.size = 6 := by have := infoD6; rw [hq] at this; simpa using this
    simp [Instr.field, run_underlying Tryd.underlying41, part, asAgg, sizeOf, typeInfo, hq, hs]
/-- What is wanted of the model's Deframe: an answer whose text is short. -/
def DefrWord : Prop := ∀ (wide : Bool) (x : Int) (t : ByteArray) (v : World), t.size ≤ 8000 → Calls Tryd.prog 23 #[.agg #[.bool wide, .int .i64 x, .bool false, .bool false, .bool false, .string ⟨#[]⟩], .string t] v fun e w' =>
  ∃ (wd : Bool) (y : Int) (i s l : Bool) (u : ByteArray) (ad : Option Addr) (n cp : Nat) (code : Int), e = .returned (.agg #[.bool wd, .int .i64 y, .bool i, .bool s, .bool l, .string u, .slice ad n cp, .int .i64 code]) ∧ u.size ≤ 304 ∧ Below v.heap.size v w'
end Go.Proofs.YtillpfcldehfdaaDoor
