/- A Deframer that was handed in, opened; no condition. -/
import Derived.Test.YteffbodinbmliadDoorProg
import Derived.ProofKit
import Derived.Lay
import Derived.MakeChecks
import Derived.Carry
namespace Go.Proofs.YteffbodinbmliadDoor
open Go.ChangeShapes Go.WideShapes Go.ChangeAt Go.RowKit
theorem laidOutP : laidOutB Tryd.prog = true := by kernel_rfl
theorem array6 {α : Type} {cs : Array α} (h : cs.size = 6) : ∃ c0 c1 c2 c3 c4 c5, cs = #[c0, c1, c2, c3, c4, c5] := by
  obtain ⟨l⟩ := cs
  match l, h with
  | [c0, c1, c2, c3, c4, c5], _ => exact ⟨c0, c1, c2, c3, c4, c5, rfl⟩
theorem cellsDef : Tryd.prog.cellsOf 25 = 6 := by kernel_rfl
theorem cellsBool : Tryd.prog.cellsOf 4 = 1 := by kernel_rfl
theorem cellsInt : Tryd.prog.cellsOf 2 = 1 := by kernel_rfl
theorem cellsStr : Tryd.prog.cellsOf 9 = 1 := by kernel_rfl
theorem fieldsDef : ∃ fs : Array Field, Tryd.prog.underlying 25 = some (.struct fs) ∧ fs.toList.map (fun f => (f.type, f.offset)) = [(4, 0), (2, 1), (4, 2), (4, 3), (4, 4), (9, 5)] :=
  ⟨_, Tryd.underlying25, rfl⟩
/-- A Deframer that was handed in, opened. -/
theorem open_def {H : Type} {enc : TypeId × Value → H} {W : World} {base : Nat} {v : Value} {d : DataW H} {p : List MemPlace} (hv : Value.okWide Tryd.prog W .any base 25 v)
    (h : DataW.Trod enc Tryd.prog W 0 (fun _ => true) true 25 v d p) :
    ∃ (wide : Bool) (x : Int) (inn esc long : Bool) (t : ByteArray), v = .agg #[.bool wide, .int .i64 x, .bool inn, .bool esc, .bool long, .string t] ∧ -9223372036854775808 ≤ x ∧ x ≤ 9223372036854775807 ∧ t.size ≤ maxLen := by
  obtain ⟨fs, hfs, hfl⟩ := fieldsDef
  obtain ⟨cs, rfl, hsz⟩ := okWide_struct hfs hv
  obtain ⟨c0, c1, c2, c3, c4, c5, rfl⟩ := array6 (hsz.trans cellsDef)
  obtain ⟨fuel, hf⟩ := h
  obtain ⟨xs, n, _, _, hl, hlen, hfd⟩ := DataW.trod_struct hfs hf
  have key : ∀ (i : Nat) (T : TypeId) (o : Nat), (fs.toList.map fun f => (f.type, f.offset))[i]? = some (T, o) → ∃ x, DataW.trod enc Tryd.prog W 0 (fun _ => true) true n T (([c0, c1, c2, c3, c4, c5].drop o).take (Tryd.prog.cellsOf T)) = some x := by
    intro i T o hi
    rw [List.getElem?_map, Option.map_eq_some_iff] at hi
    obtain ⟨f, hf1, hf2⟩ := hi
    simp only [Prod.mk.injEq] at hf2
    obtain ⟨rfl, rfl⟩ := hf2
    have hf3 : fs[i]? = some f := by rw [← Array.getElem?_toList]; exact hf1
    have := hfd i f hf3
    have hi2 : i < fs.size := (Array.getElem?_eq_some_iff.1 hf3).1
    exact ⟨xs[i]'(by omega), by rw [← List.getElem?_eq_getElem (by omega)]; exact this⟩
  rw [hfl] at key
  obtain ⟨x0, k0⟩ := key 0 _ _ rfl
  obtain ⟨x1, k1⟩ := key 1 _ _ rfl
  obtain ⟨x2, k2⟩ := key 2 _ _ rfl
  obtain ⟨x3, k3⟩ := key 3 _ _ rfl
  obtain ⟨x4, k4⟩ := key 4 _ _ rfl
  obtain ⟨x5, k5⟩ := key 5 _ _ rfl
  obtain ⟨b0, e0, _⟩ := DataW.trod_bool Tryd.underlying4 k0
  obtain ⟨n1, e1, _, w1⟩ := DataW.trod_int Tryd.underlying2 k1
  obtain ⟨b2, e2, _⟩ := DataW.trod_bool Tryd.underlying4 k2
  obtain ⟨b3, e3, _⟩ := DataW.trod_bool Tryd.underlying4 k3
  obtain ⟨b4, e4, _⟩ := DataW.trod_bool Tryd.underlying4 k4
  obtain ⟨s5, e5, _, w5⟩ := DataW.trod_string Tryd.underlying9 k5
  simp [cellsBool] at e0 e2 e3 e4
  simp [cellsInt] at e1
  simp [cellsStr] at e5
  subst e0 e1 e2 e3 e4 e5
  have hx : -9223372036854775808 ≤ n1 ∧ n1 ≤ 9223372036854775807 := by simpa [Lit.wf, IntKind.min, IntKind.max, IntKind.signed, IntKind.bits] using w1
  exact ⟨b0, n1, b2, b3, b4, s5, rfl, hx.1, hx.2, w5⟩
end Go.Proofs.YteffbodinbmliadDoor
