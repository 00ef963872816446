/- A Config that was handed in, opened; no condition. -/
import Derived.Test.YtakbldleomhggaaProg
import Derived.ProofKit
import Derived.Lay
import Derived.MakeChecks
import Derived.Carry
namespace Go.Proofs.Ytakbldleomhggaa
open Go.ChangeShapes Go.WideShapes Go.ChangeAt Go.RowKit
theorem laidOutP : laidOutB Try.prog = true := by kernel_rfl
theorem array6 {α : Type} {cs : Array α} (h : cs.size = 6) : ∃ c0 c1 c2 c3 c4 c5, cs = #[c0, c1, c2, c3, c4, c5] := by
  obtain ⟨l⟩ := cs
  match l, h with
  | [c0, c1, c2, c3, c4, c5], _ => exact ⟨c0, c1, c2, c3, c4, c5, rfl⟩
theorem cellsCfg : Try.prog.cellsOf 37 = 6 := by kernel_rfl
theorem cellsBool : Try.prog.cellsOf 4 = 1 := by kernel_rfl
theorem cellsInt : Try.prog.cellsOf 2 = 1 := by kernel_rfl
theorem fieldsCfg : ∃ fs : Array Field, Try.prog.underlying 37 = some (.struct fs) ∧ fs.toList.map (fun f => (f.type, f.offset)) = [(2, 0), (2, 1), (2, 2), (4, 3), (4, 4), (4, 5)] :=
  ⟨_, Try.underlying37, rfl⟩
set_option maxRecDepth 100000 in
/-- A Config that was handed in, opened. -/
theorem open_cfg {H : Type} {enc : TypeId × Value → H} {W : World} {base : Nat} {v : Value} {d : DataW H} {p : List MemPlace} (hv : Value.okWide Try.prog W .any base 37 v)
    (h : DataW.Trod enc Try.prog W 0 (fun _ => true) true 37 v d p) :
    ∃ (m a g : Int) (p c d : Bool), v = .agg #[.int .i64 m, .int .i64 a, .int .i64 g, .bool p, .bool c, .bool d] ∧ (-9223372036854775808 ≤ m ∧ m ≤ 9223372036854775807) ∧ (-9223372036854775808 ≤ a ∧ a ≤ 9223372036854775807) ∧ (-9223372036854775808 ≤ g ∧ g ≤ 9223372036854775807) := by
  obtain ⟨fs, hfs, hfl⟩ := fieldsCfg
  obtain ⟨cs, rfl, hsz⟩ := okWide_struct hfs hv
  obtain ⟨c0, c1, c2, c3, c4, c5, rfl⟩ := array6 (hsz.trans cellsCfg)
  obtain ⟨fuel, hf⟩ := h
  obtain ⟨xs, n, _, _, hl, hlen, hfd⟩ := DataW.trod_struct hfs hf
  have key : ∀ (i : Nat) (T : TypeId) (o : Nat), (fs.toList.map fun f => (f.type, f.offset))[i]? = some (T, o) → ∃ x, DataW.trod enc Try.prog W 0 (fun _ => true) true n T (([c0, c1, c2, c3, c4, c5].drop o).take (Try.prog.cellsOf T)) = some x := by
    intro i T o hi
    rw [List.getElem?_map, Option.map_eq_some_iff] at hi
    obtain ⟨f, hf1, hf2⟩ := hi
    simp only [Prod.mk.injEq] at hf2
    obtain ⟨rfl, rfl⟩ := hf2
    have hf3 : fs[i]? = some f := by rw [← Array.getElem?_toList]; exact hf1
    have := hfd i f hf3
    have hi2 : i < fs.size := (Array.getElem?_eq_some_iff.1 hf3).1
    exact ⟨xs[i]'(by omega), by rw [← List.getElem?_eq_getElem (by omega)]; exact this⟩
  rw [hfl] at key
  obtain ⟨x0, k0⟩ := key 0 _ _ rfl
  obtain ⟨x1, k1⟩ := key 1 _ _ rfl
  obtain ⟨x2, k2⟩ := key 2 _ _ rfl
  obtain ⟨x3, k3⟩ := key 3 _ _ rfl
  obtain ⟨x4, k4⟩ := key 4 _ _ rfl
  obtain ⟨x5, k5⟩ := key 5 _ _ rfl
  obtain ⟨n0, e0, _, w0⟩ := DataW.trod_int Try.underlying2 k0
  obtain ⟨n1, e1, _, w1⟩ := DataW.trod_int Try.underlying2 k1
  obtain ⟨n2, e2, _, w2⟩ := DataW.trod_int Try.underlying2 k2
  obtain ⟨b3, e3, _⟩ := DataW.trod_bool Try.underlying4 k3
  obtain ⟨b4, e4, _⟩ := DataW.trod_bool Try.underlying4 k4
  obtain ⟨b5, e5, _⟩ := DataW.trod_bool Try.underlying4 k5
  simp [cellsBool] at e3 e4 e5
  simp [cellsInt] at e0 e1 e2
  subst e0 e1 e2 e3 e4 e5
  exact ⟨n0, n1, n2, b3, b4, b5, rfl, by simpa [Lit.wf, IntKind.min, IntKind.max, IntKind.signed, IntKind.bits] using w0, by simpa [Lit.wf, IntKind.min, IntKind.max, IntKind.signed, IntKind.bits] using w1, by simpa [Lit.wf, IntKind.min, IntKind.max, IntKind.signed, IntKind.bits] using w2⟩
end Go.Proofs.Ytakbldleomhggaa
