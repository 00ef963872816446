/- A Numbered that was handed in, opened; no condition. -/
import Derived.Test.YtholikngdkpjeaaProg
import Derived.ProofKit
import Derived.Lay
import Derived.MakeChecks
import Derived.Carry
namespace Go.Proofs.Ytholikngdkpjeaa
open Go.ChangeShapes Go.WideShapes Go.ChangeAt Go.RowKit
theorem laidOutN : laidOutB Try.prog = true := by kernel_rfl
theorem array4n {α : Type} {cs : Array α} (h : cs.size = 4) : ∃ c0 c1 c2 c3, cs = #[c0, c1, c2, c3] := by
  obtain ⟨l⟩ := cs
  match l, h with
  | [c0, c1, c2, c3], _ => exact ⟨c0, c1, c2, c3, rfl⟩
theorem cellsNb : Try.prog.cellsOf 43 = 4 := by kernel_rfl
theorem cellsIntN : Try.prog.cellsOf 2 = 1 := by kernel_rfl
theorem cellsStrN : Try.prog.cellsOf 9 = 1 := by kernel_rfl
theorem fieldsNb : ∃ fs : Array Field, Try.prog.underlying 43 = some (.struct fs) ∧ fs.toList.map (fun f => (f.type, f.offset)) = [(2, 0), (2, 1), (2, 2), (9, 3)] :=
  ⟨_, Try.underlying43, rfl⟩
/-- A Numbered that was handed in, opened. -/
theorem open_nb {H : Type} {enc : TypeId × Value → H} {W : World} {base : Nat} {v : Value} {d : DataW H} {p : List MemPlace} (hv : Value.okWide Try.prog W .any base 43 v)
    (h : DataW.Trod enc Try.prog W 0 (fun _ => true) true 43 v d p) :
    ∃ (k x y : Int) (t : ByteArray), v = .agg #[.int .i64 k, .int .i64 x, .int .i64 y, .string t] ∧ t.size ≤ maxLen := by
  obtain ⟨fs, hfs, hfl⟩ := fieldsNb
  obtain ⟨cs, rfl, hsz⟩ := okWide_struct hfs hv
  obtain ⟨c0, c1, c2, c3, rfl⟩ := array4n (hsz.trans cellsNb)
  obtain ⟨fuel, hf⟩ := h
  obtain ⟨xs, n, _, _, hl, hlen, hfd⟩ := DataW.trod_struct hfs hf
  have key : ∀ (i : Nat) (T : TypeId) (o : Nat), (fs.toList.map fun f => (f.type, f.offset))[i]? = some (T, o) → ∃ x, DataW.trod enc Try.prog W 0 (fun _ => true) true n T (([c0, c1, c2, c3].drop o).take (Try.prog.cellsOf T)) = some x := by
    intro i T o hi
    rw [List.getElem?_map, Option.map_eq_some_iff] at hi
    obtain ⟨f, hf1, hf2⟩ := hi
    simp only [Prod.mk.injEq] at hf2
    obtain ⟨rfl, rfl⟩ := hf2
    have hf3 : fs[i]? = some f := by rw [← Array.getElem?_toList]; exact hf1
    have := hfd i f hf3
    have hi2 : i < fs.size := (Array.getElem?_eq_some_iff.1 hf3).1
    exact ⟨xs[i]'(by omega), by rw [← List.getElem?_eq_getElem (by omega)]; exact this⟩
  rw [hfl] at key
  obtain ⟨x0, k0⟩ := key 0 _ _ rfl
  obtain ⟨x1, k1⟩ := key 1 _ _ rfl
  obtain ⟨x2, k2⟩ := key 2 _ _ rfl
  obtain ⟨x3, k3⟩ := key 3 _ _ rfl
  obtain ⟨n0, e0, _, _⟩ := DataW.trod_int Try.underlying2 k0
  obtain ⟨n1, e1, _, _⟩ := DataW.trod_int Try.underlying2 k1
  obtain ⟨n2, e2, _, _⟩ := DataW.trod_int Try.underlying2 k2
  obtain ⟨s3, e3, _, w3⟩ := DataW.trod_string Try.underlying9 k3
  simp [cellsIntN] at e0 e1 e2
  simp [cellsStrN] at e3
  subst e0 e1 e2 e3
  exact ⟨n0, n1, n2, s3, rfl, w3⟩
end Go.Proofs.Ytholikngdkpjeaa
