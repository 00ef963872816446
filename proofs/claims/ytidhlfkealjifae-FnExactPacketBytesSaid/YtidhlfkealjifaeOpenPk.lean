/- A Packet that was handed in, opened; no condition. -/
import Derived.Test.YtidhlfkealjifaeProg
import Derived.ProofKit
import Derived.Lay
import Derived.MakeChecks
import Derived.Carry
namespace Go.Proofs.Ytidhlfkealjifae
open Go.ChangeShapes Go.WideShapes Go.ChangeAt Go.RowKit
theorem laidOutP : laidOutB Try.prog = true := by kernel_rfl
theorem array3 {α : Type} {cs : Array α} (h : cs.size = 3) : ∃ c0 c1 c2, cs = #[c0, c1, c2] := by
  obtain ⟨l⟩ := cs
  match l, h with
  | [c0, c1, c2], _ => exact ⟨c0, c1, c2, rfl⟩
theorem cellsPk : Try.prog.cellsOf 36 = 3 := by kernel_rfl
theorem cellsInt : Try.prog.cellsOf 2 = 1 := by kernel_rfl
theorem cellsStr : Try.prog.cellsOf 9 = 1 := by kernel_rfl
theorem fieldsPk : ∃ fs : Array Field, Try.prog.underlying 36 = some (.struct fs) ∧ fs.toList.map (fun f => (f.type, f.offset)) = [(2, 0), (2, 1), (9, 2)] :=
  ⟨_, Try.underlying36, rfl⟩
/-- A Packet that was handed in, opened. -/
theorem open_pk {H : Type} {enc : TypeId × Value → H} {W : World} {base : Nat} {v : Value} {d : DataW H} {p : List MemPlace} (hv : Value.okWide Try.prog W .any base 36 v)
    (h : DataW.Trod enc Try.prog W 0 (fun _ => true) true 36 v d p) :
    ∃ (x y : Int) (t : ByteArray), v = .agg #[.int .i64 x, .int .i64 y, .string t] ∧ t.size ≤ maxLen := by
  obtain ⟨fs, hfs, hfl⟩ := fieldsPk
  obtain ⟨cs, rfl, hsz⟩ := okWide_struct hfs hv
  obtain ⟨c0, c1, c2, rfl⟩ := array3 (hsz.trans cellsPk)
  obtain ⟨fuel, hf⟩ := h
  obtain ⟨xs, n, _, _, hl, hlen, hfd⟩ := DataW.trod_struct hfs hf
  have key : ∀ (i : Nat) (T : TypeId) (o : Nat), (fs.toList.map fun f => (f.type, f.offset))[i]? = some (T, o) → ∃ x, DataW.trod enc Try.prog W 0 (fun _ => true) true n T (([c0, c1, c2].drop o).take (Try.prog.cellsOf T)) = some x := by
    intro i T o hi
    rw [List.getElem?_map, Option.map_eq_some_iff] at hi
    obtain ⟨f, hf1, hf2⟩ := hi
    simp only [Prod.mk.injEq] at hf2
    obtain ⟨rfl, rfl⟩ := hf2
    have hf3 : fs[i]? = some f := by rw [← Array.getElem?_toList]; exact hf1
    have := hfd i f hf3
    have hi2 : i < fs.size := (Array.getElem?_eq_some_iff.1 hf3).1
    exact ⟨xs[i]'(by omega), by rw [← List.getElem?_eq_getElem (by omega)]; exact this⟩
  rw [hfl] at key
  obtain ⟨x0, k0⟩ := key 0 _ _ rfl
  obtain ⟨x1, k1⟩ := key 1 _ _ rfl
  obtain ⟨x2, k2⟩ := key 2 _ _ rfl
  obtain ⟨n0, e0, _, _⟩ := DataW.trod_int Try.underlying2 k0
  obtain ⟨n1, e1, _, _⟩ := DataW.trod_int Try.underlying2 k1
  obtain ⟨s2, e2, _, w2⟩ := DataW.trod_string Try.underlying9 k2
  simp [cellsInt] at e0 e1
  simp [cellsStr] at e2
  subst e0 e1 e2
  exact ⟨n0, n1, s2, rfl, w2⟩
end Go.Proofs.Ytidhlfkealjifae
