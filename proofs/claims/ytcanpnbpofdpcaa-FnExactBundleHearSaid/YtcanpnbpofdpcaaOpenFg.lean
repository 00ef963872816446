/- A Frag that was handed in, opened; no condition. -/
import Derived.Test.YtcanpnbpofdpcaaProg
import Derived.ProofKit
import Derived.Lay
import Derived.MakeChecks
import Derived.Carry
namespace Go.Proofs.Ytcanpnbpofdpcaa
open Go.ChangeShapes Go.WideShapes Go.ChangeAt Go.RowKit
theorem laidOutG : laidOutB Try.prog = true := by kernel_rfl
theorem array4g {α : Type} {cs : Array α} (h : cs.size = 4) : ∃ c0 c1 c2 c3, cs = #[c0, c1, c2, c3] := by
  obtain ⟨l⟩ := cs
  match l, h with
  | [c0, c1, c2, c3], _ => exact ⟨c0, c1, c2, c3, rfl⟩
theorem cellsFg : Try.prog.cellsOf 35 = 4 := by kernel_rfl
theorem cellsIntG : Try.prog.cellsOf 2 = 1 := by kernel_rfl
theorem cellsStrG : Try.prog.cellsOf 9 = 1 := by kernel_rfl
theorem cellsBoolG : Try.prog.cellsOf 4 = 1 := by kernel_rfl
theorem fieldsFg : ∃ fs : Array Field, Try.prog.underlying 35 = some (.struct fs) ∧ fs.toList.map (fun f => (f.type, f.offset)) = [(2, 0), (4, 1), (4, 2), (9, 3)] :=
  ⟨_, Try.underlying35, rfl⟩
/-- The four cells of a Frag. -/
theorem frag_cells {H : Type} {enc : TypeId × Value → H} {W : World} {fuel : Nat} {cs : List Value} {z : DataW H × List MemPlace} (hsz : cs.length = 4)
    (hf : DataW.trod enc Try.prog W 0 (fun _ => true) true fuel 35 cs = some z) :
    ∃ (k : Int) (x y : Bool) (t : ByteArray), cs = [.int .i64 k, .bool x, .bool y, .string t] ∧ t.size ≤ maxLen := by
  obtain ⟨fs, hfs, hfl⟩ := fieldsFg
  obtain ⟨c0, c1, c2, c3, rfl⟩ : ∃ c0 c1 c2 c3, cs = [c0, c1, c2, c3] := by
    match cs, hsz with
    | [c0, c1, c2, c3], _ => exact ⟨c0, c1, c2, c3, rfl⟩
  obtain ⟨xs, n, _, _, hl, hlen, hfd⟩ := DataW.trod_struct hfs hf
  have key : ∀ (i : Nat) (T : TypeId) (o : Nat), (fs.toList.map fun f => (f.type, f.offset))[i]? = some (T, o) → ∃ x, DataW.trod enc Try.prog W 0 (fun _ => true) true n T (([c0, c1, c2, c3].drop o).take (Try.prog.cellsOf T)) = some x := by
    intro i T o hi
    rw [List.getElem?_map, Option.map_eq_some_iff] at hi
    obtain ⟨f, hf1, hf2⟩ := hi
    simp only [Prod.mk.injEq] at hf2
    obtain ⟨rfl, rfl⟩ := hf2
    have hf3 : fs[i]? = some f := by rw [← Array.getElem?_toList]; exact hf1
    have := hfd i f hf3
    have hi2 : i < fs.size := (Array.getElem?_eq_some_iff.1 hf3).1
    exact ⟨xs[i]'(by omega), by rw [← List.getElem?_eq_getElem (by omega)]; exact this⟩
  rw [hfl] at key
  obtain ⟨x0, k0⟩ := key 0 _ _ rfl
  obtain ⟨x1, k1⟩ := key 1 _ _ rfl
  obtain ⟨x2, k2⟩ := key 2 _ _ rfl
  obtain ⟨x3, k3⟩ := key 3 _ _ rfl
  obtain ⟨n0, e0, _, _⟩ := DataW.trod_int Try.underlying2 k0
  obtain ⟨n1, e1, _⟩ := DataW.trod_bool Try.underlying4 k1
  obtain ⟨n2, e2, _⟩ := DataW.trod_bool Try.underlying4 k2
  obtain ⟨s3, e3, _, w3⟩ := DataW.trod_string Try.underlying9 k3
  simp [cellsIntG] at e0
  simp [cellsBoolG] at e1 e2
  simp [cellsStrG] at e3
  subst e0 e1 e2 e3
  exact ⟨n0, n1, n2, s3, rfl, w3⟩
set_option maxRecDepth 100000 in
/-- A Frag that was handed in, opened. -/
theorem open_fg {H : Type} {enc : TypeId × Value → H} {W : World} {base : Nat} {v : Value} {d : DataW H} {p : List MemPlace} (hv : Value.okWide Try.prog W .any base 35 v)
    (h : DataW.Trod enc Try.prog W 0 (fun _ => true) true 35 v d p) :
    ∃ (k : Int) (x y : Bool) (t : ByteArray), v = .agg #[.int .i64 k, .bool x, .bool y, .string t] ∧ t.size ≤ maxLen := by
  obtain ⟨fs, hfs, hfl⟩ := fieldsFg
  obtain ⟨cs, rfl, hsz⟩ := okWide_struct hfs hv
  obtain ⟨c0, c1, c2, c3, rfl⟩ := array4g (hsz.trans cellsFg)
  obtain ⟨fuel, hf⟩ := h
  obtain ⟨xs, n, _, _, hl, hlen, hfd⟩ := DataW.trod_struct hfs hf
  have key : ∀ (i : Nat) (T : TypeId) (o : Nat), (fs.toList.map fun f => (f.type, f.offset))[i]? = some (T, o) → ∃ x, DataW.trod enc Try.prog W 0 (fun _ => true) true n T (([c0, c1, c2, c3].drop o).take (Try.prog.cellsOf T)) = some x := by
    intro i T o hi
    rw [List.getElem?_map, Option.map_eq_some_iff] at hi
    obtain ⟨f, hf1, hf2⟩ := hi
    simp only [Prod.mk.injEq] at hf2
    obtain ⟨rfl, rfl⟩ := hf2
    have hf3 : fs[i]? = some f := by rw [← Array.getElem?_toList]; exact hf1
    have := hfd i f hf3
    have hi2 : i < fs.size := (Array.getElem?_eq_some_iff.1 hf3).1
    exact ⟨xs[i]'(by omega), by rw [← List.getElem?_eq_getElem (by omega)]; exact this⟩
  rw [hfl] at key
  obtain ⟨x0, k0⟩ := key 0 _ _ rfl
  obtain ⟨x1, k1⟩ := key 1 _ _ rfl
  obtain ⟨x2, k2⟩ := key 2 _ _ rfl
  obtain ⟨x3, k3⟩ := key 3 _ _ rfl
  obtain ⟨n0, e0, _, _⟩ := DataW.trod_int Try.underlying2 k0
  obtain ⟨n1, e1, _⟩ := DataW.trod_bool Try.underlying4 k1
  obtain ⟨n2, e2, _⟩ := DataW.trod_bool Try.underlying4 k2
  obtain ⟨s3, e3, _, w3⟩ := DataW.trod_string Try.underlying9 k3
  simp [cellsIntG] at e0
  simp [cellsBoolG] at e1 e2
  simp [cellsStrG] at e3
  subst e0 e1 e2 e3
  exact ⟨n0, n1, n2, s3, rfl, w3⟩
end Go.Proofs.Ytcanpnbpofdpcaa
