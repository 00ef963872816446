/- An end of a numbered line that was handed in, opened; no condition. -/
import Derived.Test.YtckebgalfomonaaLpV
import Derived.ProofKit
import Derived.Lay
import Derived.MakeChecks
import Derived.Carry
import Derived.SliceStrings
namespace Go.Proofs.Ytckebgalfomonaa
open Go.ChangeShapes Go.WideShapes Go.ChangeAt Go.RowKit
theorem laidOutL : laidOutB Try.prog = true := by kernel_rfl
theorem cellsLp : Try.prog.cellsOf 29 = 6 := by kernel_rfl
theorem cellsIL : Try.prog.cellsOf 2 = 1 := by kernel_rfl
theorem cellsBL : Try.prog.cellsOf 4 = 1 := by kernel_rfl
theorem cellsSL : Try.prog.cellsOf 9 = 1 := by kernel_rfl
theorem cellsTL : Try.prog.cellsOf 22 = 1 := by kernel_rfl
theorem fieldsLp : ∃ fs : Array Field, Try.prog.underlying 29 = some (.struct fs) ∧ fs.toList.map (fun f => (f.type, f.offset)) = [(2, 0), (2, 1), (2, 2), (2, 3), (22, 4), (4, 5)] :=
  ⟨_, Try.underlying29, rfl⟩
theorem array6l {α : Type} {cs : Array α} (h : cs.size = 6) : ∃ c0 c1 c2 c3 c4 c5, cs = #[c0, c1, c2, c3, c4, c5] := by
  obtain ⟨l⟩ := cs
  match l, h with
  | [c0, c1, c2, c3, c4, c5], _ => exact ⟨c0, c1, c2, c3, c4, c5, rfl⟩
theorem texts_at {H : Type} {enc : TypeId × Value → H} {W : World} {fuel : Nat} {c : Value} {x : DataW H × List MemPlace}
    (hf : DataW.trod enc Try.prog W 0 (fun _ => true) true fuel 22 [c] = some x) : ∃ (a : Option Addr) (cap : Nat) (L : List ByteArray), c = .slice a L.length cap ∧ ArgT W (.slice a L.length cap) L ∧ L.length ≤ maxLen := by
  rcases open_strings Try.underlying22 Try.underlying9 cellsSL hf with ⟨hcs, _⟩ | ⟨a, len, cap, ss, hcs, _, hl, hm, hsl, _, hcell, hsz⟩
  · simp at hcs
    subst hcs
    exact ⟨none, 0, [], rfl, ⟨⟨_, _, rfl⟩, fun i hi => absurd hi (by simp)⟩, Nat.zero_le _⟩
  · simp at hcs
    subst hcs
    simp only [if_true] at hsl
    have hlen : (ss.take len).length = len := by rw [List.length_take]; omega
    refine ⟨some a, cap, ss.take len, by rw [hlen], ⟨⟨some a, cap, rfl⟩, fun i hi => ?_⟩, by rw [hlen]; omega⟩
    have hi' : i < len := by rw [hlen] at hi; exact hi
    obtain ⟨b, o, sp⟩ := a
    have hsp : sp = none := by
      cases sp with
      | none => rfl
      | some x =>
        have hc0 := hcell 0 (by omega)
        unfold World.cell? Addr.add at hc0
        split at hc0 <;> simp at hc0
    subst hsp
    have hadd : ∀ k, (⟨b, o, none⟩ : Addr).add k = ⟨b, o + k, none⟩ := fun k => by unfold Addr.add; split <;> simp_all
    have hqi := hcell i (by omega)
    rw [hadd] at hqi
    have hg : (ss.take len)[i] = ss.getD i ByteArray.empty := by rw [List.getElem_take, List.getD, List.getElem?_eq_getElem (by omega)]; rfl
    rw [hg]
    refine ⟨b, o, cap, by rw [hlen], World.block_lt_of_cell? W _ hqi, hqi, ?_⟩
    have hm2 : ss.getD i ByteArray.empty ∈ ss := by
      rw [List.getD, List.getElem?_eq_getElem (by omega)]
      exact List.getElem_mem _
    exact hsz _ hm2
/-- An end that was handed in, opened. -/
theorem open_lp {H : Type} {enc : TypeId × Value → H} {W : World} {base : Nat} {v : Value} {d : DataW H} {p : List MemPlace} (hv : Value.okWide Try.prog W .any base 29 v)
    (h : DataW.Trod enc Try.prog W 0 (fun _ => true) true 29 v d p) :
    ∃ (q : Lp) (x1 : Option Addr) (y1 : Nat) (L : List ByteArray), v = .agg (lpC q (.slice x1 L.length y1)) ∧ ArgT W (.slice x1 L.length y1) L ∧ L.length ≤ maxLen := by
  obtain ⟨fs, hfs, hfl⟩ := fieldsLp
  obtain ⟨cs, rfl, hsz⟩ := okWide_struct hfs hv
  obtain ⟨c0, c1, c2, c3, c4, c5, rfl⟩ := array6l (hsz.trans cellsLp)
  obtain ⟨fuel, hf⟩ := h
  obtain ⟨xs, n, _, _, hl, hlen, hfd⟩ := DataW.trod_struct hfs hf
  have key : ∀ (i : Nat) (T : TypeId) (o : Nat), (fs.toList.map fun f => (f.type, f.offset))[i]? = some (T, o) → ∃ x, DataW.trod enc Try.prog W 0 (fun _ => true) true n T (([c0, c1, c2, c3, c4, c5].drop o).take (Try.prog.cellsOf T)) = some x := by
    intro i T o hi
    rw [List.getElem?_map, Option.map_eq_some_iff] at hi
    obtain ⟨f, hf1, hf2⟩ := hi
    simp only [Prod.mk.injEq] at hf2
    obtain ⟨rfl, rfl⟩ := hf2
    have hf3 : fs[i]? = some f := by rw [← Array.getElem?_toList]; exact hf1
    have := hfd i f hf3
    have hi2 : i < fs.size := (Array.getElem?_eq_some_iff.1 hf3).1
    exact ⟨xs[i]'(by omega), by rw [← List.getElem?_eq_getElem (by omega)]; exact this⟩
  rw [hfl] at key
  obtain ⟨x0, k0⟩ := key 0 _ _ rfl
  obtain ⟨x1, k1⟩ := key 1 _ _ rfl
  obtain ⟨x2, k2⟩ := key 2 _ _ rfl
  obtain ⟨x3, k3⟩ := key 3 _ _ rfl
  obtain ⟨x4, k4⟩ := key 4 _ _ rfl
  obtain ⟨x5, k5⟩ := key 5 _ _ rfl
  rw [cellsIL] at k0 k1 k2 k3
  rw [cellsTL] at k4
  rw [cellsBL] at k5
  obtain ⟨n0, e0, _, _⟩ := DataW.trod_int Try.underlying2 k0
  obtain ⟨n1, e1, _, _⟩ := DataW.trod_int Try.underlying2 k1
  obtain ⟨n2, e2, _, _⟩ := DataW.trod_int Try.underlying2 k2
  obtain ⟨n3, e3, _, _⟩ := DataW.trod_int Try.underlying2 k3
  obtain ⟨b5, e5, _⟩ := DataW.trod_bool Try.underlying4 k5
  obtain ⟨a, cap, L, e4, hA, hL⟩ := texts_at k4
  simp at e0 e1 e2 e3 e5
  subst e0 e1 e2 e3 e4 e5
  exact ⟨⟨n0, n1, n2, n3, b5⟩, a, cap, L, rfl, hA, hL⟩
end Go.Proofs.Ytckebgalfomonaa
