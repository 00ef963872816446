/- A bundle that was handed in, opened; no condition. -/
import Derived.Test.YtcanpnbpofdpcaaBdV
import Derived.Test.YtcanpnbpofdpcaaOpenFg
import Derived.Deep.SlicePairs
import Derived.ChangeSlices
namespace Go.Proofs.Ytcanpnbpofdpcaa
open Go.ChangeShapes Go.WideShapes Go.ChangeAt Go.RowKit
theorem cellsBd : Try.prog.cellsOf 25 = 2 := by kernel_rfl
theorem cellsL9 : Try.prog.cellsOf 22 = 1 := by kernel_rfl
theorem cellsP9 : Try.prog.cellsOf 23 = 1 := by kernel_rfl
theorem fieldsBd : ∃ fs : Array Field, Try.prog.underlying 25 = some (.struct fs) ∧ fs.toList.map (fun f => (f.type, f.offset)) = [(22, 0), (23, 1)] :=
  ⟨_, Try.underlying25, rfl⟩
theorem array2b {α : Type} {cs : Array α} (h : cs.size = 2) : ∃ c0 c1, cs = #[c0, c1] := by
  obtain ⟨l⟩ := cs
  match l, h with
  | [c0, c1], _ => exact ⟨c0, c1, rfl⟩
theorem adr_none {W : World} {a : Addr} {v : Value} (h : W.cell? (a.add 0) = some v) : ∃ b o, a = ⟨b, o, none⟩ ∧ ∀ k, a.add k = ⟨b, o + k, none⟩ := by
  obtain ⟨b, o, sp⟩ := a
  have hsp : sp = none := by
    cases sp with
    | none => rfl
    | some x =>
      unfold World.cell? Addr.add at h
      split at h <;> simp at h
  subst hsp
  exact ⟨b, o, rfl, fun k => by unfold Addr.add; split <;> simp_all⟩
theorem nums_at {H : Type} {enc : TypeId × Value → H} {W : World} {fuel : Nat} {c : Value} {x : DataW H × List MemPlace}
    (hf : DataW.trod enc Try.prog W 0 (fun _ => true) true fuel 22 [c] = some x) : ∃ (a : Option Addr) (cap : Nat) (L : List Int), c = .slice a L.length cap ∧ ArgI W (.slice a L.length cap) L ∧ L.length ≤ maxLen := by
  rcases open_ints Try.underlying22 Try.underlying2 cellsIntG hf with ⟨hcs, _⟩ | ⟨a, len, cap, zs, hcs, _, hl, hm, hsl, _, hcell, _⟩
  · simp at hcs
    subst hcs
    exact ⟨none, 0, [], rfl, ⟨⟨_, _, rfl⟩, fun i hi => absurd hi (by simp)⟩, Nat.zero_le _⟩
  · simp at hcs
    subst hcs
    simp only [if_true] at hsl
    have hlen : (zs.take len).length = len := by rw [List.length_take]; omega
    refine ⟨some a, cap, zs.take len, by rw [hlen], ⟨⟨some a, cap, rfl⟩, fun i hi => ?_⟩, by rw [hlen]; omega⟩
    have hi' : i < len := by rw [hlen] at hi; exact hi
    have hqi := hcell i (by omega)
    obtain ⟨b, o, rfl, hadd⟩ := adr_none (hcell 0 (by omega))
    rw [hadd] at hqi
    have hg : (zs.take len)[i] = zs.getD i 0 := by rw [List.getElem_take, List.getD, List.getElem?_eq_getElem (by omega)]; rfl
    rw [hg]
    exact ⟨b, o, cap, by rw [hlen], World.block_lt_of_cell? W _ hqi, hqi⟩
theorem frags_at {H : Type} {enc : TypeId × Value → H} {W : World} {fuel : Nat} {c : Value} {x : DataW H × List MemPlace}
    (hf : DataW.trod enc Try.prog W 0 (fun _ => true) true fuel 23 [c] = some x) : ∃ (a : Option Addr) (cap : Nat) (F : List Fg), c = .slice a F.length cap ∧ ArgG W (.slice a F.length cap) F ∧ F.length ≤ maxLen := by
  rcases Go.Deep.open_slice Try.underlying23 hf with ⟨hcs, _⟩ | ⟨a, len, cap, m, n, D, Pl, hcs, _, hl, hm, hmm, _, hx⟩
  · simp at hcs
    subst hcs
    exact ⟨none, 0, [], rfl, ⟨⟨_, _, rfl⟩, fun i hi => absurd hi (by simp)⟩, Nat.zero_le _⟩
  · simp at hcs
    subst hcs
    simp only [if_true] at hmm
    subst hmm
    have each : ∀ i, ∃ q : Fg, i < m → W.cell? (a.add (i * 4)) = some (.int .i64 q.seq) ∧ W.cell? (a.add (i * 4 + 1)) = some (.bool q.beg) ∧ W.cell? (a.add (i * 4 + 2)) = some (.bool q.fin) ∧ W.cell? (a.add (i * 4 + 3)) = some (.string q.text) ∧ q.text.size ≤ maxLen := by
      intro i
      by_cases hi : i < m
      · obtain ⟨cs', h1, h2⟩ := hx i hi
        rw [cellsFg] at h1
        obtain ⟨_, hlen, hcell⟩ := World.cells?_some h1
        obtain ⟨k, x, y, t, e, ht⟩ := frag_cells hlen h2
        subst e
        have e0 := hcell 0 (by simp)
        have e1 := hcell 1 (by simp)
        have e2 := hcell 2 (by simp)
        have e3 := hcell 3 (by simp)
        rw [Go.Deep.add_add] at e0 e1 e2 e3
        exact ⟨⟨k, x, y, t⟩, fun _ => ⟨by simpa using e0, by simpa using e1, by simpa using e2, by simpa using e3, ht⟩⟩
      · exact ⟨⟨0, false, false, ⟨#[]⟩⟩, fun h => absurd h hi⟩
    let q : Nat → Fg := fun i => Classical.choose (each i)
    have hq : ∀ i, i < m → W.cell? (a.add (i * 4)) = some (.int .i64 (q i).seq) ∧ W.cell? (a.add (i * 4 + 1)) = some (.bool (q i).beg) ∧ W.cell? (a.add (i * 4 + 2)) = some (.bool (q i).fin) ∧ W.cell? (a.add (i * 4 + 3)) = some (.string (q i).text) ∧ (q i).text.size ≤ maxLen := fun i => Classical.choose_spec (each i)
    refine ⟨some a, m, (List.range len).map q, by simp, ⟨⟨some a, m, by simp⟩, fun i hi => ?_⟩, by simp; omega⟩
    have hi' : i < len := by simpa using hi
    have hqi := hq i (by omega)
    obtain ⟨b, o, rfl, hadd⟩ := adr_none (by have := (hq 0 (by omega)).1; rw [Nat.zero_mul] at this; exact this)
    rw [hadd, hadd, hadd, hadd] at hqi
    have hg : ((List.range len).map q)[i] = q i := by simp
    rw [hg]
    exact ⟨b, o, m, by simp, World.block_lt_of_cell? W _ hqi.1, hqi.1, by rw [Nat.add_assoc]; exact hqi.2.1, by rw [Nat.add_assoc]; exact hqi.2.2.1, by rw [Nat.add_assoc]; exact hqi.2.2.2.1, hqi.2.2.2.2⟩
set_option maxRecDepth 100000 in
/-- A bundle that was handed in, opened. -/
theorem open_bd {H : Type} {enc : TypeId × Value → H} {W : World} {base : Nat} {v : Value} {d : DataW H} {p : List MemPlace} (hv : Value.okWide Try.prog W .any base 25 v)
    (h : DataW.Trod enc Try.prog W 0 (fun _ => true) true 25 v d p) :
    ∃ (a1 : Option Addr) (c1 : Nat) (L : List Int) (b1 : Option Addr) (cz : Nat) (F : List Fg), v = .agg #[.slice a1 L.length c1, .slice b1 F.length cz] ∧ ArgI W (.slice a1 L.length c1) L ∧ L.length ≤ maxLen ∧ ArgG W (.slice b1 F.length cz) F ∧ F.length ≤ maxLen := by
  obtain ⟨fs, hfs, hfl⟩ := fieldsBd
  obtain ⟨cs, rfl, hsz⟩ := okWide_struct hfs hv
  obtain ⟨c0, c1, rfl⟩ := array2b (hsz.trans cellsBd)
  obtain ⟨fuel, hf⟩ := h
  obtain ⟨xs, n, _, _, hl, hlen, hfd⟩ := DataW.trod_struct hfs hf
  have key : ∀ (i : Nat) (T : TypeId) (o : Nat), (fs.toList.map fun f => (f.type, f.offset))[i]? = some (T, o) → ∃ x, DataW.trod enc Try.prog W 0 (fun _ => true) true n T (([c0, c1].drop o).take (Try.prog.cellsOf T)) = some x := by
    intro i T o hi
    rw [List.getElem?_map, Option.map_eq_some_iff] at hi
    obtain ⟨f, hf1, hf2⟩ := hi
    simp only [Prod.mk.injEq] at hf2
    obtain ⟨rfl, rfl⟩ := hf2
    have hf3 : fs[i]? = some f := by rw [← Array.getElem?_toList]; exact hf1
    have := hfd i f hf3
    have hi2 : i < fs.size := (Array.getElem?_eq_some_iff.1 hf3).1
    exact ⟨xs[i]'(by omega), by rw [← List.getElem?_eq_getElem (by omega)]; exact this⟩
  rw [hfl] at key
  obtain ⟨x0, k0⟩ := key 0 _ _ rfl
  obtain ⟨x1, k1⟩ := key 1 _ _ rfl
  rw [cellsL9] at k0
  rw [cellsP9] at k1
  obtain ⟨a1, d1, L, e0, hA, hL⟩ := nums_at k0
  obtain ⟨b1, cz, F, e1, hG, hF⟩ := frags_at k1
  subst e0 e1
  exact ⟨a1, d1, L, b1, cz, F, rfl, hA, hL, hG, hF⟩
end Go.Proofs.Ytcanpnbpofdpcaa
