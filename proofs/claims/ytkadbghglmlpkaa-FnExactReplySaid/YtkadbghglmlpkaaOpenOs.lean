/- Options that were handed in, opened; no condition. -/
import Derived.Test.YtkadbghglmlpkaaOptArg
import Derived.ProofKit
import Derived.Lay
import Derived.MakeChecks
import Derived.Carry
import Derived.Deep.SlicePairs
namespace Go.Proofs.Ytkadbghglmlpkaa
open Go.ChangeShapes Go.WideShapes Go.ChangeAt Go.RowKit
theorem laidOutO : laidOutB Try.prog = true := by kernel_rfl
theorem cellsOp : Try.prog.cellsOf 58 = 2 := by kernel_rfl
theorem cellsI : Try.prog.cellsOf 2 = 1 := by kernel_rfl
theorem cellsS : Try.prog.cellsOf 9 = 1 := by kernel_rfl
theorem open_opts {H : Type} {enc : TypeId × Value → H} {W : World} {a : Option Addr} {len cap : Nat} {d : DataW H} {ps : List MemPlace}
    (h : DataW.Trod enc Try.prog W 0 (fun _ => true) true 31 (.slice a len cap) d ps) : ∃ F : List Op.Opt, F.length = len ∧ ArgO W (.slice a len cap) F ∧ F.length ≤ maxLen := by
  obtain ⟨fuel, hf⟩ := h
  rcases Go.Deep.open_slice_pairs Try.underlying31 Try.underlying58 cellsOp rfl rfl cellsI cellsS hf with ⟨hcs, hx⟩ | ⟨a', len', cap', m, n, V0, V1, D0, D1, P0, P1, hcs, _, hl, hm, hmm, hx, hcell⟩
  · simp [Value.cells] at hcs
    obtain ⟨rfl, rfl, rfl⟩ := hcs
    exact ⟨[], rfl, ⟨⟨_, _, rfl⟩, fun i hi => absurd hi (by simp)⟩, Nat.zero_le _⟩
  · simp [Value.cells] at hcs
    obtain ⟨rfl, rfl, rfl⟩ := hcs
    simp only [if_true] at hmm
    subst hmm
    have each : ∀ i, ∃ q : Op.Opt, i < m → W.cell? (a'.add (i * 2)) = some (.int .i64 q.kind) ∧ W.cell? (a'.add (i * 2 + 1)) = some (.string q.data) ∧ q.data.size ≤ maxLen := by
      intro i
      by_cases hi : i < m
      · obtain ⟨h1, h2, h3, h4⟩ := hcell i hi
        obtain ⟨k, e1, _, _⟩ := DataW.trod_int Try.underlying2 h3
        obtain ⟨s, e2, _, hs⟩ := DataW.trod_string Try.underlying9 h4
        simp only [List.cons.injEq, and_true] at e1 e2
        rw [e1] at h1
        rw [e2] at h2
        exact ⟨⟨k, s⟩, fun _ => ⟨h1, h2, hs⟩⟩
      · exact ⟨⟨0, ⟨#[]⟩⟩, fun h => absurd h hi⟩
    let q : Nat → Op.Opt := fun i => Classical.choose (each i)
    have hq : ∀ i, i < m → W.cell? (a'.add (i * 2)) = some (.int .i64 (q i).kind) ∧ W.cell? (a'.add (i * 2 + 1)) = some (.string (q i).data) ∧ (q i).data.size ≤ maxLen := fun i => Classical.choose_spec (each i)
    refine ⟨(List.range len).map q, by simp, ⟨⟨some a', m, by simp⟩, fun i hi => ?_⟩, by simp; omega⟩
    have hi' : i < len := by simpa using hi
    obtain ⟨b, o, sp⟩ := a'
    have hsp : sp = none := by
      cases sp with
      | none => rfl
      | some x =>
        have hc0 := (hq 0 (by omega)).1
        unfold World.cell? Addr.add at hc0
        split at hc0 <;> simp at hc0
    subst hsp
    have hadd : ∀ k, (⟨b, o, none⟩ : Addr).add k = ⟨b, o + k, none⟩ := fun k => by unfold Addr.add; split <;> simp_all
    have hqi := hq i (by omega)
    rw [hadd, hadd] at hqi
    have hg : ((List.range len).map q)[i] = q i := by simp
    rw [hg]
    exact ⟨b, o, m, by simp, World.block_lt_of_cell? W _ hqi.1, hqi.1, hqi.2.1, hqi.2.2⟩
end Go.Proofs.Ytkadbghglmlpkaa
