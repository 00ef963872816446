/- Numbers that were handed in: the law's own copies, counted; what lay in memory stands. -/
import Derived.Test.YtfkeokfmancgiaaIvR
import Derived.Deep.WholeRow
import Derived.Deep.RegionHeld
namespace Go.Proofs.Ytfkeokfmancgiaa
open Go.RowKit
/-- Numbers that were handed in: a slice of so many places, each a number. -/
def ArgI (w : World) (v : Value) (L : List Int) : Prop :=
  (∃ a cap, v = .slice a L.length cap) ∧ ∀ i (hi : i < L.length), ∃ b o cap, v = .slice (some ⟨b, o, none⟩) L.length cap ∧ b < w.heap.size ∧ w.cell? ⟨b, o + i, none⟩ = some (.int .i64 L[i])
theorem ArgI.below {w w' : World} {v : Value} {L : List Int} (h : ArgI w v L) (hb : Below w.heap.size w w') : ArgI w' v L :=
  ⟨h.1, fun i hi => by
    obtain ⟨b, o, cap, h1, h2, h3⟩ := h.2 i hi
    exact ⟨b, o, cap, h1, Nat.lt_of_lt_of_le h2 hb.size, (hb.cell (p := ⟨b, o + i, none⟩) h2).trans h3⟩⟩
theorem set_oneI (cur' : Array Value) (L : List Value) (i : Nat) (A : Value) (hi : i < cur'.size) (h1 : L[i]? = some A) (ha : ∀ j, j < i → cur'[j]? = L[j]?) : ∀ j, j < i + 1 → (cur'.setIfInBounds i A)[j]? = L[j]? := by
  intro j hj
  rw [Array.getElem?_setIfInBounds]
  by_cases e1 : i = j
  · rw [if_pos e1, if_pos hi, ← e1, h1]
  · rw [if_neg e1]
    exact ha j (by omega)
end Go.Proofs.Ytfkeokfmancgiaa
