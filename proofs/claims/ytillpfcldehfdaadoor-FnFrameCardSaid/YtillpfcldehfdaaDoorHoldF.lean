/- A row of what was found, as memory holds it; no condition. -/
import Derived.Test.YtillpfcldehfdaaDoorTold
namespace Go.Proofs.YtillpfcldehfdaaDoor
open Go.RowKit
/-- A row of what was found, of whatever kind: it holds these. -/
def HoldsF (w : World) (v : Value) (F : List Hd.Fd) : Prop :=
  (∃ ad cp, v = .slice ad 0 cp ∧ F = []) ∨ ∃ g cp cur, v = .slice (some ⟨g, 0, none⟩) F.length cp ∧ w.heap[g]? = some (.cells cur 44) ∧ F.length * 2 ≤ cur.size ∧ ∀ j, j < F.length * 2 → cur[j]? = (fcells F)[j]?
theorem HoldsF.own {w : World} {base : Nat} {v : Value} {F : List Hd.Fd} (h : w.ownsRow base 44 2 v F.length (fcells F)) : HoldsF w v F := by
  rcases h.2 with ⟨h1, h2⟩ | ⟨g, cap, cur, h1, _, h3, h4, _, h6, h7⟩
  · exact Or.inl ⟨_, _, h1, List.eq_nil_of_length_eq_zero h2⟩
  · refine Or.inr ⟨g, cap, cur, h1, h3, by rw [h6]; omega, fun j hj => ?_⟩
    rw [← h7, List.getElem?_take, if_pos hj, Array.getElem?_toList]
theorem HoldsF.same {w w' : World} {v : Value} {F : List Hd.Fd} (h : HoldsF w v F) (hb : ∀ g, v.ownBlock = some g → w'.heap[g]? = w.heap[g]?) : HoldsF w' v F :=
  h.imp id fun ⟨g, cp, cur, h1, h2, h3⟩ => ⟨g, cp, cur, h1, (hb g (by rw [h1]; rfl)).trans h2, h3⟩
theorem HoldsF.lt {w : World} {v : Value} {F : List Hd.Fd} (h : HoldsF w v F) (hF : F ≠ []) : ∃ g, v.ownBlock = some g ∧ g < w.heap.size := by
  rcases h with ⟨_, _, _, e⟩ | ⟨g, cp, cur, h1, h2, _⟩
  · exact absurd e hF
  · exact ⟨g, by rw [h1]; rfl, (Array.getElem?_eq_some_iff.1 h2).1⟩
theorem HoldsF.below {w w' : World} {v : Value} {F : List Hd.Fd} (h : HoldsF w v F) (hb : Below w.heap.size w w') : HoldsF w' v F :=
  h.imp id fun ⟨g, cp, cur, h1, h2, h3⟩ => ⟨g, cp, cur, h1, (hb.block g (Array.getElem?_eq_some_iff.1 h2).1).trans h2, h3⟩
theorem HoldsF.form {w : World} {v : Value} {F : List Hd.Fd} (h : HoldsF w v F) : ∃ ad cp, v = .slice ad F.length cp := by
  rcases h with ⟨ad, cp, h1, h2⟩ | ⟨g, cp, cur, h1, _⟩
  · exact ⟨ad, cp, by rw [h1, h2]; rfl⟩
  · exact ⟨_, _, h1⟩
end Go.Proofs.YtillpfcldehfdaaDoor
