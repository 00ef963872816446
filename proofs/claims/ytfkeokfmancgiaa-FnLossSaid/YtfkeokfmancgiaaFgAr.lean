/- Parts that were handed in: the law's own copies, their letters counted; what lay in memory stands. -/
import Derived.Test.YtfkeokfmancgiaaFgC
import Derived.Test.YtfkeokfmancgiaaFgTo
import Derived.Deep.WholeRow
namespace Go.Proofs.Ytfkeokfmancgiaa
open Go.RowKit
/-- Parts that were handed in. -/
def ArgG (w : World) (v : Value) (F : List Fg) : Prop :=
  (∃ a cap, v = .slice a F.length cap) ∧ ∀ i (hi : i < F.length), ∃ b o cap, v = .slice (some ⟨b, o, none⟩) F.length cap ∧ b < w.heap.size ∧ w.cell? ⟨b, o + i * 4, none⟩ = some (.int .i64 F[i].seq) ∧ w.cell? ⟨b, o + i * 4 + 1, none⟩ = some (.bool F[i].beg) ∧ w.cell? ⟨b, o + i * 4 + 2, none⟩ = some (.bool F[i].fin) ∧ w.cell? ⟨b, o + i * 4 + 3, none⟩ = some (.string F[i].text) ∧ F[i].text.size ≤ maxLen
theorem ArgG.below {w w' : World} {v : Value} {F : List Fg} (h : ArgG w v F) (hb : Below w.heap.size w w') : ArgG w' v F :=
  ⟨h.1, fun i hi => by
    obtain ⟨b, o, cap, h1, h2, h3, h4, h5, h6, h7⟩ := h.2 i hi
    exact ⟨b, o, cap, h1, Nat.lt_of_lt_of_le h2 hb.size, (hb.cell (p := ⟨b, o + i * 4, none⟩) h2).trans h3, (hb.cell (p := ⟨b, o + i * 4 + 1, none⟩) h2).trans h4, (hb.cell (p := ⟨b, o + i * 4 + 2, none⟩) h2).trans h5, (hb.cell (p := ⟨b, o + i * 4 + 3, none⟩) h2).trans h6, h7⟩⟩
end Go.Proofs.Ytfkeokfmancgiaa
