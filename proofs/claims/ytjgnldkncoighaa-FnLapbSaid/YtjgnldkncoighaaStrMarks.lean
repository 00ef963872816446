/- The law's words on rows of texts: two held against each other, marked by numbers, and whether the marks are there; what lay in memory stands but for the marked row. -/
import Derived.Test.YtjgnldkncoighaaStrRow
import Derived.Test.YtjgnldkncoighaaMarkT
import Derived.Test.YtjgnldkncoighaaOwnB
namespace Go.Proofs.Ytjgnldkncoighaa
open Go.RowKit
/-- Texts that are marks. -/
def mtl (k n : Nat) : List ByteArray := (List.range n).map fun i => mtx (k + i)
theorem mtl_len (k n : Nat) : (mtl k n).length = n := by simp [mtl]
theorem mtl_get (k n i K : Nat) (h : i < n) (hK : k + i = K) : (scells (mtl k n))[i]? = some (.string (mtx K)) := by
  subst hK
  exact scells_get _ i _ (by simp [mtl, h])
theorem set_one (cur' : Array Value) (L : List Value) (i : Nat) (A : Value) (hi : i < cur'.size) (h1 : L[i]? = some A) (ha : ∀ j, j < i → cur'[j]? = L[j]?) : ∀ j, j < i + 1 → (cur'.setIfInBounds i A)[j]? = L[j]? := by
  intro j hj
  rw [Array.getElem?_setIfInBounds]
  by_cases e1 : i = j
  · rw [if_pos e1, if_pos hi, ← e1, h1]
  · rw [if_neg e1]
    exact ha j (by omega)
/-- A row of texts stands where its block does. -/
theorem holdsT_but {u v : Value} {L : List ByteArray} {W W' : World} (h : HoldsT W v L) (hb : But u.ownBlock W W') (n : ∀ g, v.ownBlock = some g → u.ownBlock ≠ some g) : HoldsT W' v L :=
  h.imp id fun ⟨g, cp, cur, e1, e2, e3⟩ => ⟨g, cp, cur, e1, (hb.block g (Array.getElem?_eq_some_iff.1 e2).1 (n g (by rw [e1]; rfl))).trans e2, e3⟩
end Go.Proofs.Ytjgnldkncoighaa
