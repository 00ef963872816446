/- The law's words on rows of numbers: two held against each other, marked by numbers, and whether the marks are there; what lay in memory stands but for the marked row. -/
import Derived.Test.YtfkeokfmancgiaaIvR
import Derived.Test.YtfkeokfmancgiaaOwnB
namespace Go.Proofs.Ytfkeokfmancgiaa
open Go.RowKit
/-- Numbers that are marks. -/
def mil (k n : Nat) : List Int := (List.range n).map fun (i : Nat) => ((k + i : Nat) : Int)
theorem mil_len (k n : Nat) : (mil k n).length = n := by simp [mil]
theorem mil_get (k n i K : Nat) (h : i < n) (hK : k + i = K) : (icells (mil k n))[i]? = some (.int .i64 (K : Int)) := by
  subst hK
  exact icells_get _ i _ (by simp [mil, h])
theorem set_onei (cur' : Array Value) (L : List Value) (i : Nat) (A : Value) (hi : i < cur'.size) (h1 : L[i]? = some A) (ha : ∀ j, j < i → cur'[j]? = L[j]?) : ∀ j, j < i + 1 → (cur'.setIfInBounds i A)[j]? = L[j]? := by
  intro j hj
  rw [Array.getElem?_setIfInBounds]
  by_cases e1 : i = j
  · rw [if_pos e1, if_pos hi, ← e1, h1]
  · rw [if_neg e1]
    exact ha j (by omega)
/-- A row of numbers stands where its block does. -/
theorem holdsI_but {u v : Value} {L : List Int} {W W' : World} (h : HoldsI W v L) (hb : But u.ownBlock W W') (n : ∀ g, v.ownBlock = some g → u.ownBlock ≠ some g) : HoldsI W' v L :=
  h.imp id fun ⟨g, cp, cur, e1, e2, e3⟩ => ⟨g, cp, cur, e1, (hb.block g (Array.getElem?_eq_some_iff.1 e2).1 (n g (by rw [e1]; rfl))).trans e2, e3⟩
end Go.Proofs.Ytfkeokfmancgiaa
