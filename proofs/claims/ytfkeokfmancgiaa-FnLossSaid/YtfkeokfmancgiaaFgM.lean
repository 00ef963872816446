/- The law's words on rows of parts: compared, marked by numbers, and whether the marks are there; what lay in memory stands but for the marked row. -/
import Derived.Test.YtfkeokfmancgiaaFgC
import Derived.Test.YtfkeokfmancgiaaFgQ
import Derived.Test.YtfkeokfmancgiaaMarkT
namespace Go.Proofs.Ytfkeokfmancgiaa
open Go.RowKit
/-- Parts, marked. -/
def mfg (k n : Nat) : List Fg := (List.range n).map fun i => ⟨((k + 4 * i : Nat) : Int), (((k + 4 * i : Nat) : Int) + 1) % 3 == 0, (((k + 4 * i : Nat) : Int) + 1 + 1) % 3 == 0, mtx (k + 4 * i + 3)⟩
theorem mfg_len (k n : Nat) : (mfg k n).length = n := by simp [mfg]
theorem mfg_get (k n i K : Nat) (h : i < n) (hK : k + 4 * i = K) : (fgcells (mfg k n))[i * 4]? = some (.int .i64 (K : Int)) ∧ (fgcells (mfg k n))[i * 4 + 1]? = some (.bool (((K : Int) + 1) % 3 == 0)) ∧ (fgcells (mfg k n))[i * 4 + 2]? = some (.bool (((K : Int) + 1 + 1) % 3 == 0)) ∧ (fgcells (mfg k n))[i * 4 + 3]? = some (.string (mtx (K + 3))) := by
  subst hK
  exact fgcells_get (mfg k n) i ⟨((k + 4 * i : Nat) : Int), (((k + 4 * i : Nat) : Int) + 1) % 3 == 0, (((k + 4 * i : Nat) : Int) + 1 + 1) % 3 == 0, mtx (k + 4 * i + 3)⟩ (by simp [mfg, h])
theorem set_fourg (cur' : Array Value) (L : List Value) (i : Nat) (A B C D : Value) (hi : i * 4 + 3 < cur'.size) (h1 : L[i * 4]? = some A) (h2 : L[i * 4 + 1]? = some B) (h3 : L[i * 4 + 2]? = some C) (h4 : L[i * 4 + 3]? = some D) (ha : ∀ j, j < i * 4 → cur'[j]? = L[j]?) :
    ∀ j, j < (i + 1) * 4 → ((((cur'.setIfInBounds (i * 4) A).setIfInBounds (i * 4 + 1) B).setIfInBounds (i * 4 + 2) C).setIfInBounds (i * 4 + 3) D)[j]? = L[j]? := by
  intro j hj
  rw [Array.getElem?_setIfInBounds]
  by_cases e0 : i * 4 + 3 = j
  · rw [if_pos e0, if_pos (by simpa using hi), ← e0, h4]
  · rw [if_neg e0, Array.getElem?_setIfInBounds]
    by_cases e1 : i * 4 + 2 = j
    · rw [if_pos e1, if_pos (by simp; omega), ← e1, h3]
    · rw [if_neg e1, Array.getElem?_setIfInBounds]
      by_cases e2 : i * 4 + 1 = j
      · rw [if_pos e2, if_pos (by simp; omega), ← e2, h2]
      · rw [if_neg e2, Array.getElem?_setIfInBounds]
        by_cases e3 : i * 4 = j
        · rw [if_pos e3, if_pos (by omega), ← e3, h1]
        · rw [if_neg e3]
          exact ha j (by omega)
end Go.Proofs.Ytfkeokfmancgiaa
