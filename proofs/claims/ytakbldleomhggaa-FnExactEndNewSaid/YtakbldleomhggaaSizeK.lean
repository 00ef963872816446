/- How many bytes an option of a kind has; no condition. -/
import Derived.Test.YtakbldleomhggaaBase
namespace Go.Proofs.Ytakbldleomhggaa
/-- How many bytes an option of a kind has. -/
def sizeK (k : Int) : Option Nat := if k = 1 then some 2 else if k = 2 then some 4 else if k = 5 then some 4 else if k = 7 then some 0 else if k = 8 then some 0 else if k = 9 then some 1 else none
theorem sizeK_le {k : Int} {s : Nat} (h : sizeK k = some s) : s ≤ 4 := by
  unfold sizeK at h
  repeat' split at h
  all_goals first | (cases h; omega) | (cases h)
end Go.Proofs.Ytakbldleomhggaa
