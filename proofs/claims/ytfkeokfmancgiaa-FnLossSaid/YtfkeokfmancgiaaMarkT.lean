/- The law's text of a mark; what lay in memory stands. -/
import Derived.Test.YtfkeokfmancgiaaOwn
namespace Go.Proofs.Ytfkeokfmancgiaa
open Go.RowKit
/-- The digits of a number ahead of a text. -/
def dgf : Nat → Nat → ByteArray → ByteArray
  | 0, _, o => o
  | f + 1, k, o => if k = 0 then o else dgf f (k / 10) (strOfNums [((48 + k % 10 : Nat) : Int)] ++ o)
theorem dgf_zero (f : Nat) (o : ByteArray) : dgf f 0 o = o := by cases f <;> rfl
theorem dgf_step {f k : Nat} (o : ByteArray) (h : 0 < k) (hf : k ≤ f) : ∃ f', k / 10 ≤ f' ∧ dgf f k o = dgf f' (k / 10) (strOfNums [((48 + k % 10 : Nat) : Int)] ++ o) := by
  cases f with
  | zero => omega
  | succ f => exact ⟨f, by omega, by simp only [dgf]; rw [if_neg (by omega)]⟩
/-- A mark's text. -/
def mtx (k : Nat) : ByteArray := ⟨#[109]⟩ ++ dgf k k ⟨#[]⟩
end Go.Proofs.Ytfkeokfmancgiaa
