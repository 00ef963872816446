/- The first byte of a part: the program's flagsOf; memory that was there stands. -/
import Derived.Test.YtcanpnbpofdpcaaFgA
namespace Go.Proofs.Ytcanpnbpofdpcaa
open Go.RowKit
/-- The first byte. -/
def fgByte (f : Fg) : UInt8 := UInt8.ofNat ((if f.beg then 128 else 0) + (if f.fin then 64 else 0))
theorem fgByte_nat (f : Fg) : (fgByte f).toNat = (if f.beg then 128 else 0) + (if f.fin then 64 else 0) := by
  obtain ⟨sq, bg, fn, t⟩ := f
  cases bg <;> cases fn <;> rfl
end Go.Proofs.Ytcanpnbpofdpcaa
