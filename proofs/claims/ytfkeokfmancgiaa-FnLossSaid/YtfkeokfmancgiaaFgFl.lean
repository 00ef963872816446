/- The first byte of a part: the program's flagsOf; memory that was there stands. -/
import Derived.Test.YtfkeokfmancgiaaFgA
namespace Go.Proofs.Ytfkeokfmancgiaa
open Go.RowKit
/-- The first byte. -/
def fgByte (f : Fg) : UInt8 := UInt8.ofNat ((if f.beg then 128 else 0) + (if f.fin then 64 else 0))
theorem fgByte_nat (f : Fg) : (fgByte f).toNat = (if f.beg then 128 else 0) + (if f.fin then 64 else 0) := by
  obtain ⟨sq, bg, fn, t⟩ := f
  cases bg <;> cases fn <;> rfl
set_option maxHeartbeats 1000000 in
theorem iFlags (f : Fg) (w : World) : Calls Try.prog 40 #[fgV f] w fun e w' => e = .returned (.int .u8 (fgByte f).toNat) ∧ Below w.heap.size w w' := by
  obtain ⟨sq, bg, fn, t⟩ := f
  have o1 : bits .or .u8 0 128 = 128 := by decide
  have o2 : bits .or .u8 0 64 = 64 := by decide
  have o3 : bits .or .u8 128 64 = 192 := by decide
  cases bg <;> cases fn
  all_goals
    rw [fgByte_nat]
    go_enter Try.func40, Try.ntmps40
    go_wp2
    go_ret
    exact ⟨rfl, (Below.refl _ _).alloc (Nat.le_refl _) _⟩
end Go.Proofs.Ytfkeokfmancgiaa
