/- A number as a pair of bytes, the program's; a block of its own is made. -/
import Derived.Test.YtakbldleomhggaaLies
namespace Go.Proofs.Ytakbldleomhggaa
open Go.RowKit
theorem hi_byte {k : Nat} (hk : k < 65536) : (k : Int) / 256 = ((UInt8.ofNat (k / 256)).toNat : Int) := by
  have : (UInt8.ofNat (k / 256)).toNat = k / 256 := by simp; omega
  omega
theorem lo_byte (k : Nat) : (k : Int) % 256 = ((UInt8.ofNat k).toNat : Int) := by
  have : (UInt8.ofNat k).toNat = k % 256 := by simp
  omega
set_option maxHeartbeats 400000 in
theorem pairOf (k : Nat) (hk : k < 65536) (w : World) :
    Calls Try.prog 41 #[.int .i64 k] w fun e w' => e = .returned (.agg #[.int .u8 (UInt8.ofNat (k / 256)).toNat,   .int .u8 (UInt8.ofNat k).toNat]) ∧ w' = w.alloc (.cells #[.int .u8 (UInt8.ofNat (k / 256)).toNat, .int .u8 (UInt8.ofNat k).toNat] 73) := by
  rw [← hi_byte hk, ← lo_byte k]
  go_enter Try.func41, Try.ntmps41
  go_wp2
  refine bodyPost_ret (v := .agg #[.int .u8 ((k : Int) / 256), .int .u8 ((k : Int) % 256)]) (by simp [results, Try.results41, go_sem]) rfl ⟨rfl, rfl⟩
end Go.Proofs.Ytakbldleomhggaa
