/- A number's three bytes, the highest first: the program's numberBytes, the model's l05Put; what lay in memory stands. -/
import Derived.Test.YtcanpnbpofdpcaaNum
namespace Go.Proofs.Ytcanpnbpofdpcaa
open Go.RowKit
theorem made3 : madeCells #[Value.int .u8 0] 3 = #[.int .u8 0, .int .u8 0, .int .u8 0] := by kernel_rfl
theorem make3 (w : World) : (Instr.makeSlice 87 (.int .i64 3) (.int .i64 3)).run Try.prog w = .ok (.slice (some ⟨w.heap.size, 0, none⟩) 3 3) (w.alloc (.cells #[.int .u8 0, .int .u8 0, .int .u8 0] 5)) :=
  made3 ▸ run_make_row' (P := Try.prog) 87 5 (.int .u8 0) 1 Try.underlying87 info_u8 rfl .i64 .i64 3 (by decide) (by decide) w
theorem conv3 (w : World) (a b c : Int) : (convert 87 9 (.slice (some ⟨w.heap.size, 0, none⟩) 3 3)).run Try.prog (w.alloc (.cells #[.int .u8 a, .int .u8 b, .int .u8 c] 5)) = .ok (.string (strOfNums [a, b, c])) (w.alloc (.cells #[.int .u8 a, .int .u8 b, .int .u8 c] 5)) :=
  run_convert_bytes_arg (P := Try.prog) _ 87 5 Try.underlying87 Try.underlying5 w.heap.size 0 3 3 [a, b, c] rfl (fun i hi => by
    rw [World.cell?_alloc_at _ _ _ _ (by simp)]
    match i, hi with
    | 0, _ => rfl
    | 1, _ => rfl
    | 2, _ => rfl) 9 Try.underlying9
def put3 (n : Nat) : ByteArray := strOfNums [(n : Int) / 65536 % 256, (n : Int) / 256 % 256, (n : Int) % 256]
theorem put3_size (n : Nat) : (put3 n).size = 3 := by unfold put3; rw [strOfNums_size]; rfl
end Go.Proofs.Ytcanpnbpofdpcaa
