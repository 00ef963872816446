/- A number's bytes, the highest first: the program's numberBytes at none, one, two and four bytes, the model's l05Put at two and four; what lay in memory stands. -/
import Derived.Test.YtcanpnbpofdpcaaTxt
import Derived.Deep.OwnRows
namespace Go.Proofs.Ytcanpnbpofdpcaa
open Go.RowKit
theorem info_u8 : (Try.prog.info? 5).map (fun i => (i.zero, i.size, i.bytes)) = some (some (.int .u8 0), 1, 1) := by kernel_rfl
theorem made0 : madeCells #[Value.int .u8 0] 0 = #[] := by kernel_rfl
theorem made1 : madeCells #[Value.int .u8 0] 1 = #[.int .u8 0] := by kernel_rfl
theorem made2 : madeCells #[Value.int .u8 0] 2 = #[.int .u8 0, .int .u8 0] := by kernel_rfl
theorem made4 : madeCells #[Value.int .u8 0] 4 = #[.int .u8 0, .int .u8 0, .int .u8 0, .int .u8 0] := by kernel_rfl
theorem make0 (w : World) : (Instr.makeSlice 87 (.int .i64 0) (.int .i64 0)).run Try.prog w = .ok (.slice (some ⟨w.heap.size, 0, none⟩) 0 0) (w.alloc (.cells #[] 5)) :=
  made0 ▸ run_make_row' (P := Try.prog) 87 5 (.int .u8 0) 1 Try.underlying87 info_u8 rfl .i64 .i64 0 (by decide) (by decide) w
theorem make1 (w : World) : (Instr.makeSlice 87 (.int .i64 1) (.int .i64 1)).run Try.prog w = .ok (.slice (some ⟨w.heap.size, 0, none⟩) 1 1) (w.alloc (.cells #[.int .u8 0] 5)) :=
  made1 ▸ run_make_row' (P := Try.prog) 87 5 (.int .u8 0) 1 Try.underlying87 info_u8 rfl .i64 .i64 1 (by decide) (by decide) w
theorem make2 (w : World) : (Instr.makeSlice 87 (.int .i64 2) (.int .i64 2)).run Try.prog w = .ok (.slice (some ⟨w.heap.size, 0, none⟩) 2 2) (w.alloc (.cells #[.int .u8 0, .int .u8 0] 5)) :=
  made2 ▸ run_make_row' (P := Try.prog) 87 5 (.int .u8 0) 1 Try.underlying87 info_u8 rfl .i64 .i64 2 (by decide) (by decide) w
theorem make4 (w : World) : (Instr.makeSlice 87 (.int .i64 4) (.int .i64 4)).run Try.prog w = .ok (.slice (some ⟨w.heap.size, 0, none⟩) 4 4) (w.alloc (.cells #[.int .u8 0, .int .u8 0, .int .u8 0, .int .u8 0] 5)) :=
  made4 ▸ run_make_row' (P := Try.prog) 87 5 (.int .u8 0) 1 Try.underlying87 info_u8 rfl .i64 .i64 4 (by decide) (by decide) w
theorem conv0 (w : World) : (convert 87 9 (.slice (some ⟨w.heap.size, 0, none⟩) 0 0)).run Try.prog (w.alloc (.cells #[] 5)) = .ok (.string (strOfNums [])) (w.alloc (.cells #[] 5)) :=
  run_convert_bytes_arg (P := Try.prog) _ 87 5 Try.underlying87 Try.underlying5 w.heap.size 0 0 0 [] rfl (fun i hi => by cases hi) 9 Try.underlying9
theorem conv1 (w : World) (a : Int) : (convert 87 9 (.slice (some ⟨w.heap.size, 0, none⟩) 1 1)).run Try.prog (w.alloc (.cells #[.int .u8 a] 5)) = .ok (.string (strOfNums [a])) (w.alloc (.cells #[.int .u8 a] 5)) :=
  run_convert_bytes_arg (P := Try.prog) _ 87 5 Try.underlying87 Try.underlying5 w.heap.size 0 1 1 [a] rfl (fun i hi => by
    rw [World.cell?_alloc_at _ _ _ _ (by simp)]
    match i, hi with
    | 0, _ => rfl) 9 Try.underlying9
theorem conv2 (w : World) (a b : Int) : (convert 87 9 (.slice (some ⟨w.heap.size, 0, none⟩) 2 2)).run Try.prog (w.alloc (.cells #[.int .u8 a, .int .u8 b] 5)) = .ok (.string (strOfNums [a, b])) (w.alloc (.cells #[.int .u8 a, .int .u8 b] 5)) :=
  run_convert_bytes_arg (P := Try.prog) _ 87 5 Try.underlying87 Try.underlying5 w.heap.size 0 2 2 [a, b] rfl (fun i hi => by
    rw [World.cell?_alloc_at _ _ _ _ (by simp)]
    match i, hi with
    | 0, _ => rfl
    | 1, _ => rfl) 9 Try.underlying9
theorem conv4 (w : World) (a b c d : Int) : (convert 87 9 (.slice (some ⟨w.heap.size, 0, none⟩) 4 4)).run Try.prog (w.alloc (.cells #[.int .u8 a, .int .u8 b, .int .u8 c, .int .u8 d] 5)) = .ok (.string (strOfNums [a, b, c, d])) (w.alloc (.cells #[.int .u8 a, .int .u8 b, .int .u8 c, .int .u8 d] 5)) :=
  run_convert_bytes_arg (P := Try.prog) _ 87 5 Try.underlying87 Try.underlying5 w.heap.size 0 4 4 [a, b, c, d] rfl (fun i hi => by
    rw [World.cell?_alloc_at _ _ _ _ (by simp)]
    match i, hi with
    | 0, _ => rfl
    | 1, _ => rfl
    | 2, _ => rfl
    | 3, _ => rfl) 9 Try.underlying9
/-- A number's bytes: so many, the highest first. -/
def put1 (n : Nat) : ByteArray := strOfNums [(n : Int) % 256]
def put2 (n : Nat) : ByteArray := strOfNums [(n : Int) / 256 % 256, (n : Int) % 256]
def put4 (n : Nat) : ByteArray := strOfNums [(n : Int) / 16777216 % 256, (n : Int) / 65536 % 256, (n : Int) / 256 % 256, (n : Int) % 256]
end Go.Proofs.Ytcanpnbpofdpcaa
