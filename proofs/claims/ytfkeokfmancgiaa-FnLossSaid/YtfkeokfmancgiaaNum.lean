/- A number's bytes, the highest first: the program's numberBytes at none, one, two and four bytes, the model's l05Put at two and four; what lay in memory stands. -/
import Derived.Test.YtfkeokfmancgiaaTxt
import Derived.Deep.OwnRows
namespace Go.Proofs.Ytfkeokfmancgiaa
open Go.RowKit
theorem info_u8 : (Try.prog.info? 5).map (fun i => (i.zero, i.size, i.bytes)) = some (some (.int .u8 0), 1, 1) := by kernel_rfl
theorem made0 : madeCells #[Value.int .u8 0] 0 = #[] := by kernel_rfl
theorem made1 : madeCells #[Value.int .u8 0] 1 = #[.int .u8 0] := by kernel_rfl
theorem made2 : madeCells #[Value.int .u8 0] 2 = #[.int .u8 0, .int .u8 0] := by kernel_rfl
theorem made4 : madeCells #[Value.int .u8 0] 4 = #[.int .u8 0, .int .u8 0, .int .u8 0, .int .u8 0] := by kernel_rfl
theorem make0 (w : World) : (Instr.makeSlice 22 (.int .i64 0) (.int .i64 0)).run Try.prog w = .ok (.slice (some ⟨w.heap.size, 0, none⟩) 0 0) (w.alloc (.cells #[] 5)) :=
  made0 ▸ run_make_row' (P := Try.prog) 22 5 (.int .u8 0) 1 Try.underlying22 info_u8 rfl .i64 .i64 0 (by decide) (by decide) w
theorem make1 (w : World) : (Instr.makeSlice 22 (.int .i64 1) (.int .i64 1)).run Try.prog w = .ok (.slice (some ⟨w.heap.size, 0, none⟩) 1 1) (w.alloc (.cells #[.int .u8 0] 5)) :=
  made1 ▸ run_make_row' (P := Try.prog) 22 5 (.int .u8 0) 1 Try.underlying22 info_u8 rfl .i64 .i64 1 (by decide) (by decide) w
theorem make2 (w : World) : (Instr.makeSlice 22 (.int .i64 2) (.int .i64 2)).run Try.prog w = .ok (.slice (some ⟨w.heap.size, 0, none⟩) 2 2) (w.alloc (.cells #[.int .u8 0, .int .u8 0] 5)) :=
  made2 ▸ run_make_row' (P := Try.prog) 22 5 (.int .u8 0) 1 Try.underlying22 info_u8 rfl .i64 .i64 2 (by decide) (by decide) w
theorem make4 (w : World) : (Instr.makeSlice 22 (.int .i64 4) (.int .i64 4)).run Try.prog w = .ok (.slice (some ⟨w.heap.size, 0, none⟩) 4 4) (w.alloc (.cells #[.int .u8 0, .int .u8 0, .int .u8 0, .int .u8 0] 5)) :=
  made4 ▸ run_make_row' (P := Try.prog) 22 5 (.int .u8 0) 1 Try.underlying22 info_u8 rfl .i64 .i64 4 (by decide) (by decide) w
theorem conv0 (w : World) : (convert 22 9 (.slice (some ⟨w.heap.size, 0, none⟩) 0 0)).run Try.prog (w.alloc (.cells #[] 5)) = .ok (.string (strOfNums [])) (w.alloc (.cells #[] 5)) :=
  run_convert_bytes_arg (P := Try.prog) _ 22 5 Try.underlying22 Try.underlying5 w.heap.size 0 0 0 [] rfl (fun i hi => by cases hi) 9 Try.underlying9
theorem conv1 (w : World) (a : Int) : (convert 22 9 (.slice (some ⟨w.heap.size, 0, none⟩) 1 1)).run Try.prog (w.alloc (.cells #[.int .u8 a] 5)) = .ok (.string (strOfNums [a])) (w.alloc (.cells #[.int .u8 a] 5)) :=
  run_convert_bytes_arg (P := Try.prog) _ 22 5 Try.underlying22 Try.underlying5 w.heap.size 0 1 1 [a] rfl (fun i hi => by
    rw [World.cell?_alloc_at _ _ _ _ (by simp)]
    match i, hi with
    | 0, _ => rfl) 9 Try.underlying9
theorem conv2 (w : World) (a b : Int) : (convert 22 9 (.slice (some ⟨w.heap.size, 0, none⟩) 2 2)).run Try.prog (w.alloc (.cells #[.int .u8 a, .int .u8 b] 5)) = .ok (.string (strOfNums [a, b])) (w.alloc (.cells #[.int .u8 a, .int .u8 b] 5)) :=
  run_convert_bytes_arg (P := Try.prog) _ 22 5 Try.underlying22 Try.underlying5 w.heap.size 0 2 2 [a, b] rfl (fun i hi => by
    rw [World.cell?_alloc_at _ _ _ _ (by simp)]
    match i, hi with
    | 0, _ => rfl
    | 1, _ => rfl) 9 Try.underlying9
theorem conv4 (w : World) (a b c d : Int) : (convert 22 9 (.slice (some ⟨w.heap.size, 0, none⟩) 4 4)).run Try.prog (w.alloc (.cells #[.int .u8 a, .int .u8 b, .int .u8 c, .int .u8 d] 5)) = .ok (.string (strOfNums [a, b, c, d])) (w.alloc (.cells #[.int .u8 a, .int .u8 b, .int .u8 c, .int .u8 d] 5)) :=
  run_convert_bytes_arg (P := Try.prog) _ 22 5 Try.underlying22 Try.underlying5 w.heap.size 0 4 4 [a, b, c, d] rfl (fun i hi => by
    rw [World.cell?_alloc_at _ _ _ _ (by simp)]
    match i, hi with
    | 0, _ => rfl
    | 1, _ => rfl
    | 2, _ => rfl
    | 3, _ => rfl) 9 Try.underlying9
/-- A number's bytes: so many, the highest first. -/
def put1 (n : Nat) : ByteArray := strOfNums [(n : Int) % 256]
def put2 (n : Nat) : ByteArray := strOfNums [(n : Int) / 256 % 256, (n : Int) % 256]
def put4 (n : Nat) : ByteArray := strOfNums [(n : Int) / 16777216 % 256, (n : Int) / 65536 % 256, (n : Int) / 256 % 256, (n : Int) % 256]
set_option maxHeartbeats 400000 in
theorem num0 (n : Nat) (w : World) : Calls Try.prog 42 #[.int .i64 n, .int .i64 0] w fun e w' => e = .returned (.string ⟨#[]⟩) ∧ Below w.heap.size w w' := by
  have hm := make0
  have hc := conv0 w
  go_enter Try.func42, Try.ntmps42
  go_wp2_with fail
  go_rounds 1
  go_ret
  exact ⟨rfl, (Below.refl _ _).alloc (Nat.le_refl _) _⟩
set_option maxHeartbeats 400000 in
theorem num1 (n : Nat) (w : World) : Calls Try.prog 42 #[.int .i64 n, .int .i64 1] w fun e w' => e = .returned (.string (put1 n)) ∧ Below w.heap.size w w' := by
  have hm := make1
  have hc := conv1 w
  unfold put1
  go_enter Try.func42, Try.ntmps42
  go_wp2_with fail
  go_rounds 2
  go_ret
  exact ⟨rfl, (Below.refl _ _).alloc (Nat.le_refl _) _⟩
set_option maxHeartbeats 400000 in
theorem num2 (n : Nat) (w : World) : Calls Try.prog 42 #[.int .i64 n, .int .i64 2] w fun e w' => e = .returned (.string (put2 n)) ∧ Below w.heap.size w w' := by
  have hm := make2
  have hc := conv2 w
  unfold put2
  go_enter Try.func42, Try.ntmps42
  go_wp2_with fail
  go_rounds 3
  go_ret
  exact ⟨rfl, (Below.refl _ _).alloc (Nat.le_refl _) _⟩
set_option maxHeartbeats 400000 in
theorem num4 (n : Nat) (w : World) : Calls Try.prog 42 #[.int .i64 n, .int .i64 4] w fun e w' => e = .returned (.string (put4 n)) ∧ Below w.heap.size w w' := by
  have hm := make4
  have hc := conv4 w
  unfold put4
  go_enter Try.func42, Try.ntmps42
  go_wp2_with fail
  go_rounds 5
  go_ret
  exact ⟨rfl, (Below.refl _ _).alloc (Nat.le_refl _) _⟩
set_option maxHeartbeats 400000 in
theorem sput2 (n : Nat) (w : World) : Calls Try.prog 50 #[.int .i64 n, .int .i64 2] w fun e w' => e = .returned (.string (put2 n)) ∧ Below w.heap.size w w' := by
  have hm := make2
  have hc := conv2 w
  unfold put2
  go_enter Try.func50, Try.ntmps50
  go_wp2_with fail
  go_rounds 3
  go_ret
  exact ⟨rfl, (Below.refl _ _).alloc (Nat.le_refl _) _⟩
set_option maxHeartbeats 400000 in
theorem sput4 (n : Nat) (w : World) : Calls Try.prog 50 #[.int .i64 n, .int .i64 4] w fun e w' => e = .returned (.string (put4 n)) ∧ Below w.heap.size w w' := by
  have hm := make4
  have hc := conv4 w
  rw [show put4 n = strOfNums [(n : Int) / 256 / 256 / 256 % 256, (n : Int) / 256 / 256 % 256, (n : Int) / 256 % 256, (n : Int) % 256] by
    unfold put4
    rw [show (n : Int) / 16777216 = (n : Int) / 256 / 256 / 256 by omega, show (n : Int) / 65536 = (n : Int) / 256 / 256 by omega]]
  go_enter Try.func50, Try.ntmps50
  go_wp2_with fail
  go_rounds 5
  go_ret
  exact ⟨rfl, (Below.refl _ _).alloc (Nat.le_refl _) _⟩
end Go.Proofs.Ytfkeokfmancgiaa
