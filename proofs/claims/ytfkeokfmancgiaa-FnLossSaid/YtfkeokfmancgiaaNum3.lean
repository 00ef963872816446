/- A number's three bytes, the highest first: the program's numberBytes, the model's l05Put; what lay in memory stands. -/
import Derived.Test.YtfkeokfmancgiaaNum
namespace Go.Proofs.Ytfkeokfmancgiaa
open Go.RowKit
theorem made3 : madeCells #[Value.int .u8 0] 3 = #[.int .u8 0, .int .u8 0, .int .u8 0] := by kernel_rfl
theorem make3 (w : World) : (Instr.makeSlice 22 (.int .i64 3) (.int .i64 3)).run Try.prog w = .ok (.slice (some ⟨w.heap.size, 0, none⟩) 3 3) (w.alloc (.cells #[.int .u8 0, .int .u8 0, .int .u8 0] 5)) :=
  made3 ▸ run_make_row' (P := Try.prog) 22 5 (.int .u8 0) 1 Try.underlying22 info_u8 rfl .i64 .i64 3 (by decide) (by decide) w
theorem conv3 (w : World) (a b c : Int) : (convert 22 9 (.slice (some ⟨w.heap.size, 0, none⟩) 3 3)).run Try.prog (w.alloc (.cells #[.int .u8 a, .int .u8 b, .int .u8 c] 5)) = .ok (.string (strOfNums [a, b, c])) (w.alloc (.cells #[.int .u8 a, .int .u8 b, .int .u8 c] 5)) :=
  run_convert_bytes_arg (P := Try.prog) _ 22 5 Try.underlying22 Try.underlying5 w.heap.size 0 3 3 [a, b, c] rfl (fun i hi => by
    rw [World.cell?_alloc_at _ _ _ _ (by simp)]
    match i, hi with
    | 0, _ => rfl
    | 1, _ => rfl
    | 2, _ => rfl) 9 Try.underlying9
def put3 (n : Nat) : ByteArray := strOfNums [(n : Int) / 65536 % 256, (n : Int) / 256 % 256, (n : Int) % 256]
set_option maxHeartbeats 400000 in
theorem num3 (n : Nat) (w : World) : Calls Try.prog 42 #[.int .i64 n, .int .i64 3] w fun e w' => e = .returned (.string (put3 n)) ∧ Below w.heap.size w w' := by
  have hm := make3
  have hc := conv3 w
  unfold put3
  go_enter Try.func42, Try.ntmps42
  go_wp2_with fail
  go_rounds 4
  go_ret
  exact ⟨rfl, (Below.refl _ _).alloc (Nat.le_refl _) _⟩
set_option maxHeartbeats 400000 in
theorem sput3 (n : Nat) (w : World) : Calls Try.prog 50 #[.int .i64 n, .int .i64 3] w fun e w' => e = .returned (.string (put3 n)) ∧ Below w.heap.size w w' := by
  have hm := make3
  have hc := conv3 w
  rw [show put3 n = strOfNums [(n : Int) / 256 / 256 % 256, (n : Int) / 256 % 256, (n : Int) % 256] by
    unfold put3
    rw [show (n : Int) / 65536 = (n : Int) / 256 / 256 by omega]]
  go_enter Try.func50, Try.ntmps50
  go_wp2_with fail
  go_rounds 4
  go_ret
  exact ⟨rfl, (Below.refl _ _).alloc (Nat.le_refl _) _⟩
theorem put3_size (n : Nat) : (put3 n).size = 3 := by unfold put3; rw [strOfNums_size]; rfl
end Go.Proofs.Ytfkeokfmancgiaa
