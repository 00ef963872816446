/- Two frames that are the same, compared. -/
import Derived.Test.YtjgnldkncoighaaNbC
import Derived.Laws.StructEq
namespace Go.Proofs.Ytjgnldkncoighaa
open Go.RowKit
theorem eqlNb (k x y : Int) (t : ByteArray) (W : World) : (binOp .eql 30 (.agg #[.int .i64 k, .int .i64 x, .int .i64 y, .string t]) (.agg #[.int .i64 k, .int .i64 x, .int .i64 y, .string t])).run Try.prog W = .ok (.bool true) W := by
  rw [run_eql_struct, run_equalIn_agg W 9999 30 _ _ (by kernel_rfl) (by kernel_rfl)]
  go_simp
  try rfl
theorem neqNb (k x y : Int) (t : ByteArray) (W : World) : (binOp .neq 30 (.agg #[.int .i64 k, .int .i64 x, .int .i64 y, .string t]) (.agg #[.int .i64 k, .int .i64 x, .int .i64 y, .string t])).run Try.prog W = .ok (.bool false) W := by
  rw [run_neq_struct, run_equalIn_agg W 9999 30 _ _ (by kernel_rfl) (by kernel_rfl)]
  go_simp
  try rfl
theorem grdNb (op : BinOp) (a b : Operand) (xs ys : Array Value) (W : World) : (eqGuard op 30 a b (.agg xs) (.agg ys)).run Try.prog W = .ok () W := run_eqGuard_agg W op 30 a b xs ys (by kernel_rfl)
end Go.Proofs.Ytjgnldkncoighaa
