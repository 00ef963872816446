/- Two parts that are the same, compared. -/
import Derived.Test.YtfkeokfmancgiaaFgA
import Derived.Laws.StructEq
namespace Go.Proofs.Ytfkeokfmancgiaa
open Go.RowKit
theorem eqlFg (k : Int) (x y : Bool) (t : ByteArray) (W : World) : (binOp .eql 33 (.agg #[.int .i64 k, .bool x, .bool y, .string t]) (.agg #[.int .i64 k, .bool x, .bool y, .string t])).run Try.prog W = .ok (.bool true) W := by
  rw [run_eql_struct, run_equalIn_agg W 9999 33 _ _ (by kernel_rfl) (by kernel_rfl)]
  go_simp
  try rfl
theorem neqFg (k : Int) (x y : Bool) (t : ByteArray) (W : World) : (binOp .neq 33 (.agg #[.int .i64 k, .bool x, .bool y, .string t]) (.agg #[.int .i64 k, .bool x, .bool y, .string t])).run Try.prog W = .ok (.bool false) W := by
  rw [run_neq_struct, run_equalIn_agg W 9999 33 _ _ (by kernel_rfl) (by kernel_rfl)]
  go_simp
  try rfl
theorem grdFg (op : BinOp) (a b : Operand) (xs ys : Array Value) (W : World) : (eqGuard op 33 a b (.agg xs) (.agg ys)).run Try.prog W = .ok () W := run_eqGuard_agg W op 33 a b xs ys (by kernel_rfl)
end Go.Proofs.Ytfkeokfmancgiaa
