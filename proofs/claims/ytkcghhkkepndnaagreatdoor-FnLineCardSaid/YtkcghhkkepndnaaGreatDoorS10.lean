/- Two frames that are the same, compared. -/
import Derived.Test.YtkcghhkkepndnaaGreatDoorS06
import Derived.Laws.StructEq
import Derived.Test.YtkcghhkkepndnaaGreatDoorShW
namespace Go.Proofs.YtkcghhkkepndnaaGreatDoor
open Go.RowKit
theorem eqlNb (k x y:Int) (t:ByteArray) (W:World):(binOp .eql 96 (.agg #[.int .i64 k,.int .i64 x,.int .i64 y,.string t]) (.agg #[.int .i64 k,.int .i64 x,.int .i64 y,.string t])).run Tryz.prog W=.ok (.bool true) W:=by
 rw [run_eql_struct,run_equalIn_agg W 9999 96 _ _ (by kernel_rfl) (by kernel_rfl)]
 go_simp
 try rfl
theorem grdNb (op:BinOp) (a b:Operand) (xs ys:Array Value) (W:World):(eqGuard op 96 a b (.agg xs) (.agg ys)).run Tryz.prog W=.ok () W:=run_eqGuard_agg W op 96 a b xs ys (by kernel_rfl)
end Go.Proofs.YtkcghhkkepndnaaGreatDoor
