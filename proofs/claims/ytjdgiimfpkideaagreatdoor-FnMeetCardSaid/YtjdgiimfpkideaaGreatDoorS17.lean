/- LwEq -/
import Derived.Test.YtjdgiimfpkideaaGreatDoorS16
import Derived.Test.YtjdgiimfpkideaaGreatDoorS14
namespace Go.Proofs.YtjdgiimfpkideaaGreatDoor
open Go.RowKit Go.Proofs.Tryz
theorem eqC:G7:=by
 refine⟨fun m a g p c d W=>?_,fun x y xs ys W=>run_eqGuard_agg W .eql 24 x y xs ys (by kernel_rfl)⟩;rw[run_eql_struct,run_equalIn_agg W 9999 24 _ _ (by kernel_rfl) (by kernel_rfl)];go_simp;try rfl
end Go.Proofs.YtjdgiimfpkideaaGreatDoor
