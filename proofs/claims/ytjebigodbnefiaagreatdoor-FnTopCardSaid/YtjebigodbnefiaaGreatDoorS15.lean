/- EndEq -/
import Derived.Test.YtjebigodbnefiaaGreatDoorS08
namespace Go.Proofs.YtjebigodbnefiaaGreatDoor
open Go.RowKit Go.Proofs.Tryz
theorem eqL:yd:=by
 refine ⟨fun m a m' a' p c d p' c' d' W=>?_,fun x y xs ys W=>run_eqGuard_agg W .eql 70 x y xs ys (by kernel_rfl)⟩;rw [run_eql_struct,run_equalIn_agg W 9999 70 _ _ (by kernel_rfl) (by kernel_rfl)];cases h1:(m == m')<;>cases h2:(a == a')<;>cases h3:(p == p')<;>cases h4:(c == c')<;>cases h5:(d == d')<;>(go_simp;try rfl)
end Go.Proofs.YtjebigodbnefiaaGreatDoor
