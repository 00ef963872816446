/- LwEq -/
import Derived.Test.YtahpjlbaagkdoaaGreatDoorS40
import Derived.Test.YtahpjlbaagkdoaaGreatDoorS16
namespace Go.Proofs.YtahpjlbaagkdoaaGreatDoor
open Go.RowKit Go.Proofs.Tryz
theorem eqC:EqC:=by
 refine ⟨fun m a g p c d W=>?_,fun x y xs ys W=>run_eqGuard_agg W .eql 24 x y xs ys (by kernel_rfl)⟩;rw [run_eql_struct,run_equalIn_agg W 9999 24 _ _ (by kernel_rfl) (by kernel_rfl)];go_simp;try rfl
theorem lwEn (e:En) (v1 v2 u1 u2:Value) (F1 F2:List Op.Opt) (w:World) (l1:F1.length≤2000) (l2:F2.length≤2000) (h1:HoldsO w v1 F1) (h2:HoldsO w v2 F2) (h3:HoldsO w u1 F1) (h4:HoldsO w u2 F2) :
  Calls prog 33 #[.agg (enC e v1 v2),.agg (enC e u1 u2)] w fun r w'=>r=.returned (.bool true)∧Below w.heap.size w w' :=
 lwEn_of e v1 v2 u1 u2 F1 F2 w l1 l2 h1 h2 h3 h4 eqL eqC
end Go.Proofs.YtahpjlbaagkdoaaGreatDoor
