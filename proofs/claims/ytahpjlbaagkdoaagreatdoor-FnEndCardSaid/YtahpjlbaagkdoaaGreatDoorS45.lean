/- LwDq -/
import Derived.Test.YtahpjlbaagkdoaaGreatDoorS44
namespace Go.Proofs.YtahpjlbaagkdoaaGreatDoor
open Go.RowKit Go.Proofs.Tryz
theorem eqP:EqP:=by
 refine ⟨fun x y t W=>?_,fun x y xs ys W=>run_eqGuard_agg W .neq 35 x y xs ys (by kernel_rfl)⟩;rw [run_neq_struct,run_equalIn_agg W 9999 35 _ _ (by kernel_rfl) (by kernel_rfl)];go_simp;try rfl
theorem lwDn {e0:En} {o:EO} (hr:Ok9 e0 o) (l1:o.F1.length≤2000) (l2:o.F2.length≤2000) (hB:EoB o) (z1 z2:Option Addr) (k1 k2 u1 u2:Nat) {a b c d:Nat} {cs ds:Array Value} {W:World} (h:AnD o a b cs W) (k:AnD o c d ds W) :
  Calls prog 8 #[.agg (enC e0 (.slice z1 k1 u1) (.slice z2 k2 u2)),.agg cs,.agg ds] W fun r w'=>r=.returned (.bool true)∧Below W.heap.size W w':=by
 obtain ⟨x1,x2,x5,x7,y1,y2,y5,y7,rfl,h1,h2,h3,h4,_⟩:=h;obtain ⟨x3,x4,x6,x8,y3,y4,y6,y8,rfl,k3,k4,k5,k6,_⟩:=k;exact lwDn_of e0 o.e o.cd z1 z2 x1 x2 x3 x4 x5 x6 x7 x8 k1 k2 u1 u2 y1 y2 y3 y4 y5 y6 y7 y8 o.F1 o.F2 o.sn o.tl W l1 l2 (Nat.le_trans hB.l3 (by decide)) hB.l4 h1 h2 k3 k4 h3 k5 h4 k6 eqP hr
end Go.Proofs.YtahpjlbaagkdoaaGreatDoor
