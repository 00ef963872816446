/- HrV -/
import Derived.Test.YtjebigodbnefiaaGreatDoorS27
namespace Go.Proofs.YtjebigodbnefiaaGreatDoor
open Go.RowKit Go.Proofs.Tryz
structure Nk (z0:World) (N:Nat) (nv:Value) (K:List Op.Opt) (z:World):Prop where
 b:Below z0.heap.size z0 z
 n:z.heap[N]?=some (.cells #[.int .i64 4,nv] 180)
 o:z.ownsRow z0.heap.size 27 2 nv K.length (aj K)
 m:z0.heap.size≤N
theorem Nk.step {z0 z z':World} {N:Nat} {nv:Value} {K:List Op.Opt} (h:Nk z0 N nv K z) (hb:Below z.heap.size z z'):Nk z0 N nv K z' :=
 ⟨h.b.trans (hb.mono h.b.size),(hb.block _ (ge.1 h.n).1).trans h.n,aP h.o hb,h.m⟩
end Go.Proofs.YtjebigodbnefiaaGreatDoor
