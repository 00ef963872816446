/- LnSp -/
import Derived.Test.YtjebigodbnefiaaGreatDoorS02
import Derived.Test.YtjebigodbnefiaaGreatDoorS01
namespace Go.Proofs.YtjebigodbnefiaaGreatDoor
open Go.RowKit Go.Proofs.Tryz
structure LnQ (w:World) (X:Nat) (x:Ln) (q:World):Prop where
 r:q.heap[w.heap.size]?=some (.cells #[.int .i64 0,.int .i64 0,.bool false,.bool false,.bool false] 70)
 x:q.heap[X]?=some (.cells (gR x) 70)
 b:Below w.heap.size w q
theorem LnQ.step {w:World} {X:Nat} {x:Ln} {q q':World} (h:LnQ w X x q) (hb:Below q.heap.size q q'):LnQ w X x q' :=
 ⟨(hb.block _ (ge.1 h.r).1).trans h.r,(hb.block _ (ge.1 h.x).1).trans h.x,h.b.trans (hb.mono h.b.size)⟩
theorem LnQ.put {w:World} {X:Nat} {x y:Ln} {q:World} (h:LnQ w X x q) (h1:w.heap.size<X) (i:Nat) (v:Value) (hy:(gR x).setIfInBounds i v=gR y):LnQ w X y (q.setCell ⟨X,i,none⟩ v) :=
 ⟨(Below.heap_setCell _ _ _ _ (by simp;omega)).trans h.r,by rw [← hy];exact zH _ _ i _ _ v h.x,h.b.setCell (p:=⟨X,i,none⟩) (by simp;omega) _⟩
end Go.Proofs.YtjebigodbnefiaaGreatDoor
