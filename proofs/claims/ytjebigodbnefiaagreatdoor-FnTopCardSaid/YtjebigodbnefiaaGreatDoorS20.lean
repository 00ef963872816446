/- CfSp -/
import Derived.Test.YtjebigodbnefiaaGreatDoorS14
namespace Go.Proofs.YtjebigodbnefiaaGreatDoor
open Go.RowKit Go.Proofs.Tryz
structure CfQ (w:World) (x:Cf) (q:World):Prop where
 x:q.heap[w.heap.size]?=some (.cells (dr x) 35)
 r:q.heap[w.heap.size+1]?=some (.cells #[.int .i64 0,.int .i64 0,.int .i64 0,.bool false,.bool false,.bool false] 35)
 b:Below w.heap.size w q
theorem CfQ.step {w:World} {x:Cf} {q q':World} (h:CfQ w x q) (hb:Below q.heap.size q q'):CfQ w x q' :=
 ⟨(hb.block _ (ge.1 h.x).1).trans h.x,(hb.block _ (ge.1 h.r).1).trans h.r,h.b.trans (hb.mono h.b.size)⟩
theorem CfQ.put {w:World} {x y:Cf} {q:World} (h:CfQ w x q) (i:Nat) (v:Value) (hy:(dr x).setIfInBounds i v=dr y):CfQ w y (q.setCell ⟨w.heap.size,i,none⟩ v) :=
 ⟨by rw [← hy];exact zH _ _ i _ _ v h.x,(Below.heap_setCell _ _ _ _ (by simp)).trans h.r,h.b.setCell (p:=⟨w.heap.size,i,none⟩) (zD _) _⟩
theorem nd {x:Cf} {o:Op.Opt} (h:iv x=true):iv (fN x o)=true:=by
 unfold fN an;split
 ·split
  ·next h2=>exact h2
  ·exact h
 ·exact h
theorem gK {x:Cf} (h:iv x=true) (F:List Op.Opt):iv (bF x F)=true:=by
 unfold bF;induction F generalizing x with
 | nil=>exact h
 | cons o F ih=>exact ih (nd h)
end Go.Proofs.YtjebigodbnefiaaGreatDoor
