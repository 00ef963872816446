/- Base -/
import Derived.Test.YtjebigodbnefiaaGreatDoorProg
import Derived.Handy
namespace Go.Proofs.YtjebigodbnefiaaGreatDoor
open Go.RowKit Go.Proofs.Tryz
theorem aa {p:Prop} (h:p):Hid p:=h
theorem uh {p:Prop} (h:Hid p):p:=h.out
theorem j8 {k:IntKind} {a b:Int} (h:a=b):Ending.returned (.int k a)=.returned (.int k b):=by rw [h]
end Go.Proofs.YtjebigodbnefiaaGreatDoor
