/- Small words of all my texts: a fact hidden from the walk, and brought out again; no condition. -/
import Derived.Test.YtkcghhkkepndnaaGreatDoorProg
import Derived.WalkKit
import Derived.Handy
namespace Go.Proofs.YtkcghhkkepndnaaGreatDoor
open Go.RowKit
theorem hide {p:Prop} (h:p):Hid p:=h
theorem uh {p:Prop} (h:Hid p):p:=h.out
theorem ret_int {k:IntKind} {a b:Int} (h:a=b):Ending.returned (.int k a)=.returned (.int k b):=by rw [h]

end Go.Proofs.YtkcghhkkepndnaaGreatDoor
