/- EnR -/
import Derived.Test.YtjebigodbnefiaaGreatDoorS36
import Derived.Test.YtjebigodbnefiaaGreatDoorS31
namespace Go.Proofs.YtjebigodbnefiaaGreatDoor
open Go.RowKit Go.Proofs.Tryz
theorem Ok9.of {e e':En} {o:EO} (h:Ok9 e' o) (he:e'.up=e.up):Ok9 e o:=by
 refine ⟨h.no,fun h0=>?_⟩;have:=h.yes h0
 rw [he] at this;exact this
end Go.Proofs.YtjebigodbnefiaaGreatDoor
