/- WkE -/
import Derived.Test.YtjebigodbnefiaaGreatDoorS14
import Derived.Test.YtjebigodbnefiaaGreatDoorS10
namespace Go.Proofs.YtjebigodbnefiaaGreatDoor
open Go.RowKit Go.Proofs.Tryz
end Go.Proofs.YtjebigodbnefiaaGreatDoor
