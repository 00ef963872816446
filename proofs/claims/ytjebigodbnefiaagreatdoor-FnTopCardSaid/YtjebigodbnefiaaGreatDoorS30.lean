/- HrW -/
import Derived.Test.YtjebigodbnefiaaGreatDoorS28
import Derived.Test.YtjebigodbnefiaaGreatDoorS29
namespace Go.Proofs.YtjebigodbnefiaaGreatDoor
open Go.RowKit Go.Proofs.Tryz
end Go.Proofs.YtjebigodbnefiaaGreatDoor
