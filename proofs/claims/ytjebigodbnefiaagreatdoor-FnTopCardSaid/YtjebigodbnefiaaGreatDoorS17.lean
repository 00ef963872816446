/- WkQ -/
import Derived.Test.YtjebigodbnefiaaGreatDoorS16
namespace Go.Proofs.YtjebigodbnefiaaGreatDoor
open Go.RowKit Go.Proofs.Tryz
section
variable {w0 w1:World} {B:Nat} {c:Cx} {s:St} {v1 v2 vs vt:Value} {q:World}
end
end Go.Proofs.YtjebigodbnefiaaGreatDoor
