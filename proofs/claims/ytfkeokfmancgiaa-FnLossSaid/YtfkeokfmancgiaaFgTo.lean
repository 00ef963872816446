/- The law's words on a part that came in: copied, and its size counted; what lay in memory stands. -/
import Derived.Test.YtfkeokfmancgiaaBase
namespace Go.Proofs.Ytfkeokfmancgiaa
open Go.RowKit
end Go.Proofs.Ytfkeokfmancgiaa
