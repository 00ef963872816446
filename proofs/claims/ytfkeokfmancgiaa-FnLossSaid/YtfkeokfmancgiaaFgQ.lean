/- The law's word on two parts that are alike; what lay in memory stands. -/
import Derived.Test.YtfkeokfmancgiaaBase
namespace Go.Proofs.Ytfkeokfmancgiaa
open Go.RowKit
end Go.Proofs.Ytfkeokfmancgiaa
