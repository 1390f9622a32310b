/- The laws' own helpers over slices of numbers: the copy and the comparison. -/
import Derived.Test.YtbdpnmlhabliaaaDoorRd
namespace Go.Proofs.YtbdpnmlhabliaaaDoor
open Go.RowKit

end Go.Proofs.YtbdpnmlhabliaaaDoor
