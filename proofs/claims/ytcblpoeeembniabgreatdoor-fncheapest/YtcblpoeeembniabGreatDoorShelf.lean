/- No contract of the library is wanted here. -/
import Derived.Below
namespace Go.Proofs.YtcblpoeeembniabGreatDoor
end Go.Proofs.YtcblpoeeembniabGreatDoor
