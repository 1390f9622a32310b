/- ItemOk, TypeOk, PalletOk of the program and of the model: each answers as the bounds say. -/
import Derived.Test.YtmjohalblppgiaaVol
namespace Go.Proofs.Ytmjohalblppgiaa
open Go.RowKit

def sidesB (a b c : Int) : Bool := inB a 1 2000 && inB b 1 2000 && inB c 1 2000
def itemB (id x y z g c n : Int) : Bool := inB id 0 999 && sidesB x y z && inB g 1 100000 && inB c 0 3 && inB n 1 6
def typeB (id x y z t g c : Int) : Bool := inB id 0 999 && sidesB x y z && inB t 0 100000 && inB g 1 100000 && inB c 0 100000
def palletB (x z y g : Int) : Bool := sidesB x y z && inB g 1 100000


/-! The model's. -/
end Go.Proofs.Ytmjohalblppgiaa
