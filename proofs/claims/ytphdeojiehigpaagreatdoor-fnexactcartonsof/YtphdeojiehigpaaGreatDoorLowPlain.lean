/- Lower bounds, plain. -/
import Derived.Test.YtphdeojiehigpaaGreatDoorPackPlain
import Derived.Test.YtphdeojiehigpaaGreatDoorPackSt
namespace Go.Proofs.YtphdeojiehigpaaGreatDoor
open Go Go.RowKit
set_option linter.unusedVariables false

def mostV (r : ReqV) : BulkV := ⟨vol (masterV r).wd (masterV r).ht (masterV r).dp, (masterV r).gram⟩
/-- Rounded up. -/
def ceilI (n b : Int) : Int := (n + b - 1) / b
def lowVol (r : ReqV) (us : List Int) : Int := if classI r = 0 then ceilI (volOf (itemsR r) us) (mostV r).v else 0
def lowGram (r : ReqV) (us : List Int) : Int := if classI r = 0 then ceilI (gramOf (itemsR r) us) (mostV r).g else 0
/-- How many are more than half. -/
def wideB (r : ReqV) (u : Int) : Bool := decide (2 * volAt (itemsR r) u > (mostV r).v)
def heavyB (r : ReqV) (u : Int) : Bool := decide (2 * gramAt (itemsR r) u > (mostV r).g)
def cntTo (p : Int → Bool) (us : List Int) (k : Nat) : Nat := (us.take k).countP p
def greatN (r : ReqV) (us : List Int) : Nat := max (us.countP (wideB r)) (us.countP (heavyB r))
def lowGreat (r : ReqV) (us : List Int) : Int := if classI r = 0 then (greatN r (knownL (itemsR r) us) : Int) else 0
def lowR (r : ReqV) (us : List Int) : Int := max (lowVol r us) (max (lowGram r us) (lowGreat r us))
end Go.Proofs.YtphdeojiehigpaaGreatDoor
