/- How two places are compared by their keys: the library's Compare at two ints, and the program's two function literals over it. -/
import Derived.Test.YtlakbnpinennnaaGreatDoorRd
namespace Go.Proofs.YtlakbnpinennnaaGreatDoor
open Go.RowKit

def cmpI (x y : Int) : Int := if x < y then -1 else if y < x then 1 else 0

/-- The keys lie where the function literal looks: behind the variable at 'bx'. -/
def Keys (w : World) (bx : Nat) (ak : Option Addr) (nk ck : Nat) (keys : List Int) : Prop :=
  w.cell? ⟨bx, 0, none⟩ = some (.slice ak nk ck) ∧ Rd w ak nk keys

theorem Keys.drewN {w : World} {bx : Nat} {ak : Option Addr} {nk ck : Nat} {keys : List Int} (h : Keys w bx ak nk ck keys) (n : Nat) : Keys (w.drewN n) bx ak nk ck keys := h

end Go.Proofs.YtlakbnpinennnaaGreatDoor
