/-
  DERIVED. GIVEN WITH THE SEED: THE CARDS: each row of YtdmaldjnjffnlabGreatDoorRows.lean that lists a variable, with what it lists TIED to the program's text (the seventh form; the later family's looks); each row that meets fmt, with fmt's text TOLD by the authors' own Lean function (tested against real Go, not proved from fmt's source: count such statements apart). THE CARD IS WHAT COUNTS. Prove the row's statement (the work); the ties are given (YtdmaldjnjffnlabGreatDoorTie.lean); close each card by the builder's one call (the guide's Derived/Test/ToyasCard.lean, 'card_holds'). Laid BY PROGRAM, IN A SANDBOX (cutbox-door.mjs). By AI agents, Wed Nov 11 2026. No macro, syntax, notation, axiom, sorry.
-/
import Derived.Test.YtdmaldjnjffnlabGreatDoorRows
import GoSem.ClaimSeven
namespace Go.Proofs.YtdmaldjnjffnlabGreatDoor
namespace Rows

/-- THE TIED CARD OF 'laws.FnExactBest'. -/
def fnExactBestCard : Claim7 := { stood := { row := fnExactBestRow, standIns := [], harness := (true, "53dbcf094e328e053da4a8035618ca8d0605f33988d9553dc959161687114ab2"), looks := true }, kinds := [], alts := [], laidByText := true, laidKinds := [.handle], laidTests := true, laidLooks := .later }
def FnExactBestCardSaid : Prop := Claim7.holds Tryz.pinned (.plain (OpenSpec.ofChange fnExactBestSpec)) fnExactBestCard

/-- THE TIED CARD OF 'laws.FnExactIsPacking'. -/
def fnExactIsPackingCard : Claim7 := { stood := { row := fnExactIsPackingRow, standIns := [], harness := (true, "53dbcf094e328e053da4a8035618ca8d0605f33988d9553dc959161687114ab2"), looks := true }, kinds := [], alts := [], laidByText := true, laidKinds := [.handle], laidTests := true, laidLooks := .later }
def FnExactIsPackingCardSaid : Prop := Claim7.holds Tryz.pinned (.plain (OpenSpec.ofChange fnExactIsPackingSpec)) fnExactIsPackingCard

/-- THE TIED CARD OF 'laws.FnRoomLess'. -/
def fnRoomLessCard : Claim7 := { stood := { row := fnRoomLessRow, standIns := [], harness := (true, "53dbcf094e328e053da4a8035618ca8d0605f33988d9553dc959161687114ab2"), looks := true }, kinds := [], alts := [], laidByText := true, laidKinds := [.handle], laidTests := true, laidLooks := .later }
def FnRoomLessCardSaid : Prop := Claim7.holds Tryz.pinned (.plain (OpenSpec.ofChange fnRoomLessSpec)) fnRoomLessCard

/-- THE TIED CARD OF 'laws.FnNoRoom'. -/
def fnNoRoomCard : Claim7 := { stood := { row := fnNoRoomRow, standIns := [], harness := (true, "53dbcf094e328e053da4a8035618ca8d0605f33988d9553dc959161687114ab2"), looks := true }, kinds := [], alts := [], laidByText := true, laidKinds := [.handle], laidTests := true, laidLooks := .later }
def FnNoRoomCardSaid : Prop := Claim7.holds Tryz.pinned (.plain (OpenSpec.ofChange fnNoRoomSpec)) fnNoRoomCard

/-- THE TIED CARD OF 'laws.FnPackings'. -/
def fnPackingsCard : Claim7 := { stood := { row := fnPackingsRow, standIns := [], harness := (true, "53dbcf094e328e053da4a8035618ca8d0605f33988d9553dc959161687114ab2"), looks := true }, kinds := [], alts := [], laidByText := true, laidKinds := [.handle], laidTests := true, laidLooks := .later }
def FnPackingsCardSaid : Prop := Claim7.holds Tryz.pinned (.plain (OpenSpec.ofChange fnPackingsSpec)) fnPackingsCard

/-- THE TIED CARD OF 'laws.FnBest'. -/
def fnBestCard : Claim7 := { stood := { row := fnBestRow, standIns := [], harness := (true, "53dbcf094e328e053da4a8035618ca8d0605f33988d9553dc959161687114ab2"), looks := true }, kinds := [], alts := [], laidByText := true, laidKinds := [.handle], laidTests := true, laidLooks := .later }
def FnBestCardSaid : Prop := Claim7.holds Tryz.pinned (.plain (OpenSpec.ofChange fnBestSpec)) fnBestCard

/-- THE SECOND FORM's CARD OF 'laws.FnExactBest'. -/
def fnExactBestUptoCard : Claim7 := { stood := { row := fnExactBestUptoRow, standIns := [], harness := (true, "53dbcf094e328e053da4a8035618ca8d0605f33988d9553dc959161687114ab2"), looks := true }, kinds := [], alts := [], laidByText := true, laidKinds := [.handle], laidTests := true, laidLooks := .later }
def FnExactBestUptoCardSaid : Prop := Claim7.holds Tryz.pinned (.plain (OpenSpec.upto fnExactBestSpec)) fnExactBestUptoCard

/-- THE SECOND FORM's CARD OF 'laws.FnExactIsPacking'. -/
def fnExactIsPackingUptoCard : Claim7 := { stood := { row := fnExactIsPackingUptoRow, standIns := [], harness := (true, "53dbcf094e328e053da4a8035618ca8d0605f33988d9553dc959161687114ab2"), looks := true }, kinds := [], alts := [], laidByText := true, laidKinds := [.handle], laidTests := true, laidLooks := .later }
def FnExactIsPackingUptoCardSaid : Prop := Claim7.holds Tryz.pinned (.plain (OpenSpec.upto fnExactIsPackingSpec)) fnExactIsPackingUptoCard

/-- THE SECOND FORM's CARD OF 'laws.FnRoomLess'. -/
def fnRoomLessUptoCard : Claim7 := { stood := { row := fnRoomLessUptoRow, standIns := [], harness := (true, "53dbcf094e328e053da4a8035618ca8d0605f33988d9553dc959161687114ab2"), looks := true }, kinds := [], alts := [], laidByText := true, laidKinds := [.handle], laidTests := true, laidLooks := .later }
def FnRoomLessUptoCardSaid : Prop := Claim7.holds Tryz.pinned (.plain (OpenSpec.upto fnRoomLessSpec)) fnRoomLessUptoCard

/-- THE SECOND FORM's CARD OF 'laws.FnNoRoom'. -/
def fnNoRoomUptoCard : Claim7 := { stood := { row := fnNoRoomUptoRow, standIns := [], harness := (true, "53dbcf094e328e053da4a8035618ca8d0605f33988d9553dc959161687114ab2"), looks := true }, kinds := [], alts := [], laidByText := true, laidKinds := [.handle], laidTests := true, laidLooks := .later }
def FnNoRoomUptoCardSaid : Prop := Claim7.holds Tryz.pinned (.plain (OpenSpec.upto fnNoRoomSpec)) fnNoRoomUptoCard

/-- THE SECOND FORM's CARD OF 'laws.FnPackings'. -/
def fnPackingsUptoCard : Claim7 := { stood := { row := fnPackingsUptoRow, standIns := [], harness := (true, "53dbcf094e328e053da4a8035618ca8d0605f33988d9553dc959161687114ab2"), looks := true }, kinds := [], alts := [], laidByText := true, laidKinds := [.handle], laidTests := true, laidLooks := .later }
def FnPackingsUptoCardSaid : Prop := Claim7.holds Tryz.pinned (.plain (OpenSpec.upto fnPackingsSpec)) fnPackingsUptoCard

/-- THE SECOND FORM's CARD OF 'laws.FnBest'. -/
def fnBestUptoCard : Claim7 := { stood := { row := fnBestUptoRow, standIns := [], harness := (true, "53dbcf094e328e053da4a8035618ca8d0605f33988d9553dc959161687114ab2"), looks := true }, kinds := [], alts := [], laidByText := true, laidKinds := [.handle], laidTests := true, laidLooks := .later }
def FnBestUptoCardSaid : Prop := Claim7.holds Tryz.pinned (.plain (OpenSpec.upto fnBestSpec)) fnBestUptoCard
end Rows
end Go.Proofs.YtdmaldjnjffnlabGreatDoor
