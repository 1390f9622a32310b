/-
  DERIVED. GIVEN WITH THE SEED: THE CARDS: each row of YtpoonidoijepaaaGreatDoorRows.lean that lists a variable, with what it lists TIED to the program's text (the seventh form; the later family's looks); each row that meets fmt, with fmt's text TOLD by the authors' own Lean function (tested against real Go, not proved from fmt's source: count such statements apart). THE CARD IS WHAT COUNTS. Prove the row's statement (the work); the ties are given (YtpoonidoijepaaaGreatDoorTie.lean); close each card by the builder's one call (the guide's Derived/Test/ToyasCard.lean, 'card_holds'). Laid BY PROGRAM, IN A SANDBOX (cutbox-door.mjs). By AI agents, Wed Nov 11 2026. No macro, syntax, notation, axiom, sorry.
-/
import Derived.Test.YtpoonidoijepaaaGreatDoorRows
import GoSem.ClaimSeven
namespace Go.Proofs.YtpoonidoijepaaaGreatDoor
namespace Rows

/-- THE TIED CARD OF 'laws.FnNoRoom'. -/
def fnNoRoomCard : Claim7 := { stood := { row := fnNoRoomRow, standIns := [], harness := (true, "0bc0d0ce2e5670b42587556c5b1380b84587dd3105c863aae41c4197010169d1"), looks := true }, kinds := [], alts := [], laidByText := true, laidKinds := [.handle], laidTests := true, laidLooks := .later }
def FnNoRoomCardSaid : Prop := Claim7.holds Tryz.pinned (.plain (OpenSpec.ofChange fnNoRoomSpec)) fnNoRoomCard

/-- THE TIED CARD OF 'laws.FnRoomLess'. -/
def fnRoomLessCard : Claim7 := { stood := { row := fnRoomLessRow, standIns := [], harness := (true, "0bc0d0ce2e5670b42587556c5b1380b84587dd3105c863aae41c4197010169d1"), looks := true }, kinds := [], alts := [], laidByText := true, laidKinds := [.handle], laidTests := true, laidLooks := .later }
def FnRoomLessCardSaid : Prop := Claim7.holds Tryz.pinned (.plain (OpenSpec.ofChange fnRoomLessSpec)) fnRoomLessCard

/-- THE TIED CARD OF 'laws.FnExactRoom'. -/
def fnExactRoomCard : Claim7 := { stood := { row := fnExactRoomRow, standIns := [], harness := (true, "0bc0d0ce2e5670b42587556c5b1380b84587dd3105c863aae41c4197010169d1"), looks := true }, kinds := [], alts := [], laidByText := true, laidKinds := [.handle], laidTests := true, laidLooks := .later }
def FnExactRoomCardSaid : Prop := Claim7.holds Tryz.pinned (.plain (OpenSpec.ofChange fnExactRoomSpec)) fnExactRoomCard

/-- THE TIED CARD OF 'laws.FnExactNextFit'. -/
def fnExactNextFitCard : Claim7 := { stood := { row := fnExactNextFitRow, standIns := [], harness := (true, "0bc0d0ce2e5670b42587556c5b1380b84587dd3105c863aae41c4197010169d1"), looks := true }, kinds := [], alts := [], laidByText := true, laidKinds := [.handle], laidTests := true, laidLooks := .later }
def FnExactNextFitCardSaid : Prop := Claim7.holds Tryz.pinned (.plain (OpenSpec.ofChange fnExactNextFitSpec)) fnExactNextFitCard

/-- THE TIED CARD OF 'laws.FnExactFirstFit'. -/
def fnExactFirstFitCard : Claim7 := { stood := { row := fnExactFirstFitRow, standIns := [], harness := (true, "0bc0d0ce2e5670b42587556c5b1380b84587dd3105c863aae41c4197010169d1"), looks := true }, kinds := [], alts := [], laidByText := true, laidKinds := [.handle], laidTests := true, laidLooks := .later }
def FnExactFirstFitCardSaid : Prop := Claim7.holds Tryz.pinned (.plain (OpenSpec.ofChange fnExactFirstFitSpec)) fnExactFirstFitCard

/-- THE TIED CARD OF 'laws.FnExactPackWay'. -/
def fnExactPackWayCard : Claim7 := { stood := { row := fnExactPackWayRow, standIns := [], harness := (true, "0bc0d0ce2e5670b42587556c5b1380b84587dd3105c863aae41c4197010169d1"), looks := true }, kinds := [], alts := [], laidByText := true, laidKinds := [.handle], laidTests := true, laidLooks := .later }
def FnExactPackWayCardSaid : Prop := Claim7.holds Tryz.pinned (.plain (OpenSpec.ofChange fnExactPackWaySpec)) fnExactPackWayCard

/-- THE SECOND FORM's CARD OF 'laws.FnNoRoom'. -/
def fnNoRoomUptoCard : Claim7 := { stood := { row := fnNoRoomUptoRow, standIns := [], harness := (true, "0bc0d0ce2e5670b42587556c5b1380b84587dd3105c863aae41c4197010169d1"), looks := true }, kinds := [], alts := [], laidByText := true, laidKinds := [.handle], laidTests := true, laidLooks := .later }
def FnNoRoomUptoCardSaid : Prop := Claim7.holds Tryz.pinned (.plain (OpenSpec.upto fnNoRoomSpec)) fnNoRoomUptoCard

/-- THE SECOND FORM's CARD OF 'laws.FnRoomLess'. -/
def fnRoomLessUptoCard : Claim7 := { stood := { row := fnRoomLessUptoRow, standIns := [], harness := (true, "0bc0d0ce2e5670b42587556c5b1380b84587dd3105c863aae41c4197010169d1"), looks := true }, kinds := [], alts := [], laidByText := true, laidKinds := [.handle], laidTests := true, laidLooks := .later }
def FnRoomLessUptoCardSaid : Prop := Claim7.holds Tryz.pinned (.plain (OpenSpec.upto fnRoomLessSpec)) fnRoomLessUptoCard

/-- THE SECOND FORM's CARD OF 'laws.FnExactRoom'. -/
def fnExactRoomUptoCard : Claim7 := { stood := { row := fnExactRoomUptoRow, standIns := [], harness := (true, "0bc0d0ce2e5670b42587556c5b1380b84587dd3105c863aae41c4197010169d1"), looks := true }, kinds := [], alts := [], laidByText := true, laidKinds := [.handle], laidTests := true, laidLooks := .later }
def FnExactRoomUptoCardSaid : Prop := Claim7.holds Tryz.pinned (.plain (OpenSpec.upto fnExactRoomSpec)) fnExactRoomUptoCard

/-- THE SECOND FORM's CARD OF 'laws.FnExactNextFit'. -/
def fnExactNextFitUptoCard : Claim7 := { stood := { row := fnExactNextFitUptoRow, standIns := [], harness := (true, "0bc0d0ce2e5670b42587556c5b1380b84587dd3105c863aae41c4197010169d1"), looks := true }, kinds := [], alts := [], laidByText := true, laidKinds := [.handle], laidTests := true, laidLooks := .later }
def FnExactNextFitUptoCardSaid : Prop := Claim7.holds Tryz.pinned (.plain (OpenSpec.upto fnExactNextFitSpec)) fnExactNextFitUptoCard

/-- THE SECOND FORM's CARD OF 'laws.FnExactFirstFit'. -/
def fnExactFirstFitUptoCard : Claim7 := { stood := { row := fnExactFirstFitUptoRow, standIns := [], harness := (true, "0bc0d0ce2e5670b42587556c5b1380b84587dd3105c863aae41c4197010169d1"), looks := true }, kinds := [], alts := [], laidByText := true, laidKinds := [.handle], laidTests := true, laidLooks := .later }
def FnExactFirstFitUptoCardSaid : Prop := Claim7.holds Tryz.pinned (.plain (OpenSpec.upto fnExactFirstFitSpec)) fnExactFirstFitUptoCard

/-- THE SECOND FORM's CARD OF 'laws.FnExactPackWay'. -/
def fnExactPackWayUptoCard : Claim7 := { stood := { row := fnExactPackWayUptoRow, standIns := [], harness := (true, "0bc0d0ce2e5670b42587556c5b1380b84587dd3105c863aae41c4197010169d1"), looks := true }, kinds := [], alts := [], laidByText := true, laidKinds := [.handle], laidTests := true, laidLooks := .later }
def FnExactPackWayUptoCardSaid : Prop := Claim7.holds Tryz.pinned (.plain (OpenSpec.upto fnExactPackWaySpec)) fnExactPackWayUptoCard
end Rows
end Go.Proofs.YtpoonidoijepaaaGreatDoor
