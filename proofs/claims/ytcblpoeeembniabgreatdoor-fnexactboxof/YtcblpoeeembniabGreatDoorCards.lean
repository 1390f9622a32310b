/-
  DERIVED. GIVEN WITH THE SEED: THE CARDS: each row of YtcblpoeeembniabGreatDoorRows.lean that lists a variable, with what it lists TIED to the program's text (the seventh form; the later family's looks); each row that meets fmt, with fmt's text TOLD by the authors' own Lean function (tested against real Go, not proved from fmt's source: count such statements apart). THE CARD IS WHAT COUNTS. Prove the row's statement (the work); the ties are given (YtcblpoeeembniabGreatDoorTie.lean); close each card by the builder's one call (the guide's Derived/Test/ToyasCard.lean, 'card_holds'). Laid BY PROGRAM, IN A SANDBOX (cutbox-door.mjs). By AI agents, Wed Nov 11 2026. No macro, syntax, notation, axiom, sorry.
-/
import Derived.Test.YtcblpoeeembniabGreatDoorRows
import GoSem.ClaimSeven
namespace Go.Proofs.YtcblpoeeembniabGreatDoor
namespace Rows

/-- THE TIED CARD OF 'laws.FnExactBoxOf'. -/
def fnExactBoxOfCard : Claim7 := { stood := { row := fnExactBoxOfRow, standIns := [], harness := (true, "db5cf46a2db2258b395ed12f509b759d67fc5ada98fb1c549e3dd8d840459301"), looks := true }, kinds := [], alts := [], laidByText := true, laidKinds := [.handle], laidTests := true, laidLooks := .later }
def FnExactBoxOfCardSaid : Prop := Claim7.holds Tryz.pinned (.plain (OpenSpec.ofChange fnExactBoxOfSpec)) fnExactBoxOfCard

/-- THE TIED CARD OF 'laws.FnCheapest'. -/
def fnCheapestCard : Claim7 := { stood := { row := fnCheapestRow, standIns := [], harness := (true, "db5cf46a2db2258b395ed12f509b759d67fc5ada98fb1c549e3dd8d840459301"), looks := true }, kinds := [], alts := [], laidByText := true, laidKinds := [.handle], laidTests := true, laidLooks := .later }
def FnCheapestCardSaid : Prop := Claim7.holds Tryz.pinned (.plain (OpenSpec.ofChange fnCheapestSpec)) fnCheapestCard

/-- THE SECOND FORM's CARD OF 'laws.FnExactBoxOf'. -/
def fnExactBoxOfUptoCard : Claim7 := { stood := { row := fnExactBoxOfUptoRow, standIns := [], harness := (true, "db5cf46a2db2258b395ed12f509b759d67fc5ada98fb1c549e3dd8d840459301"), looks := true }, kinds := [], alts := [], laidByText := true, laidKinds := [.handle], laidTests := true, laidLooks := .later }
def FnExactBoxOfUptoCardSaid : Prop := Claim7.holds Tryz.pinned (.plain (OpenSpec.upto fnExactBoxOfSpec)) fnExactBoxOfUptoCard

/-- THE SECOND FORM's CARD OF 'laws.FnCheapest'. -/
def fnCheapestUptoCard : Claim7 := { stood := { row := fnCheapestUptoRow, standIns := [], harness := (true, "db5cf46a2db2258b395ed12f509b759d67fc5ada98fb1c549e3dd8d840459301"), looks := true }, kinds := [], alts := [], laidByText := true, laidKinds := [.handle], laidTests := true, laidLooks := .later }
def FnCheapestUptoCardSaid : Prop := Claim7.holds Tryz.pinned (.plain (OpenSpec.upto fnCheapestSpec)) fnCheapestUptoCard
end Rows
end Go.Proofs.YtcblpoeeembniabGreatDoor
