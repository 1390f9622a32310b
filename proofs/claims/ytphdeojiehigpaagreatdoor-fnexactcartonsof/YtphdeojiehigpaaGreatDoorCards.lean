/-
  DERIVED. GIVEN WITH THE SEED: THE CARDS: each row of YtphdeojiehigpaaGreatDoorRows.lean that lists a variable, with what it lists TIED to the program's text (the seventh form; the later family's looks); each row that meets fmt, with fmt's text TOLD by the authors' own Lean function (tested against real Go, not proved from fmt's source: count such statements apart). THE CARD IS WHAT COUNTS. Prove the row's statement (the work); the ties are given (YtphdeojiehigpaaGreatDoorTie.lean); close each card by the builder's one call (the guide's Derived/Test/ToyasCard.lean, 'card_holds'). Laid BY PROGRAM, IN A SANDBOX (cutbox-door.mjs). By AI agents, Wed Nov 11 2026. No macro, syntax, notation, axiom, sorry.
-/
import Derived.Test.YtphdeojiehigpaaGreatDoorRows
import GoSem.ClaimSeven
namespace Go.Proofs.YtphdeojiehigpaaGreatDoor
namespace Rows

/-- THE TIED CARD OF 'laws.FnExactGross'. -/
def fnExactGrossCard : Claim7 := { stood := { row := fnExactGrossRow, standIns := [], harness := (true, "13b2091dbbee8e09f9d32fc131472329a61353ca87ea707b38e724a22bc46d6a"), looks := true }, kinds := [], alts := [], laidByText := true, laidKinds := [.handle], laidTests := true, laidLooks := .later }
def FnExactGrossCardSaid : Prop := Claim7.holds Tryz.pinned (.plain (OpenSpec.ofChange fnExactGrossSpec)) fnExactGrossCard

/-- THE TIED CARD OF 'laws.FnExactCostOf'. -/
def fnExactCostOfCard : Claim7 := { stood := { row := fnExactCostOfRow, standIns := [], harness := (true, "13b2091dbbee8e09f9d32fc131472329a61353ca87ea707b38e724a22bc46d6a"), looks := true }, kinds := [], alts := [], laidByText := true, laidKinds := [.handle], laidTests := true, laidLooks := .later }
def FnExactCostOfCardSaid : Prop := Claim7.holds Tryz.pinned (.plain (OpenSpec.ofChange fnExactCostOfSpec)) fnExactCostOfCard

/-- THE TIED CARD OF 'laws.FnExactCheapest'. -/
def fnExactCheapestCard : Claim7 := { stood := { row := fnExactCheapestRow, standIns := [], harness := (true, "13b2091dbbee8e09f9d32fc131472329a61353ca87ea707b38e724a22bc46d6a"), looks := true }, kinds := [], alts := [], laidByText := true, laidKinds := [.handle], laidTests := true, laidLooks := .later }
def FnExactCheapestCardSaid : Prop := Claim7.holds Tryz.pinned (.plain (OpenSpec.ofChange fnExactCheapestSpec)) fnExactCheapestCard

/-- THE TIED CARD OF 'laws.FnExactCartonsOf'. -/
def fnExactCartonsOfCard : Claim7 := { stood := { row := fnExactCartonsOfRow, standIns := [], harness := (true, "13b2091dbbee8e09f9d32fc131472329a61353ca87ea707b38e724a22bc46d6a"), looks := true }, kinds := [], alts := [], laidByText := true, laidKinds := [.handle], laidTests := true, laidLooks := .later }
def FnExactCartonsOfCardSaid : Prop := Claim7.holds Tryz.pinned (.plain (OpenSpec.ofChange fnExactCartonsOfSpec)) fnExactCartonsOfCard

/-- THE TIED CARD OF 'laws.FnCosts'. -/
def fnCostsCard : Claim7 := { stood := { row := fnCostsRow, standIns := [], harness := (true, "13b2091dbbee8e09f9d32fc131472329a61353ca87ea707b38e724a22bc46d6a"), looks := true }, kinds := [], alts := [], laidByText := true, laidKinds := [.handle], laidTests := true, laidLooks := .later }
def FnCostsCardSaid : Prop := Claim7.holds Tryz.pinned (.plain (OpenSpec.ofChange fnCostsSpec)) fnCostsCard

/-- THE SECOND FORM's CARD OF 'laws.FnExactGross'. -/
def fnExactGrossUptoCard : Claim7 := { stood := { row := fnExactGrossUptoRow, standIns := [], harness := (true, "13b2091dbbee8e09f9d32fc131472329a61353ca87ea707b38e724a22bc46d6a"), looks := true }, kinds := [], alts := [], laidByText := true, laidKinds := [.handle], laidTests := true, laidLooks := .later }
def FnExactGrossUptoCardSaid : Prop := Claim7.holds Tryz.pinned (.plain (OpenSpec.upto fnExactGrossSpec)) fnExactGrossUptoCard

/-- THE SECOND FORM's CARD OF 'laws.FnExactCostOf'. -/
def fnExactCostOfUptoCard : Claim7 := { stood := { row := fnExactCostOfUptoRow, standIns := [], harness := (true, "13b2091dbbee8e09f9d32fc131472329a61353ca87ea707b38e724a22bc46d6a"), looks := true }, kinds := [], alts := [], laidByText := true, laidKinds := [.handle], laidTests := true, laidLooks := .later }
def FnExactCostOfUptoCardSaid : Prop := Claim7.holds Tryz.pinned (.plain (OpenSpec.upto fnExactCostOfSpec)) fnExactCostOfUptoCard

/-- THE SECOND FORM's CARD OF 'laws.FnExactCheapest'. -/
def fnExactCheapestUptoCard : Claim7 := { stood := { row := fnExactCheapestUptoRow, standIns := [], harness := (true, "13b2091dbbee8e09f9d32fc131472329a61353ca87ea707b38e724a22bc46d6a"), looks := true }, kinds := [], alts := [], laidByText := true, laidKinds := [.handle], laidTests := true, laidLooks := .later }
def FnExactCheapestUptoCardSaid : Prop := Claim7.holds Tryz.pinned (.plain (OpenSpec.upto fnExactCheapestSpec)) fnExactCheapestUptoCard

/-- THE SECOND FORM's CARD OF 'laws.FnExactCartonsOf'. -/
def fnExactCartonsOfUptoCard : Claim7 := { stood := { row := fnExactCartonsOfUptoRow, standIns := [], harness := (true, "13b2091dbbee8e09f9d32fc131472329a61353ca87ea707b38e724a22bc46d6a"), looks := true }, kinds := [], alts := [], laidByText := true, laidKinds := [.handle], laidTests := true, laidLooks := .later }
def FnExactCartonsOfUptoCardSaid : Prop := Claim7.holds Tryz.pinned (.plain (OpenSpec.upto fnExactCartonsOfSpec)) fnExactCartonsOfUptoCard

/-- THE SECOND FORM's CARD OF 'laws.FnCosts'. -/
def fnCostsUptoCard : Claim7 := { stood := { row := fnCostsUptoRow, standIns := [], harness := (true, "13b2091dbbee8e09f9d32fc131472329a61353ca87ea707b38e724a22bc46d6a"), looks := true }, kinds := [], alts := [], laidByText := true, laidKinds := [.handle], laidTests := true, laidLooks := .later }
def FnCostsUptoCardSaid : Prop := Claim7.holds Tryz.pinned (.plain (OpenSpec.upto fnCostsSpec)) fnCostsUptoCard
end Rows
end Go.Proofs.YtphdeojiehigpaaGreatDoor
