/-
  DERIVED. GIVEN WITH THE SEED: THE CARDS: each row of YtdkndgklokljnaaGreatDoorRows.lean that lists a variable, with what it lists TIED to the program's text (the seventh form; the later family's looks); each row that meets fmt, with fmt's text TOLD by the authors' own Lean function (tested against real Go, not proved from fmt's source: count such statements apart). THE CARD IS WHAT COUNTS. Prove the row's statement (the work); the ties are given (YtdkndgklokljnaaGreatDoorTie.lean); close each card by the builder's one call (the guide's Derived/Test/ToyasCard.lean, 'card_holds'). Laid BY PROGRAM, IN A SANDBOX (cutbox-door.mjs). By AI agents, Wed Nov 11 2026. No macro, syntax, notation, axiom, sorry.
-/
import Derived.Test.YtdkndgklokljnaaGreatDoorRows
import GoSem.ClaimSeven
namespace Go.Proofs.YtdkndgklokljnaaGreatDoor
namespace Rows

/-- THE TIED CARD OF 'laws.FnReasons'. -/
def fnReasonsCard : Claim7 := { stood := { row := fnReasonsRow, standIns := [], harness := (true, "9da5fcbd5b917ec87c1cc2143feb23d3765ff8610d96848efccf83b4e63ef08e"), looks := true }, kinds := [], alts := [], goes := true, laidByText := true, laidKinds := [.data, .data, .data, .handle, .sentinel, .sentinel, .data, .data], laidTests := true, laidLooks := .later }
def FnReasonsCardSaid : Prop := Claim7.holds Tryz.pinned (.plain (OpenSpec.ofChange fnReasonsSpec)) fnReasonsCard

/-- THE TIED CARD OF 'laws.FnExactClass'. -/
def fnExactClassCard : Claim7 := { stood := { row := fnExactClassRow, standIns := [], harness := (true, "9da5fcbd5b917ec87c1cc2143feb23d3765ff8610d96848efccf83b4e63ef08e"), looks := true }, kinds := [], alts := [], goes := true, laidByText := true, laidKinds := [.handle], laidTests := true, laidLooks := .later }
def FnExactClassCardSaid : Prop := Claim7.holds Tryz.pinned (.plain (OpenSpec.ofChange fnExactClassSpec)) fnExactClassCard

/-- THE TIED CARD OF 'laws.FnExactClassOf'. -/
def fnExactClassOfCard : Claim7 := { stood := { row := fnExactClassOfRow, standIns := [], harness := (true, "9da5fcbd5b917ec87c1cc2143feb23d3765ff8610d96848efccf83b4e63ef08e"), looks := true }, kinds := [], alts := [], goes := true, laidByText := true, laidKinds := [.data, .data, .data, .handle, .sentinel, .sentinel, .data], laidTests := true, laidLooks := .later }
def FnExactClassOfCardSaid : Prop := Claim7.holds Tryz.pinned (.plain (OpenSpec.ofChange fnExactClassOfSpec)) fnExactClassOfCard

/-- THE SECOND FORM's CARD OF 'laws.FnReasons'. -/
def fnReasonsUptoCard : Claim7 := { stood := { row := fnReasonsUptoRow, standIns := [], harness := (true, "9da5fcbd5b917ec87c1cc2143feb23d3765ff8610d96848efccf83b4e63ef08e"), looks := true }, kinds := [], alts := [], goes := true, laidByText := true, laidKinds := [.data, .data, .data, .handle, .sentinel, .sentinel, .data, .data], laidTests := true, laidLooks := .later }
def FnReasonsUptoCardSaid : Prop := Claim7.holds Tryz.pinned (.plain (OpenSpec.upto fnReasonsSpec)) fnReasonsUptoCard

/-- THE SECOND FORM's CARD OF 'laws.FnExactClass'. -/
def fnExactClassUptoCard : Claim7 := { stood := { row := fnExactClassUptoRow, standIns := [], harness := (true, "9da5fcbd5b917ec87c1cc2143feb23d3765ff8610d96848efccf83b4e63ef08e"), looks := true }, kinds := [], alts := [], goes := true, laidByText := true, laidKinds := [.handle], laidTests := true, laidLooks := .later }
def FnExactClassUptoCardSaid : Prop := Claim7.holds Tryz.pinned (.plain (OpenSpec.upto fnExactClassSpec)) fnExactClassUptoCard

/-- THE SECOND FORM's CARD OF 'laws.FnExactClassOf'. -/
def fnExactClassOfUptoCard : Claim7 := { stood := { row := fnExactClassOfUptoRow, standIns := [], harness := (true, "9da5fcbd5b917ec87c1cc2143feb23d3765ff8610d96848efccf83b4e63ef08e"), looks := true }, kinds := [], alts := [], goes := true, laidByText := true, laidKinds := [.data, .data, .data, .handle, .sentinel, .sentinel, .data], laidTests := true, laidLooks := .later }
def FnExactClassOfUptoCardSaid : Prop := Claim7.holds Tryz.pinned (.plain (OpenSpec.upto fnExactClassOfSpec)) fnExactClassOfUptoCard
end Rows
end Go.Proofs.YtdkndgklokljnaaGreatDoor
