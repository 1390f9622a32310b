/-
  DERIVED. GIVEN WITH THE SEED: THE CARDS: each row of YtlakbnpinennnaaGreatDoorRows.lean that lists a variable, with what it lists TIED to the program's text (the seventh form; the later family's looks); each row that meets fmt, with fmt's text TOLD by the authors' own Lean function (tested against real Go, not proved from fmt's source: count such statements apart). THE CARD IS WHAT COUNTS. Prove the row's statement (the work); the ties are given (YtlakbnpinennnaaGreatDoorTie.lean); close each card by the builder's one call (the guide's Derived/Test/ToyasCard.lean, 'card_holds'). Laid BY PROGRAM, IN A SANDBOX (cutbox-door.mjs). By AI agents, Wed Nov 11 2026. No macro, syntax, notation, axiom, sorry.
-/
import Derived.Test.YtlakbnpinennnaaGreatDoorRows
import GoSem.ClaimSeven
namespace Go.Proofs.YtlakbnpinennnaaGreatDoor
namespace Rows

/-- THE TIED CARD OF 'laws.FnUnits'. -/
def fnUnitsCard : Claim7 := { stood := { row := fnUnitsRow, standIns := [], harness := (true, "7048417a4d63c298c4189bc62b13c45fdbb25ed1a3677048a7a258c5ec74d771"), looks := true }, kinds := [], alts := [], laidByText := true, laidKinds := [.handle], laidTests := true, laidLooks := .later }
def FnUnitsCardSaid : Prop := Claim7.holds Tryz.pinned (.plain (OpenSpec.ofChange fnUnitsSpec)) fnUnitsCard

/-- THE TIED CARD OF 'laws.FnGroupsFew'. -/
def fnGroupsFewCard : Claim7 := { stood := { row := fnGroupsFewRow, standIns := [], harness := (true, "7048417a4d63c298c4189bc62b13c45fdbb25ed1a3677048a7a258c5ec74d771"), looks := true }, kinds := [], alts := [], laidByText := true, laidKinds := [.handle], laidTests := true, laidLooks := .later }
def FnGroupsFewCardSaid : Prop := Claim7.holds Tryz.pinned (.plain (OpenSpec.ofChange fnGroupsFewSpec)) fnGroupsFewCard

/-- THE TIED CARD OF 'laws.FnExactUnits'. -/
def fnExactUnitsCard : Claim7 := { stood := { row := fnExactUnitsRow, standIns := [], harness := (true, "7048417a4d63c298c4189bc62b13c45fdbb25ed1a3677048a7a258c5ec74d771"), looks := true }, kinds := [], alts := [], laidByText := true, laidKinds := [.handle], laidTests := true, laidLooks := .later }
def FnExactUnitsCardSaid : Prop := Claim7.holds Tryz.pinned (.plain (OpenSpec.ofChange fnExactUnitsSpec)) fnExactUnitsCard

/-- THE TIED CARD OF 'laws.FnExactPresent'. -/
def fnExactPresentCard : Claim7 := { stood := { row := fnExactPresentRow, standIns := [], harness := (true, "7048417a4d63c298c4189bc62b13c45fdbb25ed1a3677048a7a258c5ec74d771"), looks := true }, kinds := [], alts := [], laidByText := true, laidKinds := [.handle], laidTests := true, laidLooks := .later }
def FnExactPresentCardSaid : Prop := Claim7.holds Tryz.pinned (.plain (OpenSpec.ofChange fnExactPresentSpec)) fnExactPresentCard

/-- THE TIED CARD OF 'laws.FnExactGroupsOf'. -/
def fnExactGroupsOfCard : Claim7 := { stood := { row := fnExactGroupsOfRow, standIns := [], harness := (true, "7048417a4d63c298c4189bc62b13c45fdbb25ed1a3677048a7a258c5ec74d771"), looks := true }, kinds := [], alts := [], laidByText := true, laidKinds := [.handle], laidTests := true, laidLooks := .later }
def FnExactGroupsOfCardSaid : Prop := Claim7.holds Tryz.pinned (.plain (OpenSpec.ofChange fnExactGroupsOfSpec)) fnExactGroupsOfCard

/-- THE TIED CARD OF 'laws.FnExactUnitsOf'. -/
def fnExactUnitsOfCard : Claim7 := { stood := { row := fnExactUnitsOfRow, standIns := [], harness := (true, "7048417a4d63c298c4189bc62b13c45fdbb25ed1a3677048a7a258c5ec74d771"), looks := true }, kinds := [], alts := [], laidByText := true, laidKinds := [.handle], laidTests := true, laidLooks := .later }
def FnExactUnitsOfCardSaid : Prop := Claim7.holds Tryz.pinned (.plain (OpenSpec.ofChange fnExactUnitsOfSpec)) fnExactUnitsOfCard

/-- THE SECOND FORM's CARD OF 'laws.FnUnits'. -/
def fnUnitsUptoCard : Claim7 := { stood := { row := fnUnitsUptoRow, standIns := [], harness := (true, "7048417a4d63c298c4189bc62b13c45fdbb25ed1a3677048a7a258c5ec74d771"), looks := true }, kinds := [], alts := [], laidByText := true, laidKinds := [.handle], laidTests := true, laidLooks := .later }
def FnUnitsUptoCardSaid : Prop := Claim7.holds Tryz.pinned (.plain (OpenSpec.upto fnUnitsSpec)) fnUnitsUptoCard

/-- THE SECOND FORM's CARD OF 'laws.FnGroupsFew'. -/
def fnGroupsFewUptoCard : Claim7 := { stood := { row := fnGroupsFewUptoRow, standIns := [], harness := (true, "7048417a4d63c298c4189bc62b13c45fdbb25ed1a3677048a7a258c5ec74d771"), looks := true }, kinds := [], alts := [], laidByText := true, laidKinds := [.handle], laidTests := true, laidLooks := .later }
def FnGroupsFewUptoCardSaid : Prop := Claim7.holds Tryz.pinned (.plain (OpenSpec.upto fnGroupsFewSpec)) fnGroupsFewUptoCard

/-- THE SECOND FORM's CARD OF 'laws.FnExactUnits'. -/
def fnExactUnitsUptoCard : Claim7 := { stood := { row := fnExactUnitsUptoRow, standIns := [], harness := (true, "7048417a4d63c298c4189bc62b13c45fdbb25ed1a3677048a7a258c5ec74d771"), looks := true }, kinds := [], alts := [], laidByText := true, laidKinds := [.handle], laidTests := true, laidLooks := .later }
def FnExactUnitsUptoCardSaid : Prop := Claim7.holds Tryz.pinned (.plain (OpenSpec.upto fnExactUnitsSpec)) fnExactUnitsUptoCard

/-- THE SECOND FORM's CARD OF 'laws.FnExactPresent'. -/
def fnExactPresentUptoCard : Claim7 := { stood := { row := fnExactPresentUptoRow, standIns := [], harness := (true, "7048417a4d63c298c4189bc62b13c45fdbb25ed1a3677048a7a258c5ec74d771"), looks := true }, kinds := [], alts := [], laidByText := true, laidKinds := [.handle], laidTests := true, laidLooks := .later }
def FnExactPresentUptoCardSaid : Prop := Claim7.holds Tryz.pinned (.plain (OpenSpec.upto fnExactPresentSpec)) fnExactPresentUptoCard

/-- THE SECOND FORM's CARD OF 'laws.FnExactGroupsOf'. -/
def fnExactGroupsOfUptoCard : Claim7 := { stood := { row := fnExactGroupsOfUptoRow, standIns := [], harness := (true, "7048417a4d63c298c4189bc62b13c45fdbb25ed1a3677048a7a258c5ec74d771"), looks := true }, kinds := [], alts := [], laidByText := true, laidKinds := [.handle], laidTests := true, laidLooks := .later }
def FnExactGroupsOfUptoCardSaid : Prop := Claim7.holds Tryz.pinned (.plain (OpenSpec.upto fnExactGroupsOfSpec)) fnExactGroupsOfUptoCard

/-- THE SECOND FORM's CARD OF 'laws.FnExactUnitsOf'. -/
def fnExactUnitsOfUptoCard : Claim7 := { stood := { row := fnExactUnitsOfUptoRow, standIns := [], harness := (true, "7048417a4d63c298c4189bc62b13c45fdbb25ed1a3677048a7a258c5ec74d771"), looks := true }, kinds := [], alts := [], laidByText := true, laidKinds := [.handle], laidTests := true, laidLooks := .later }
def FnExactUnitsOfUptoCardSaid : Prop := Claim7.holds Tryz.pinned (.plain (OpenSpec.upto fnExactUnitsOfSpec)) fnExactUnitsOfUptoCard
end Rows
end Go.Proofs.YtlakbnpinennnaaGreatDoor
