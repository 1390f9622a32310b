/-
  DERIVED. GIVEN WITH THE SEED: THE CARDS: each row of YtdmaldjnjffnlaaGreatDoorRows.lean that lists a variable, with what it lists TIED to the program's text (the seventh form; the later family's looks); each row that meets fmt, with fmt's text TOLD by the authors' own Lean function (tested against real Go, not proved from fmt's source: count such statements apart). THE CARD IS WHAT COUNTS. Prove the row's statement (the work); the ties are given (YtdmaldjnjffnlaaGreatDoorTie.lean); close each card by the builder's one call (the guide's Derived/Test/ToyasCard.lean, 'card_holds'). Laid BY PROGRAM, IN A SANDBOX (cutbox-door.mjs). By AI agents, Wed Nov 11 2026. No macro, syntax, notation, axiom, sorry.
-/
import Derived.Test.YtdmaldjnjffnlaaGreatDoorRows
import GoSem.ClaimSeven
namespace Go.Proofs.YtdmaldjnjffnlaaGreatDoor
namespace Rows

/-- THE TIED CARD OF 'laws.FnExactFirstFit'. -/
def fnExactFirstFitCard : Claim7 := { stood := { row := fnExactFirstFitRow, standIns := [], harness := (true, "4b440a95aa8604c895556069bbcd08756a88f5abbcc2586f2b6e15a00f910516"), looks := true }, kinds := [], alts := [], laidByText := true, laidKinds := [.handle], laidTests := true, laidLooks := .later }
def FnExactFirstFitCardSaid : Prop := Claim7.holds Tryz.pinned (.plain (OpenSpec.ofChange fnExactFirstFitSpec)) fnExactFirstFitCard

/-- THE TIED CARD OF 'laws.FnExactPackWay'. -/
def fnExactPackWayCard : Claim7 := { stood := { row := fnExactPackWayRow, standIns := [], harness := (true, "4b440a95aa8604c895556069bbcd08756a88f5abbcc2586f2b6e15a00f910516"), looks := true }, kinds := [], alts := [], laidByText := true, laidKinds := [.handle], laidTests := true, laidLooks := .later }
def FnExactPackWayCardSaid : Prop := Claim7.holds Tryz.pinned (.plain (OpenSpec.ofChange fnExactPackWaySpec)) fnExactPackWayCard

/-- THE TIED CARD OF 'laws.FnExactLowerVolume'. -/
def fnExactLowerVolumeCard : Claim7 := { stood := { row := fnExactLowerVolumeRow, standIns := [], harness := (true, "4b440a95aa8604c895556069bbcd08756a88f5abbcc2586f2b6e15a00f910516"), looks := true }, kinds := [], alts := [], laidByText := true, laidKinds := [.handle], laidTests := true, laidLooks := .later }
def FnExactLowerVolumeCardSaid : Prop := Claim7.holds Tryz.pinned (.plain (OpenSpec.ofChange fnExactLowerVolumeSpec)) fnExactLowerVolumeCard

/-- THE TIED CARD OF 'laws.FnExactLowerGram'. -/
def fnExactLowerGramCard : Claim7 := { stood := { row := fnExactLowerGramRow, standIns := [], harness := (true, "4b440a95aa8604c895556069bbcd08756a88f5abbcc2586f2b6e15a00f910516"), looks := true }, kinds := [], alts := [], laidByText := true, laidKinds := [.handle], laidTests := true, laidLooks := .later }
def FnExactLowerGramCardSaid : Prop := Claim7.holds Tryz.pinned (.plain (OpenSpec.ofChange fnExactLowerGramSpec)) fnExactLowerGramCard

/-- THE TIED CARD OF 'laws.FnExactLowerGreat'. -/
def fnExactLowerGreatCard : Claim7 := { stood := { row := fnExactLowerGreatRow, standIns := [], harness := (true, "4b440a95aa8604c895556069bbcd08756a88f5abbcc2586f2b6e15a00f910516"), looks := true }, kinds := [], alts := [], laidByText := true, laidKinds := [.handle], laidTests := true, laidLooks := .later }
def FnExactLowerGreatCardSaid : Prop := Claim7.holds Tryz.pinned (.plain (OpenSpec.ofChange fnExactLowerGreatSpec)) fnExactLowerGreatCard

/-- THE TIED CARD OF 'laws.FnExactLower'. -/
def fnExactLowerCard : Claim7 := { stood := { row := fnExactLowerRow, standIns := [], harness := (true, "4b440a95aa8604c895556069bbcd08756a88f5abbcc2586f2b6e15a00f910516"), looks := true }, kinds := [], alts := [], laidByText := true, laidKinds := [.handle], laidTests := true, laidLooks := .later }
def FnExactLowerCardSaid : Prop := Claim7.holds Tryz.pinned (.plain (OpenSpec.ofChange fnExactLowerSpec)) fnExactLowerCard

/-- THE SECOND FORM's CARD OF 'laws.FnExactFirstFit'. -/
def fnExactFirstFitUptoCard : Claim7 := { stood := { row := fnExactFirstFitUptoRow, standIns := [], harness := (true, "4b440a95aa8604c895556069bbcd08756a88f5abbcc2586f2b6e15a00f910516"), looks := true }, kinds := [], alts := [], laidByText := true, laidKinds := [.handle], laidTests := true, laidLooks := .later }
def FnExactFirstFitUptoCardSaid : Prop := Claim7.holds Tryz.pinned (.plain (OpenSpec.upto fnExactFirstFitSpec)) fnExactFirstFitUptoCard

/-- THE SECOND FORM's CARD OF 'laws.FnExactPackWay'. -/
def fnExactPackWayUptoCard : Claim7 := { stood := { row := fnExactPackWayUptoRow, standIns := [], harness := (true, "4b440a95aa8604c895556069bbcd08756a88f5abbcc2586f2b6e15a00f910516"), looks := true }, kinds := [], alts := [], laidByText := true, laidKinds := [.handle], laidTests := true, laidLooks := .later }
def FnExactPackWayUptoCardSaid : Prop := Claim7.holds Tryz.pinned (.plain (OpenSpec.upto fnExactPackWaySpec)) fnExactPackWayUptoCard

/-- THE SECOND FORM's CARD OF 'laws.FnExactLowerVolume'. -/
def fnExactLowerVolumeUptoCard : Claim7 := { stood := { row := fnExactLowerVolumeUptoRow, standIns := [], harness := (true, "4b440a95aa8604c895556069bbcd08756a88f5abbcc2586f2b6e15a00f910516"), looks := true }, kinds := [], alts := [], laidByText := true, laidKinds := [.handle], laidTests := true, laidLooks := .later }
def FnExactLowerVolumeUptoCardSaid : Prop := Claim7.holds Tryz.pinned (.plain (OpenSpec.upto fnExactLowerVolumeSpec)) fnExactLowerVolumeUptoCard

/-- THE SECOND FORM's CARD OF 'laws.FnExactLowerGram'. -/
def fnExactLowerGramUptoCard : Claim7 := { stood := { row := fnExactLowerGramUptoRow, standIns := [], harness := (true, "4b440a95aa8604c895556069bbcd08756a88f5abbcc2586f2b6e15a00f910516"), looks := true }, kinds := [], alts := [], laidByText := true, laidKinds := [.handle], laidTests := true, laidLooks := .later }
def FnExactLowerGramUptoCardSaid : Prop := Claim7.holds Tryz.pinned (.plain (OpenSpec.upto fnExactLowerGramSpec)) fnExactLowerGramUptoCard

/-- THE SECOND FORM's CARD OF 'laws.FnExactLowerGreat'. -/
def fnExactLowerGreatUptoCard : Claim7 := { stood := { row := fnExactLowerGreatUptoRow, standIns := [], harness := (true, "4b440a95aa8604c895556069bbcd08756a88f5abbcc2586f2b6e15a00f910516"), looks := true }, kinds := [], alts := [], laidByText := true, laidKinds := [.handle], laidTests := true, laidLooks := .later }
def FnExactLowerGreatUptoCardSaid : Prop := Claim7.holds Tryz.pinned (.plain (OpenSpec.upto fnExactLowerGreatSpec)) fnExactLowerGreatUptoCard

/-- THE SECOND FORM's CARD OF 'laws.FnExactLower'. -/
def fnExactLowerUptoCard : Claim7 := { stood := { row := fnExactLowerUptoRow, standIns := [], harness := (true, "4b440a95aa8604c895556069bbcd08756a88f5abbcc2586f2b6e15a00f910516"), looks := true }, kinds := [], alts := [], laidByText := true, laidKinds := [.handle], laidTests := true, laidLooks := .later }
def FnExactLowerUptoCardSaid : Prop := Claim7.holds Tryz.pinned (.plain (OpenSpec.upto fnExactLowerSpec)) fnExactLowerUptoCard
end Rows
end Go.Proofs.YtdmaldjnjffnlaaGreatDoor
