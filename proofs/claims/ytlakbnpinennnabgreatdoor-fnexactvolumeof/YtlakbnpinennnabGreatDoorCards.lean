/-
  DERIVED. GIVEN WITH THE SEED: THE CARDS: each row of YtlakbnpinennnabGreatDoorRows.lean that lists a variable, with what it lists TIED to the program's text (the seventh form; the later family's looks); each row that meets fmt, with fmt's text TOLD by the authors' own Lean function (tested against real Go, not proved from fmt's source: count such statements apart). THE CARD IS WHAT COUNTS. Prove the row's statement (the work); the ties are given (YtlakbnpinennnabGreatDoorTie.lean); close each card by the builder's one call (the guide's Derived/Test/ToyasCard.lean, 'card_holds'). Laid BY PROGRAM, IN A SANDBOX (cutbox-door.mjs). By AI agents, Wed Nov 11 2026. No macro, syntax, notation, axiom, sorry.
-/
import Derived.Test.YtlakbnpinennnabGreatDoorRows
import GoSem.ClaimSeven
namespace Go.Proofs.YtlakbnpinennnabGreatDoor
namespace Rows

/-- THE TIED CARD OF 'laws.FnExactVolumeOf'. -/
def fnExactVolumeOfCard : Claim7 := { stood := { row := fnExactVolumeOfRow, standIns := [], harness := (true, "4cf05c63b468a0d9c9e883419aa448f2bdad8c3691a6dbaf339e2e07a6484e2a"), looks := true }, kinds := [], alts := [], laidByText := true, laidKinds := [.handle], laidTests := true, laidLooks := .later }
def FnExactVolumeOfCardSaid : Prop := Claim7.holds Tryz.pinned (.plain (OpenSpec.ofChange fnExactVolumeOfSpec)) fnExactVolumeOfCard

/-- THE TIED CARD OF 'laws.FnExactGramOf'. -/
def fnExactGramOfCard : Claim7 := { stood := { row := fnExactGramOfRow, standIns := [], harness := (true, "4cf05c63b468a0d9c9e883419aa448f2bdad8c3691a6dbaf339e2e07a6484e2a"), looks := true }, kinds := [], alts := [], laidByText := true, laidKinds := [.handle], laidTests := true, laidLooks := .later }
def FnExactGramOfCardSaid : Prop := Claim7.holds Tryz.pinned (.plain (OpenSpec.ofChange fnExactGramOfSpec)) fnExactGramOfCard

/-- THE SECOND FORM's CARD OF 'laws.FnExactVolumeOf'. -/
def fnExactVolumeOfUptoCard : Claim7 := { stood := { row := fnExactVolumeOfUptoRow, standIns := [], harness := (true, "4cf05c63b468a0d9c9e883419aa448f2bdad8c3691a6dbaf339e2e07a6484e2a"), looks := true }, kinds := [], alts := [], laidByText := true, laidKinds := [.handle], laidTests := true, laidLooks := .later }
def FnExactVolumeOfUptoCardSaid : Prop := Claim7.holds Tryz.pinned (.plain (OpenSpec.upto fnExactVolumeOfSpec)) fnExactVolumeOfUptoCard

/-- THE SECOND FORM's CARD OF 'laws.FnExactGramOf'. -/
def fnExactGramOfUptoCard : Claim7 := { stood := { row := fnExactGramOfUptoRow, standIns := [], harness := (true, "4cf05c63b468a0d9c9e883419aa448f2bdad8c3691a6dbaf339e2e07a6484e2a"), looks := true }, kinds := [], alts := [], laidByText := true, laidKinds := [.handle], laidTests := true, laidLooks := .later }
def FnExactGramOfUptoCardSaid : Prop := Claim7.holds Tryz.pinned (.plain (OpenSpec.upto fnExactGramOfSpec)) fnExactGramOfUptoCard
end Rows
end Go.Proofs.YtlakbnpinennnabGreatDoor
