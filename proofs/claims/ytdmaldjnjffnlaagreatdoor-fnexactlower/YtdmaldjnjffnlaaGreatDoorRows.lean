/-
  NARROWER THAN 'FOR EVERY INPUT', by the rows' own cells (each row's printed sentence says how): FnExactFirstFit: laid · FnExactPackWay: laid · FnExactLowerVolume: laid · FnExactLowerGram: laid · FnExactLowerGreat: laid · FnExactLower: laid.
  DERIVED. THE GIVEN ROWS OF THIS SEAT. 6 by the template 'for every input the law returns true; each argument reads behind the call as it read before'; 0 by the template 'total and deterministic' (their statements: YtdmaldjnjffnlaaGreatDoorTotals.lean).
  GIVEN WITH THE SEED: the statements are not yours to turn. If you find one false, say at which input.
  Laid BY PROGRAM, IN A SANDBOX (cutbox-rows.mjs): the forced cells as the released guide's own fill.sh prints them over the translation ea030b52bac722d1… (all of the seat's roots in one cut). By AI agents, Wed Nov 11 2026. No macro, syntax, notation, axiom, sorry.
-/
import Derived.Test.YtdmaldjnjffnlaaGreatDoorChecked
import GoSem.Claim
import GoSem.ClaimJoined
import GoSem.ClaimMapViews
import Derived.JoinedTies
import Derived.KernelRfl
namespace Go.Proofs.YtdmaldjnjffnlaaGreatDoor
/- THE CELL 'sum', in the pinned program and in every row, IS THE sha256 OF THE DUMP (.gsa) THAT YtdmaldjnjffnlaaGreatDoorProg.lean LOADS. Nothing in Lean hashes anything: it is a label: what it is worth is what the hold of that sum in a sandbox is worth. -/
noncomputable def Tryz.pinned : Pinned := { name := "ytdmaldjnjffnlaagreatdoor", sum := "ea030b52bac722d1aafd97e360568e1f1dc52c55924cf03abf2c84705227436a", checked := Tryz.checked }
namespace Rows
def none {H : Type} : Left H := { results := [], args := [] }

/- WHAT THE LISTED PACKAGE-LEVEL VARIABLES READ AS WHEN THE CALL BEGINS. Each datum BY PROGRAM (the guide's laid-datum.mjs) off the statement by which the dump's own 'gosem.cut.vars' lays the variable. In a bare row this is a premise. The card (YtdmaldjnjffnlaaGreatDoorCards.lean) ties it to the program's text. -/
def laid_errors_errorType {H : Type} : DataW H := .iface "internal/reflectlite.rtype" (.agg [.ptr (.lit (.string [101, 114, 114, 111, 114]))])

/-- 'laws.FnExactFirstFit': WHATEVER THE INPUT: true; the input reads as it did. -/
def fnExactFirstFitSpec : ChangeSpec := { name := "fnExactFirstFit", fn := fun _ => fun
  | [d1, d2] => { results := [.lit (.bool true)], args := [d1, d2] }
  | _ => none }
def fnExactFirstFitRow : OpenClaim := { program := "ytdmaldjnjffnlaagreatdoor", sum := "ea030b52bac722d1aafd97e360568e1f1dc52c55924cf03abf2c84705227436a", func := "loop.example/g00489/laws.FnExactFirstFit", spec := "fnExactFirstFit", inPlace := ["internal/reflectlite.ValueOf", "(internal/reflectlite.Value).Type", "(internal/reflectlite.Value).IsNil", "internal/reflectlite.TypeOf", "(internal/reflectlite.Value).Elem", "(internal/reflectlite.Value).Set"], unfollowed := true, recurses := true, named := ["errors.errorType"], apart := false, laid := [("errors.errorType", laid_errors_errorType)] }
def FnExactFirstFitSaid : Prop := fnExactFirstFitRow.holds Tryz.pinned (OpenSpec.ofChange fnExactFirstFitSpec)

/-- ITS FALSE NEIGHBOUR: 'it returns false'. Refute it at one input. -/
def fnExactFirstFitWrong : ChangeSpec := { name := "fnExactFirstFit", fn := fun _ => fun
  | [d1, d2] => { results := [.lit (.bool false)], args := [d1, d2] }
  | _ => none }
def FnExactFirstFitWrongFalsely : Prop := fnExactFirstFitRow.holds Tryz.pinned (OpenSpec.ofChange fnExactFirstFitWrong)

/-- 'laws.FnExactPackWay': WHATEVER THE INPUT: true; the input reads as it did. -/
def fnExactPackWaySpec : ChangeSpec := { name := "fnExactPackWay", fn := fun _ => fun
  | [d1, d2] => { results := [.lit (.bool true)], args := [d1, d2] }
  | _ => none }
def fnExactPackWayRow : OpenClaim := { program := "ytdmaldjnjffnlaagreatdoor", sum := "ea030b52bac722d1aafd97e360568e1f1dc52c55924cf03abf2c84705227436a", func := "loop.example/g00489/laws.FnExactPackWay", spec := "fnExactPackWay", inPlace := ["internal/reflectlite.ValueOf", "(internal/reflectlite.Value).Type", "(internal/reflectlite.Value).IsNil", "internal/reflectlite.TypeOf", "(internal/reflectlite.Value).Elem", "(internal/reflectlite.Value).Set"], unfollowed := true, recurses := true, named := ["errors.errorType"], apart := false, laid := [("errors.errorType", laid_errors_errorType)] }
def FnExactPackWaySaid : Prop := fnExactPackWayRow.holds Tryz.pinned (OpenSpec.ofChange fnExactPackWaySpec)

/-- ITS FALSE NEIGHBOUR: 'it returns false'. Refute it at one input. -/
def fnExactPackWayWrong : ChangeSpec := { name := "fnExactPackWay", fn := fun _ => fun
  | [d1, d2] => { results := [.lit (.bool false)], args := [d1, d2] }
  | _ => none }
def FnExactPackWayWrongFalsely : Prop := fnExactPackWayRow.holds Tryz.pinned (OpenSpec.ofChange fnExactPackWayWrong)

/-- 'laws.FnExactLowerVolume': WHATEVER THE INPUT: true; the input reads as it did. -/
def fnExactLowerVolumeSpec : ChangeSpec := { name := "fnExactLowerVolume", fn := fun _ => fun
  | [d1, d2] => { results := [.lit (.bool true)], args := [d1, d2] }
  | _ => none }
def fnExactLowerVolumeRow : OpenClaim := { program := "ytdmaldjnjffnlaagreatdoor", sum := "ea030b52bac722d1aafd97e360568e1f1dc52c55924cf03abf2c84705227436a", func := "loop.example/g00489/laws.FnExactLowerVolume", spec := "fnExactLowerVolume", inPlace := ["internal/reflectlite.ValueOf", "(internal/reflectlite.Value).Type", "(internal/reflectlite.Value).IsNil", "internal/reflectlite.TypeOf", "(internal/reflectlite.Value).Elem", "(internal/reflectlite.Value).Set"], unfollowed := true, recurses := true, named := ["errors.errorType"], apart := false, laid := [("errors.errorType", laid_errors_errorType)] }
def FnExactLowerVolumeSaid : Prop := fnExactLowerVolumeRow.holds Tryz.pinned (OpenSpec.ofChange fnExactLowerVolumeSpec)

/-- ITS FALSE NEIGHBOUR: 'it returns false'. Refute it at one input. -/
def fnExactLowerVolumeWrong : ChangeSpec := { name := "fnExactLowerVolume", fn := fun _ => fun
  | [d1, d2] => { results := [.lit (.bool false)], args := [d1, d2] }
  | _ => none }
def FnExactLowerVolumeWrongFalsely : Prop := fnExactLowerVolumeRow.holds Tryz.pinned (OpenSpec.ofChange fnExactLowerVolumeWrong)

/-- 'laws.FnExactLowerGram': WHATEVER THE INPUT: true; the input reads as it did. -/
def fnExactLowerGramSpec : ChangeSpec := { name := "fnExactLowerGram", fn := fun _ => fun
  | [d1, d2] => { results := [.lit (.bool true)], args := [d1, d2] }
  | _ => none }
def fnExactLowerGramRow : OpenClaim := { program := "ytdmaldjnjffnlaagreatdoor", sum := "ea030b52bac722d1aafd97e360568e1f1dc52c55924cf03abf2c84705227436a", func := "loop.example/g00489/laws.FnExactLowerGram", spec := "fnExactLowerGram", inPlace := ["internal/reflectlite.ValueOf", "(internal/reflectlite.Value).Type", "(internal/reflectlite.Value).IsNil", "internal/reflectlite.TypeOf", "(internal/reflectlite.Value).Elem", "(internal/reflectlite.Value).Set"], unfollowed := true, recurses := true, named := ["errors.errorType"], apart := false, laid := [("errors.errorType", laid_errors_errorType)] }
def FnExactLowerGramSaid : Prop := fnExactLowerGramRow.holds Tryz.pinned (OpenSpec.ofChange fnExactLowerGramSpec)

/-- ITS FALSE NEIGHBOUR: 'it returns false'. Refute it at one input. -/
def fnExactLowerGramWrong : ChangeSpec := { name := "fnExactLowerGram", fn := fun _ => fun
  | [d1, d2] => { results := [.lit (.bool false)], args := [d1, d2] }
  | _ => none }
def FnExactLowerGramWrongFalsely : Prop := fnExactLowerGramRow.holds Tryz.pinned (OpenSpec.ofChange fnExactLowerGramWrong)

/-- 'laws.FnExactLowerGreat': WHATEVER THE INPUT: true; the input reads as it did. -/
def fnExactLowerGreatSpec : ChangeSpec := { name := "fnExactLowerGreat", fn := fun _ => fun
  | [d1, d2] => { results := [.lit (.bool true)], args := [d1, d2] }
  | _ => none }
def fnExactLowerGreatRow : OpenClaim := { program := "ytdmaldjnjffnlaagreatdoor", sum := "ea030b52bac722d1aafd97e360568e1f1dc52c55924cf03abf2c84705227436a", func := "loop.example/g00489/laws.FnExactLowerGreat", spec := "fnExactLowerGreat", inPlace := ["internal/reflectlite.ValueOf", "(internal/reflectlite.Value).Type", "(internal/reflectlite.Value).IsNil", "internal/reflectlite.TypeOf", "(internal/reflectlite.Value).Elem", "(internal/reflectlite.Value).Set"], unfollowed := true, recurses := true, named := ["errors.errorType"], apart := false, laid := [("errors.errorType", laid_errors_errorType)] }
def FnExactLowerGreatSaid : Prop := fnExactLowerGreatRow.holds Tryz.pinned (OpenSpec.ofChange fnExactLowerGreatSpec)

/-- ITS FALSE NEIGHBOUR: 'it returns false'. Refute it at one input. -/
def fnExactLowerGreatWrong : ChangeSpec := { name := "fnExactLowerGreat", fn := fun _ => fun
  | [d1, d2] => { results := [.lit (.bool false)], args := [d1, d2] }
  | _ => none }
def FnExactLowerGreatWrongFalsely : Prop := fnExactLowerGreatRow.holds Tryz.pinned (OpenSpec.ofChange fnExactLowerGreatWrong)

/-- 'laws.FnExactLower': WHATEVER THE INPUT: true; the input reads as it did. -/
def fnExactLowerSpec : ChangeSpec := { name := "fnExactLower", fn := fun _ => fun
  | [d1, d2] => { results := [.lit (.bool true)], args := [d1, d2] }
  | _ => none }
def fnExactLowerRow : OpenClaim := { program := "ytdmaldjnjffnlaagreatdoor", sum := "ea030b52bac722d1aafd97e360568e1f1dc52c55924cf03abf2c84705227436a", func := "loop.example/g00489/laws.FnExactLower", spec := "fnExactLower", inPlace := ["internal/reflectlite.ValueOf", "(internal/reflectlite.Value).Type", "(internal/reflectlite.Value).IsNil", "internal/reflectlite.TypeOf", "(internal/reflectlite.Value).Elem", "(internal/reflectlite.Value).Set"], unfollowed := true, recurses := true, named := ["errors.errorType"], apart := false, laid := [("errors.errorType", laid_errors_errorType)] }
def FnExactLowerSaid : Prop := fnExactLowerRow.holds Tryz.pinned (OpenSpec.ofChange fnExactLowerSpec)

/-- ITS FALSE NEIGHBOUR: 'it returns false'. Refute it at one input. -/
def fnExactLowerWrong : ChangeSpec := { name := "fnExactLower", fn := fun _ => fun
  | [d1, d2] => { results := [.lit (.bool false)], args := [d1, d2] }
  | _ => none }
def FnExactLowerWrongFalsely : Prop := fnExactLowerRow.holds Tryz.pinned (OpenSpec.ofChange fnExactLowerWrong)

/- THE SECOND FORM. 'bulk': how many values and letters a reading holds, each counted each time it is reached (what is shared counts as often as it is met; a slice's spare places count too). A statement '..UptoSaid' is the law's where the arguments, and the package variables that the reading takes, are together of bulk at most 1048576: NARROWER than '..Said'. Prove '..Said' where nothing that the law and all that it calls make is longer than what came in: it says more and counts as full. Else prove '..UptoSaid'. A law counts once. -/
mutual
def uptoBulk {H : Type} : DataW H → Nat
  | .lit (.string bytes) => bytes.length + 1
  | .lit _ => 1
  | .nil => 1
  | .ptr d => uptoBulk d + 1
  | .slice elems spare => uptoBulkAll elems + uptoBulkAll spare + 1
  | .agg parts => uptoBulkAll parts + 1
  | .iface _ d => uptoBulk d + 1
  | .map entries => uptoBulkEntries entries + 1
  | .held _ => 1
def uptoBulkAll {H : Type} : List (DataW H) → Nat
  | [] => 0
  | d :: r => uptoBulk d + uptoBulkAll r
def uptoBulkEntries {H : Type} : List (Lit × DataW H) → Nat
  | [] => 0
  | x :: r => uptoBulkEntry x + uptoBulkEntries r
def uptoBulkEntry {H : Type} : Lit × DataW H → Nat
  | (.string bytes, d) => bytes.length + uptoBulk d + 1
  | (_, d) => uptoBulk d + 1
 end
def uptoSmall : (H : Type) → List (DataW H) → Bool := fun _ ds => decide (uptoBulkAll ds ≤ 1048576)
def OpenSpec.upto (s : _root_.Go.ChangeSpec) : _root_.Go.OpenSpec := { _root_.Go.OpenSpec.ofChange s with cond := some uptoSmall }

/-- 'laws.FnExactFirstFit', WHERE WHAT IT READS IS OF BULK AT MOST 1048576: true; the input reads as it did. -/
def fnExactFirstFitUptoRow : OpenClaim := { program := "ytdmaldjnjffnlaagreatdoor", sum := "ea030b52bac722d1aafd97e360568e1f1dc52c55924cf03abf2c84705227436a", func := "loop.example/g00489/laws.FnExactFirstFit", spec := "fnExactFirstFit", inPlace := ["internal/reflectlite.ValueOf", "(internal/reflectlite.Value).Type", "(internal/reflectlite.Value).IsNil", "internal/reflectlite.TypeOf", "(internal/reflectlite.Value).Elem", "(internal/reflectlite.Value).Set"], unfollowed := true, recurses := true, named := ["errors.errorType"], apart := false, laid := [("errors.errorType", laid_errors_errorType)], narrowed := true }
def FnExactFirstFitUptoSaid : Prop := fnExactFirstFitUptoRow.holds Tryz.pinned (OpenSpec.upto fnExactFirstFitSpec)

/-- 'laws.FnExactPackWay', WHERE WHAT IT READS IS OF BULK AT MOST 1048576: true; the input reads as it did. -/
def fnExactPackWayUptoRow : OpenClaim := { program := "ytdmaldjnjffnlaagreatdoor", sum := "ea030b52bac722d1aafd97e360568e1f1dc52c55924cf03abf2c84705227436a", func := "loop.example/g00489/laws.FnExactPackWay", spec := "fnExactPackWay", inPlace := ["internal/reflectlite.ValueOf", "(internal/reflectlite.Value).Type", "(internal/reflectlite.Value).IsNil", "internal/reflectlite.TypeOf", "(internal/reflectlite.Value).Elem", "(internal/reflectlite.Value).Set"], unfollowed := true, recurses := true, named := ["errors.errorType"], apart := false, laid := [("errors.errorType", laid_errors_errorType)], narrowed := true }
def FnExactPackWayUptoSaid : Prop := fnExactPackWayUptoRow.holds Tryz.pinned (OpenSpec.upto fnExactPackWaySpec)

/-- 'laws.FnExactLowerVolume', WHERE WHAT IT READS IS OF BULK AT MOST 1048576: true; the input reads as it did. -/
def fnExactLowerVolumeUptoRow : OpenClaim := { program := "ytdmaldjnjffnlaagreatdoor", sum := "ea030b52bac722d1aafd97e360568e1f1dc52c55924cf03abf2c84705227436a", func := "loop.example/g00489/laws.FnExactLowerVolume", spec := "fnExactLowerVolume", inPlace := ["internal/reflectlite.ValueOf", "(internal/reflectlite.Value).Type", "(internal/reflectlite.Value).IsNil", "internal/reflectlite.TypeOf", "(internal/reflectlite.Value).Elem", "(internal/reflectlite.Value).Set"], unfollowed := true, recurses := true, named := ["errors.errorType"], apart := false, laid := [("errors.errorType", laid_errors_errorType)], narrowed := true }
def FnExactLowerVolumeUptoSaid : Prop := fnExactLowerVolumeUptoRow.holds Tryz.pinned (OpenSpec.upto fnExactLowerVolumeSpec)

/-- 'laws.FnExactLowerGram', WHERE WHAT IT READS IS OF BULK AT MOST 1048576: true; the input reads as it did. -/
def fnExactLowerGramUptoRow : OpenClaim := { program := "ytdmaldjnjffnlaagreatdoor", sum := "ea030b52bac722d1aafd97e360568e1f1dc52c55924cf03abf2c84705227436a", func := "loop.example/g00489/laws.FnExactLowerGram", spec := "fnExactLowerGram", inPlace := ["internal/reflectlite.ValueOf", "(internal/reflectlite.Value).Type", "(internal/reflectlite.Value).IsNil", "internal/reflectlite.TypeOf", "(internal/reflectlite.Value).Elem", "(internal/reflectlite.Value).Set"], unfollowed := true, recurses := true, named := ["errors.errorType"], apart := false, laid := [("errors.errorType", laid_errors_errorType)], narrowed := true }
def FnExactLowerGramUptoSaid : Prop := fnExactLowerGramUptoRow.holds Tryz.pinned (OpenSpec.upto fnExactLowerGramSpec)

/-- 'laws.FnExactLowerGreat', WHERE WHAT IT READS IS OF BULK AT MOST 1048576: true; the input reads as it did. -/
def fnExactLowerGreatUptoRow : OpenClaim := { program := "ytdmaldjnjffnlaagreatdoor", sum := "ea030b52bac722d1aafd97e360568e1f1dc52c55924cf03abf2c84705227436a", func := "loop.example/g00489/laws.FnExactLowerGreat", spec := "fnExactLowerGreat", inPlace := ["internal/reflectlite.ValueOf", "(internal/reflectlite.Value).Type", "(internal/reflectlite.Value).IsNil", "internal/reflectlite.TypeOf", "(internal/reflectlite.Value).Elem", "(internal/reflectlite.Value).Set"], unfollowed := true, recurses := true, named := ["errors.errorType"], apart := false, laid := [("errors.errorType", laid_errors_errorType)], narrowed := true }
def FnExactLowerGreatUptoSaid : Prop := fnExactLowerGreatUptoRow.holds Tryz.pinned (OpenSpec.upto fnExactLowerGreatSpec)

/-- 'laws.FnExactLower', WHERE WHAT IT READS IS OF BULK AT MOST 1048576: true; the input reads as it did. -/
def fnExactLowerUptoRow : OpenClaim := { program := "ytdmaldjnjffnlaagreatdoor", sum := "ea030b52bac722d1aafd97e360568e1f1dc52c55924cf03abf2c84705227436a", func := "loop.example/g00489/laws.FnExactLower", spec := "fnExactLower", inPlace := ["internal/reflectlite.ValueOf", "(internal/reflectlite.Value).Type", "(internal/reflectlite.Value).IsNil", "internal/reflectlite.TypeOf", "(internal/reflectlite.Value).Elem", "(internal/reflectlite.Value).Set"], unfollowed := true, recurses := true, named := ["errors.errorType"], apart := false, laid := [("errors.errorType", laid_errors_errorType)], narrowed := true }
def FnExactLowerUptoSaid : Prop := fnExactLowerUptoRow.holds Tryz.pinned (OpenSpec.upto fnExactLowerSpec)

end Rows
end Go.Proofs.YtdmaldjnjffnlaaGreatDoor
