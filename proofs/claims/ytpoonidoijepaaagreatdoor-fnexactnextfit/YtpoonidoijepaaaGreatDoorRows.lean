/-
  NARROWER THAN 'FOR EVERY INPUT', by the rows' own cells (each row's printed sentence says how): FnNoRoom: laid · FnRoomLess: laid · FnExactRoom: laid · FnExactNextFit: laid · FnExactFirstFit: laid · FnExactPackWay: laid.
  DERIVED. THE GIVEN ROWS OF THIS SEAT. 6 by the template 'for every input the law returns true; each argument reads behind the call as it read before'; 0 by the template 'total and deterministic' (their statements: YtpoonidoijepaaaGreatDoorTotals.lean).
  GIVEN WITH THE SEED: the statements are not yours to turn. If you find one false, say at which input.
  Laid BY PROGRAM, IN A SANDBOX (cutbox-rows.mjs): the forced cells as the released guide's own fill.sh prints them over the translation d1a3ed7bb280b482… (all of the seat's roots in one cut). By AI agents, Wed Nov 11 2026. No macro, syntax, notation, axiom, sorry.
-/
import Derived.Test.YtpoonidoijepaaaGreatDoorChecked
import GoSem.Claim
import GoSem.ClaimJoined
import GoSem.ClaimMapViews
import Derived.JoinedTies
import Derived.KernelRfl
namespace Go.Proofs.YtpoonidoijepaaaGreatDoor
/- THE CELL 'sum', in the pinned program and in every row, IS THE sha256 OF THE DUMP (.gsa) THAT YtpoonidoijepaaaGreatDoorProg.lean LOADS. Nothing in Lean hashes anything: it is a label: what it is worth is what the hold of that sum in a sandbox is worth. -/
noncomputable def Tryz.pinned : Pinned := { name := "ytpoonidoijepaaagreatdoor", sum := "d1a3ed7bb280b48289da9682fb1868ed994cf00c6d67fef8adf8620260af2646", checked := Tryz.checked }
namespace Rows
def none {H : Type} : Left H := { results := [], args := [] }

/- WHAT THE LISTED PACKAGE-LEVEL VARIABLES READ AS WHEN THE CALL BEGINS. Each datum BY PROGRAM (the guide's laid-datum.mjs) off the statement by which the dump's own 'gosem.cut.vars' lays the variable. In a bare row this is a premise. The card (YtpoonidoijepaaaGreatDoorCards.lean) ties it to the program's text. -/
def laid_errors_errorType {H : Type} : DataW H := .iface "internal/reflectlite.rtype" (.agg [.ptr (.lit (.string [101, 114, 114, 111, 114]))])

/-- 'laws.FnNoRoom': WHATEVER THE INPUT: true; the input reads as it did. -/
def fnNoRoomSpec : ChangeSpec := { name := "fnNoRoom", fn := fun _ => fun
  | [d] => { results := [.lit (.bool true)], args := [d] }
  | _ => none }
def fnNoRoomRow : OpenClaim := { program := "ytpoonidoijepaaagreatdoor", sum := "d1a3ed7bb280b48289da9682fb1868ed994cf00c6d67fef8adf8620260af2646", func := "loop.example/g00489/laws.FnNoRoom", spec := "fnNoRoom", inPlace := ["internal/reflectlite.ValueOf", "(internal/reflectlite.Value).Type", "(internal/reflectlite.Value).IsNil", "internal/reflectlite.TypeOf", "(internal/reflectlite.Value).Elem", "(internal/reflectlite.Value).Set"], unfollowed := true, recurses := true, named := ["errors.errorType"], apart := false, laid := [("errors.errorType", laid_errors_errorType)] }
def FnNoRoomSaid : Prop := fnNoRoomRow.holds Tryz.pinned (OpenSpec.ofChange fnNoRoomSpec)

/-- ITS FALSE NEIGHBOUR: 'it returns false'. Refute it at one input. -/
def fnNoRoomWrong : ChangeSpec := { name := "fnNoRoom", fn := fun _ => fun
  | [d] => { results := [.lit (.bool false)], args := [d] }
  | _ => none }
def FnNoRoomWrongFalsely : Prop := fnNoRoomRow.holds Tryz.pinned (OpenSpec.ofChange fnNoRoomWrong)

/-- 'laws.FnRoomLess': WHATEVER THE INPUT: true; the input reads as it did. -/
def fnRoomLessSpec : ChangeSpec := { name := "fnRoomLess", fn := fun _ => fun
  | [d] => { results := [.lit (.bool true)], args := [d] }
  | _ => none }
def fnRoomLessRow : OpenClaim := { program := "ytpoonidoijepaaagreatdoor", sum := "d1a3ed7bb280b48289da9682fb1868ed994cf00c6d67fef8adf8620260af2646", func := "loop.example/g00489/laws.FnRoomLess", spec := "fnRoomLess", inPlace := ["internal/reflectlite.ValueOf", "(internal/reflectlite.Value).Type", "(internal/reflectlite.Value).IsNil", "internal/reflectlite.TypeOf", "(internal/reflectlite.Value).Elem", "(internal/reflectlite.Value).Set"], unfollowed := true, recurses := true, named := ["errors.errorType"], apart := false, laid := [("errors.errorType", laid_errors_errorType)] }
def FnRoomLessSaid : Prop := fnRoomLessRow.holds Tryz.pinned (OpenSpec.ofChange fnRoomLessSpec)

/-- ITS FALSE NEIGHBOUR: 'it returns false'. Refute it at one input. -/
def fnRoomLessWrong : ChangeSpec := { name := "fnRoomLess", fn := fun _ => fun
  | [d] => { results := [.lit (.bool false)], args := [d] }
  | _ => none }
def FnRoomLessWrongFalsely : Prop := fnRoomLessRow.holds Tryz.pinned (OpenSpec.ofChange fnRoomLessWrong)

/-- 'laws.FnExactRoom': WHATEVER THE INPUT: true; the input reads as it did. -/
def fnExactRoomSpec : ChangeSpec := { name := "fnExactRoom", fn := fun _ => fun
  | [d1, d2, d3] => { results := [.lit (.bool true)], args := [d1, d2, d3] }
  | _ => none }
def fnExactRoomRow : OpenClaim := { program := "ytpoonidoijepaaagreatdoor", sum := "d1a3ed7bb280b48289da9682fb1868ed994cf00c6d67fef8adf8620260af2646", func := "loop.example/g00489/laws.FnExactRoom", spec := "fnExactRoom", inPlace := ["internal/reflectlite.ValueOf", "(internal/reflectlite.Value).Type", "(internal/reflectlite.Value).IsNil", "internal/reflectlite.TypeOf", "(internal/reflectlite.Value).Elem", "(internal/reflectlite.Value).Set"], unfollowed := true, recurses := true, named := ["errors.errorType"], apart := false, laid := [("errors.errorType", laid_errors_errorType)] }
def FnExactRoomSaid : Prop := fnExactRoomRow.holds Tryz.pinned (OpenSpec.ofChange fnExactRoomSpec)

/-- ITS FALSE NEIGHBOUR: 'it returns false'. Refute it at one input. -/
def fnExactRoomWrong : ChangeSpec := { name := "fnExactRoom", fn := fun _ => fun
  | [d1, d2, d3] => { results := [.lit (.bool false)], args := [d1, d2, d3] }
  | _ => none }
def FnExactRoomWrongFalsely : Prop := fnExactRoomRow.holds Tryz.pinned (OpenSpec.ofChange fnExactRoomWrong)

/-- 'laws.FnExactNextFit': WHATEVER THE INPUT: true; the input reads as it did. -/
def fnExactNextFitSpec : ChangeSpec := { name := "fnExactNextFit", fn := fun _ => fun
  | [d1, d2] => { results := [.lit (.bool true)], args := [d1, d2] }
  | _ => none }
def fnExactNextFitRow : OpenClaim := { program := "ytpoonidoijepaaagreatdoor", sum := "d1a3ed7bb280b48289da9682fb1868ed994cf00c6d67fef8adf8620260af2646", func := "loop.example/g00489/laws.FnExactNextFit", spec := "fnExactNextFit", inPlace := ["internal/reflectlite.ValueOf", "(internal/reflectlite.Value).Type", "(internal/reflectlite.Value).IsNil", "internal/reflectlite.TypeOf", "(internal/reflectlite.Value).Elem", "(internal/reflectlite.Value).Set"], unfollowed := true, recurses := true, named := ["errors.errorType"], apart := false, laid := [("errors.errorType", laid_errors_errorType)] }
def FnExactNextFitSaid : Prop := fnExactNextFitRow.holds Tryz.pinned (OpenSpec.ofChange fnExactNextFitSpec)

/-- ITS FALSE NEIGHBOUR: 'it returns false'. Refute it at one input. -/
def fnExactNextFitWrong : ChangeSpec := { name := "fnExactNextFit", fn := fun _ => fun
  | [d1, d2] => { results := [.lit (.bool false)], args := [d1, d2] }
  | _ => none }
def FnExactNextFitWrongFalsely : Prop := fnExactNextFitRow.holds Tryz.pinned (OpenSpec.ofChange fnExactNextFitWrong)

/-- 'laws.FnExactFirstFit': WHATEVER THE INPUT: true; the input reads as it did. -/
def fnExactFirstFitSpec : ChangeSpec := { name := "fnExactFirstFit", fn := fun _ => fun
  | [d1, d2] => { results := [.lit (.bool true)], args := [d1, d2] }
  | _ => none }
def fnExactFirstFitRow : OpenClaim := { program := "ytpoonidoijepaaagreatdoor", sum := "d1a3ed7bb280b48289da9682fb1868ed994cf00c6d67fef8adf8620260af2646", func := "loop.example/g00489/laws.FnExactFirstFit", spec := "fnExactFirstFit", inPlace := ["internal/reflectlite.ValueOf", "(internal/reflectlite.Value).Type", "(internal/reflectlite.Value).IsNil", "internal/reflectlite.TypeOf", "(internal/reflectlite.Value).Elem", "(internal/reflectlite.Value).Set"], unfollowed := true, recurses := true, named := ["errors.errorType"], apart := false, laid := [("errors.errorType", laid_errors_errorType)] }
def FnExactFirstFitSaid : Prop := fnExactFirstFitRow.holds Tryz.pinned (OpenSpec.ofChange fnExactFirstFitSpec)

/-- ITS FALSE NEIGHBOUR: 'it returns false'. Refute it at one input. -/
def fnExactFirstFitWrong : ChangeSpec := { name := "fnExactFirstFit", fn := fun _ => fun
  | [d1, d2] => { results := [.lit (.bool false)], args := [d1, d2] }
  | _ => none }
def FnExactFirstFitWrongFalsely : Prop := fnExactFirstFitRow.holds Tryz.pinned (OpenSpec.ofChange fnExactFirstFitWrong)

/-- 'laws.FnExactPackWay': WHATEVER THE INPUT: true; the input reads as it did. -/
def fnExactPackWaySpec : ChangeSpec := { name := "fnExactPackWay", fn := fun _ => fun
  | [d1, d2] => { results := [.lit (.bool true)], args := [d1, d2] }
  | _ => none }
def fnExactPackWayRow : OpenClaim := { program := "ytpoonidoijepaaagreatdoor", sum := "d1a3ed7bb280b48289da9682fb1868ed994cf00c6d67fef8adf8620260af2646", func := "loop.example/g00489/laws.FnExactPackWay", spec := "fnExactPackWay", inPlace := ["internal/reflectlite.ValueOf", "(internal/reflectlite.Value).Type", "(internal/reflectlite.Value).IsNil", "internal/reflectlite.TypeOf", "(internal/reflectlite.Value).Elem", "(internal/reflectlite.Value).Set"], unfollowed := true, recurses := true, named := ["errors.errorType"], apart := false, laid := [("errors.errorType", laid_errors_errorType)] }
def FnExactPackWaySaid : Prop := fnExactPackWayRow.holds Tryz.pinned (OpenSpec.ofChange fnExactPackWaySpec)

/-- ITS FALSE NEIGHBOUR: 'it returns false'. Refute it at one input. -/
def fnExactPackWayWrong : ChangeSpec := { name := "fnExactPackWay", fn := fun _ => fun
  | [d1, d2] => { results := [.lit (.bool false)], args := [d1, d2] }
  | _ => none }
def FnExactPackWayWrongFalsely : Prop := fnExactPackWayRow.holds Tryz.pinned (OpenSpec.ofChange fnExactPackWayWrong)

/- THE SECOND FORM. 'bulk': how many values and letters a reading holds, each counted each time it is reached (what is shared counts as often as it is met; a slice's spare places count too). A statement '..UptoSaid' is the law's where the arguments, and the package variables that the reading takes, are together of bulk at most 1048576: NARROWER than '..Said'. Prove '..Said' where nothing that the law and all that it calls make is longer than what came in: it says more and counts as full. Else prove '..UptoSaid'. A law counts once. -/
mutual
def uptoBulk {H : Type} : DataW H → Nat
  | .lit (.string bytes) => bytes.length + 1
  | .lit _ => 1
  | .nil => 1
  | .ptr d => uptoBulk d + 1
  | .slice elems spare => uptoBulkAll elems + uptoBulkAll spare + 1
  | .agg parts => uptoBulkAll parts + 1
  | .iface _ d => uptoBulk d + 1
  | .map entries => uptoBulkEntries entries + 1
  | .held _ => 1
def uptoBulkAll {H : Type} : List (DataW H) → Nat
  | [] => 0
  | d :: r => uptoBulk d + uptoBulkAll r
def uptoBulkEntries {H : Type} : List (Lit × DataW H) → Nat
  | [] => 0
  | x :: r => uptoBulkEntry x + uptoBulkEntries r
def uptoBulkEntry {H : Type} : Lit × DataW H → Nat
  | (.string bytes, d) => bytes.length + uptoBulk d + 1
  | (_, d) => uptoBulk d + 1
 end
def uptoSmall : (H : Type) → List (DataW H) → Bool := fun _ ds => decide (uptoBulkAll ds ≤ 1048576)
def OpenSpec.upto (s : _root_.Go.ChangeSpec) : _root_.Go.OpenSpec := { _root_.Go.OpenSpec.ofChange s with cond := some uptoSmall }

/-- 'laws.FnNoRoom', WHERE WHAT IT READS IS OF BULK AT MOST 1048576: true; the input reads as it did. -/
def fnNoRoomUptoRow : OpenClaim := { program := "ytpoonidoijepaaagreatdoor", sum := "d1a3ed7bb280b48289da9682fb1868ed994cf00c6d67fef8adf8620260af2646", func := "loop.example/g00489/laws.FnNoRoom", spec := "fnNoRoom", inPlace := ["internal/reflectlite.ValueOf", "(internal/reflectlite.Value).Type", "(internal/reflectlite.Value).IsNil", "internal/reflectlite.TypeOf", "(internal/reflectlite.Value).Elem", "(internal/reflectlite.Value).Set"], unfollowed := true, recurses := true, named := ["errors.errorType"], apart := false, laid := [("errors.errorType", laid_errors_errorType)], narrowed := true }
def FnNoRoomUptoSaid : Prop := fnNoRoomUptoRow.holds Tryz.pinned (OpenSpec.upto fnNoRoomSpec)

/-- 'laws.FnRoomLess', WHERE WHAT IT READS IS OF BULK AT MOST 1048576: true; the input reads as it did. -/
def fnRoomLessUptoRow : OpenClaim := { program := "ytpoonidoijepaaagreatdoor", sum := "d1a3ed7bb280b48289da9682fb1868ed994cf00c6d67fef8adf8620260af2646", func := "loop.example/g00489/laws.FnRoomLess", spec := "fnRoomLess", inPlace := ["internal/reflectlite.ValueOf", "(internal/reflectlite.Value).Type", "(internal/reflectlite.Value).IsNil", "internal/reflectlite.TypeOf", "(internal/reflectlite.Value).Elem", "(internal/reflectlite.Value).Set"], unfollowed := true, recurses := true, named := ["errors.errorType"], apart := false, laid := [("errors.errorType", laid_errors_errorType)], narrowed := true }
def FnRoomLessUptoSaid : Prop := fnRoomLessUptoRow.holds Tryz.pinned (OpenSpec.upto fnRoomLessSpec)

/-- 'laws.FnExactRoom', WHERE WHAT IT READS IS OF BULK AT MOST 1048576: true; the input reads as it did. -/
def fnExactRoomUptoRow : OpenClaim := { program := "ytpoonidoijepaaagreatdoor", sum := "d1a3ed7bb280b48289da9682fb1868ed994cf00c6d67fef8adf8620260af2646", func := "loop.example/g00489/laws.FnExactRoom", spec := "fnExactRoom", inPlace := ["internal/reflectlite.ValueOf", "(internal/reflectlite.Value).Type", "(internal/reflectlite.Value).IsNil", "internal/reflectlite.TypeOf", "(internal/reflectlite.Value).Elem", "(internal/reflectlite.Value).Set"], unfollowed := true, recurses := true, named := ["errors.errorType"], apart := false, laid := [("errors.errorType", laid_errors_errorType)], narrowed := true }
def FnExactRoomUptoSaid : Prop := fnExactRoomUptoRow.holds Tryz.pinned (OpenSpec.upto fnExactRoomSpec)

/-- 'laws.FnExactNextFit', WHERE WHAT IT READS IS OF BULK AT MOST 1048576: true; the input reads as it did. -/
def fnExactNextFitUptoRow : OpenClaim := { program := "ytpoonidoijepaaagreatdoor", sum := "d1a3ed7bb280b48289da9682fb1868ed994cf00c6d67fef8adf8620260af2646", func := "loop.example/g00489/laws.FnExactNextFit", spec := "fnExactNextFit", inPlace := ["internal/reflectlite.ValueOf", "(internal/reflectlite.Value).Type", "(internal/reflectlite.Value).IsNil", "internal/reflectlite.TypeOf", "(internal/reflectlite.Value).Elem", "(internal/reflectlite.Value).Set"], unfollowed := true, recurses := true, named := ["errors.errorType"], apart := false, laid := [("errors.errorType", laid_errors_errorType)], narrowed := true }
def FnExactNextFitUptoSaid : Prop := fnExactNextFitUptoRow.holds Tryz.pinned (OpenSpec.upto fnExactNextFitSpec)

/-- 'laws.FnExactFirstFit', WHERE WHAT IT READS IS OF BULK AT MOST 1048576: true; the input reads as it did. -/
def fnExactFirstFitUptoRow : OpenClaim := { program := "ytpoonidoijepaaagreatdoor", sum := "d1a3ed7bb280b48289da9682fb1868ed994cf00c6d67fef8adf8620260af2646", func := "loop.example/g00489/laws.FnExactFirstFit", spec := "fnExactFirstFit", inPlace := ["internal/reflectlite.ValueOf", "(internal/reflectlite.Value).Type", "(internal/reflectlite.Value).IsNil", "internal/reflectlite.TypeOf", "(internal/reflectlite.Value).Elem", "(internal/reflectlite.Value).Set"], unfollowed := true, recurses := true, named := ["errors.errorType"], apart := false, laid := [("errors.errorType", laid_errors_errorType)], narrowed := true }
def FnExactFirstFitUptoSaid : Prop := fnExactFirstFitUptoRow.holds Tryz.pinned (OpenSpec.upto fnExactFirstFitSpec)

/-- 'laws.FnExactPackWay', WHERE WHAT IT READS IS OF BULK AT MOST 1048576: true; the input reads as it did. -/
def fnExactPackWayUptoRow : OpenClaim := { program := "ytpoonidoijepaaagreatdoor", sum := "d1a3ed7bb280b48289da9682fb1868ed994cf00c6d67fef8adf8620260af2646", func := "loop.example/g00489/laws.FnExactPackWay", spec := "fnExactPackWay", inPlace := ["internal/reflectlite.ValueOf", "(internal/reflectlite.Value).Type", "(internal/reflectlite.Value).IsNil", "internal/reflectlite.TypeOf", "(internal/reflectlite.Value).Elem", "(internal/reflectlite.Value).Set"], unfollowed := true, recurses := true, named := ["errors.errorType"], apart := false, laid := [("errors.errorType", laid_errors_errorType)], narrowed := true }
def FnExactPackWayUptoSaid : Prop := fnExactPackWayUptoRow.holds Tryz.pinned (OpenSpec.upto fnExactPackWaySpec)

end Rows
end Go.Proofs.YtpoonidoijepaaaGreatDoor
