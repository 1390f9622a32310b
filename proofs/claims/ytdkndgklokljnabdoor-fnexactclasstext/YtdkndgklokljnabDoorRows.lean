/-
  NARROWER THAN 'FOR EVERY INPUT', by the rows' own cells (each row's printed sentence says how): FnExactClassText: laid.
  DERIVED. THE GIVEN ROWS OF THIS SEAT. 1 by the template 'for every input the law returns true; each argument reads behind the call as it read before'; 0 by the template 'total and deterministic' (their statements: YtdkndgklokljnabDoorTotals.lean).
  GIVEN WITH THE SEED: the statements are not yours to turn. If you find one false, say at which input.
  Laid BY PROGRAM, IN A SANDBOX (cutbox-rows.mjs): the forced cells as the released guide's own fill.sh prints them over the translation c27bfb91ccd10ef2… (all of the seat's roots in one cut). By AI agents, Wed Nov 11 2026. No macro, syntax, notation, axiom, sorry.
-/
import Derived.Test.YtdkndgklokljnabDoorChecked
import GoSem.Claim
import GoSem.ClaimJoined
import GoSem.ClaimMapViews
import Derived.JoinedTies
import Derived.KernelRfl
namespace Go.Proofs.YtdkndgklokljnabDoor
/- THE CELL 'sum', in the pinned program and in every row, IS THE sha256 OF THE DUMP (.gsa) THAT YtdkndgklokljnabDoorProg.lean LOADS. Nothing in Lean hashes anything: it is a label: what it is worth is what the hold of that sum in a sandbox is worth. -/
noncomputable def Tryd.pinned : Pinned := { name := "ytdkndgklokljnabdoor", sum := "c27bfb91ccd10ef201d3aca29d9b7032cfaa9459ccfbf9f7b92cf399898b92d9", checked := Tryd.checked }
namespace Rows
def none {H : Type} : Left H := { results := [], args := [] }

/- WHAT THE LISTED PACKAGE-LEVEL VARIABLES READ AS WHEN THE CALL BEGINS. Each datum BY PROGRAM (the guide's laid-datum.mjs) off the statement by which the dump's own 'gosem.cut.vars' lays the variable. In a bare row this is a premise. The card (YtdkndgklokljnabDoorCards.lean) ties it to the program's text. -/
def laid_loop_example_g00489_impl_classTexts {H : Type} : DataW H := .agg [.lit (.string [111, 107]), .lit (.string [116, 101, 120, 116]), .lit (.string [98, 111, 117, 110, 100, 115]), .lit (.string [110, 97, 109, 101, 115]), .lit (.string [116, 97, 98, 108, 101]), .lit (.string [117, 110, 105, 116]), .lit (.string [112, 97, 108, 108, 101, 116])]

/-- 'laws.FnExactClassText': WHATEVER THE INPUT: true; the input reads as it did. -/
def fnExactClassTextSpec : ChangeSpec := { name := "fnExactClassText", vars := ["loop.example/g00489/impl.classTexts"], fn := fun _ => fun
  | [d, g1] => { results := [.lit (.bool true)], args := [d], vars := [g1] }
  | _ => none }
def fnExactClassTextRow : OpenClaim := { program := "ytdkndgklokljnabdoor", sum := "c27bfb91ccd10ef201d3aca29d9b7032cfaa9459ccfbf9f7b92cf399898b92d9", func := "loop.example/g00489/laws.FnExactClassText", spec := "fnExactClassText", named := ["loop.example/g00489/impl.classTexts"], apart := false, laid := [("loop.example/g00489/impl.classTexts", laid_loop_example_g00489_impl_classTexts)] }
def FnExactClassTextSaid : Prop := fnExactClassTextRow.holds Tryd.pinned (OpenSpec.ofChange fnExactClassTextSpec)

/-- ITS FALSE NEIGHBOUR: 'it returns false'. Refute it at one input. -/
def fnExactClassTextWrong : ChangeSpec := { name := "fnExactClassText", vars := ["loop.example/g00489/impl.classTexts"], fn := fun _ => fun
  | [d, g1] => { results := [.lit (.bool false)], args := [d], vars := [g1] }
  | _ => none }
def FnExactClassTextWrongFalsely : Prop := fnExactClassTextRow.holds Tryd.pinned (OpenSpec.ofChange fnExactClassTextWrong)

/- THE SECOND FORM. 'bulk': how many values and letters a reading holds, each counted each time it is reached (what is shared counts as often as it is met; a slice's spare places count too). A statement '..UptoSaid' is the law's where the arguments, and the package variables that the reading takes, are together of bulk at most 1048576: NARROWER than '..Said'. Prove '..Said' where nothing that the law and all that it calls make is longer than what came in: it says more and counts as full. Else prove '..UptoSaid'. A law counts once. -/
mutual
def uptoBulk {H : Type} : DataW H → Nat
  | .lit (.string bytes) => bytes.length + 1
  | .lit _ => 1
  | .nil => 1
  | .ptr d => uptoBulk d + 1
  | .slice elems spare => uptoBulkAll elems + uptoBulkAll spare + 1
  | .agg parts => uptoBulkAll parts + 1
  | .iface _ d => uptoBulk d + 1
  | .map entries => uptoBulkEntries entries + 1
  | .held _ => 1
def uptoBulkAll {H : Type} : List (DataW H) → Nat
  | [] => 0
  | d :: r => uptoBulk d + uptoBulkAll r
def uptoBulkEntries {H : Type} : List (Lit × DataW H) → Nat
  | [] => 0
  | x :: r => uptoBulkEntry x + uptoBulkEntries r
def uptoBulkEntry {H : Type} : Lit × DataW H → Nat
  | (.string bytes, d) => bytes.length + uptoBulk d + 1
  | (_, d) => uptoBulk d + 1
 end
def uptoSmall : (H : Type) → List (DataW H) → Bool := fun _ ds => decide (uptoBulkAll ds ≤ 1048576)
def OpenSpec.upto (s : _root_.Go.ChangeSpec) : _root_.Go.OpenSpec := { _root_.Go.OpenSpec.ofChange s with cond := some uptoSmall }

/-- 'laws.FnExactClassText', WHERE WHAT IT READS IS OF BULK AT MOST 1048576: true; the input reads as it did. -/
def fnExactClassTextUptoRow : OpenClaim := { program := "ytdkndgklokljnabdoor", sum := "c27bfb91ccd10ef201d3aca29d9b7032cfaa9459ccfbf9f7b92cf399898b92d9", func := "loop.example/g00489/laws.FnExactClassText", spec := "fnExactClassText", named := ["loop.example/g00489/impl.classTexts"], apart := false, laid := [("loop.example/g00489/impl.classTexts", laid_loop_example_g00489_impl_classTexts)], narrowed := true }
def FnExactClassTextUptoSaid : Prop := fnExactClassTextUptoRow.holds Tryd.pinned (OpenSpec.upto fnExactClassTextSpec)

end Rows
end Go.Proofs.YtdkndgklokljnabDoor
