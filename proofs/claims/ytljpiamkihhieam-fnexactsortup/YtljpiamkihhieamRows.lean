/-
  No cell of these rows narrows 'for every input' (looked for: loops, veiled, ifaces, maps, wideKeys, modest, calm, conditions, laid).
  DERIVED. THE GIVEN ROWS OF THIS SEAT. 3 by the template 'for every input the law returns true; each argument reads behind the call as it read before'; 0 by the template 'total and deterministic' (their statements: YtljpiamkihhieamTotals.lean).
  GIVEN WITH THE SEED: the statements are not yours to turn. If you find one false, say at which input.
  Laid BY PROGRAM, IN A SANDBOX (cutbox-rows.mjs): the forced cells as the released guide's own fill.sh prints them over the translation 8ee6a9d70be11728… (all of the seat's roots in one cut). By AI agents, Wed Nov 11 2026. No macro, syntax, notation, axiom, sorry.
-/
import Derived.Test.YtljpiamkihhieamChecked
import GoSem.Claim
import GoSem.ClaimJoined
import GoSem.ClaimMapViews
import Derived.JoinedTies
import Derived.KernelRfl
namespace Go.Proofs.Ytljpiamkihhieam
/- THE CELL 'sum', in the pinned program and in every row, IS THE sha256 OF THE DUMP (.gsa) THAT YtljpiamkihhieamProg.lean LOADS. Nothing in Lean hashes anything: it is a label: what it is worth is what the hold of that sum in a sandbox is worth. -/
noncomputable def Try.pinned : Pinned := { name := "ytljpiamkihhieam", sum := "8ee6a9d70be117289324d4f5e038cdf63e9463b964754ae9faa9f9a589360fd6", checked := Try.checked }
namespace Rows
def none {H : Type} : Left H := { results := [], args := [] }

/-- 'laws.FnExactParts': WHATEVER THE INPUT: true; the input reads as it did. -/
def fnExactPartsSpec : ChangeSpec := { name := "fnExactParts", fn := fun _ => fun
  | [d1, d2] => { results := [.lit (.bool true)], args := [d1, d2] }
  | _ => none }
def fnExactPartsRow : OpenClaim := { program := "ytljpiamkihhieam", sum := "8ee6a9d70be117289324d4f5e038cdf63e9463b964754ae9faa9f9a589360fd6", func := "loop.example/g00489/laws.FnExactParts", spec := "fnExactParts", apart := false }
def FnExactPartsSaid : Prop := fnExactPartsRow.holds Try.pinned (OpenSpec.ofChange fnExactPartsSpec)

/-- ITS FALSE NEIGHBOUR: 'it returns false'. Refute it at one input. -/
def fnExactPartsWrong : ChangeSpec := { name := "fnExactParts", fn := fun _ => fun
  | [d1, d2] => { results := [.lit (.bool false)], args := [d1, d2] }
  | _ => none }
def FnExactPartsWrongFalsely : Prop := fnExactPartsRow.holds Try.pinned (OpenSpec.ofChange fnExactPartsWrong)

/-- 'laws.FnExactSortUp': WHATEVER THE INPUT: true; the input reads as it did. -/
def fnExactSortUpSpec : ChangeSpec := { name := "fnExactSortUp", fn := fun _ => fun
  | [d] => { results := [.lit (.bool true)], args := [d] }
  | _ => none }
def fnExactSortUpRow : OpenClaim := { program := "ytljpiamkihhieam", sum := "8ee6a9d70be117289324d4f5e038cdf63e9463b964754ae9faa9f9a589360fd6", func := "loop.example/g00489/laws.FnExactSortUp", spec := "fnExactSortUp", unfollowed := true, recurses := true, apart := false }
def FnExactSortUpSaid : Prop := fnExactSortUpRow.holds Try.pinned (OpenSpec.ofChange fnExactSortUpSpec)

/-- ITS FALSE NEIGHBOUR: 'it returns false'. Refute it at one input. -/
def fnExactSortUpWrong : ChangeSpec := { name := "fnExactSortUp", fn := fun _ => fun
  | [d] => { results := [.lit (.bool false)], args := [d] }
  | _ => none }
def FnExactSortUpWrongFalsely : Prop := fnExactSortUpRow.holds Try.pinned (OpenSpec.ofChange fnExactSortUpWrong)

/-- 'laws.FnExactSortDown': WHATEVER THE INPUT: true; the input reads as it did. -/
def fnExactSortDownSpec : ChangeSpec := { name := "fnExactSortDown", fn := fun _ => fun
  | [d] => { results := [.lit (.bool true)], args := [d] }
  | _ => none }
def fnExactSortDownRow : OpenClaim := { program := "ytljpiamkihhieam", sum := "8ee6a9d70be117289324d4f5e038cdf63e9463b964754ae9faa9f9a589360fd6", func := "loop.example/g00489/laws.FnExactSortDown", spec := "fnExactSortDown", unfollowed := true, recurses := true, apart := false }
def FnExactSortDownSaid : Prop := fnExactSortDownRow.holds Try.pinned (OpenSpec.ofChange fnExactSortDownSpec)

/-- ITS FALSE NEIGHBOUR: 'it returns false'. Refute it at one input. -/
def fnExactSortDownWrong : ChangeSpec := { name := "fnExactSortDown", fn := fun _ => fun
  | [d] => { results := [.lit (.bool false)], args := [d] }
  | _ => none }
def FnExactSortDownWrongFalsely : Prop := fnExactSortDownRow.holds Try.pinned (OpenSpec.ofChange fnExactSortDownWrong)

/- THE SECOND FORM. 'bulk': how many values and letters a reading holds, each counted each time it is reached (what is shared counts as often as it is met; a slice's spare places count too). A statement '..UptoSaid' is the law's where the arguments, and the package variables that the reading takes, are together of bulk at most 1048576: NARROWER than '..Said'. Prove '..Said' where nothing that the law and all that it calls make is longer than what came in: it says more and counts as full. Else prove '..UptoSaid'. A law counts once. -/
mutual
def uptoBulk {H : Type} : DataW H → Nat
  | .lit (.string bytes) => bytes.length + 1
  | .lit _ => 1
  | .nil => 1
  | .ptr d => uptoBulk d + 1
  | .slice elems spare => uptoBulkAll elems + uptoBulkAll spare + 1
  | .agg parts => uptoBulkAll parts + 1
  | .iface _ d => uptoBulk d + 1
  | .map entries => uptoBulkEntries entries + 1
  | .held _ => 1
def uptoBulkAll {H : Type} : List (DataW H) → Nat
  | [] => 0
  | d :: r => uptoBulk d + uptoBulkAll r
def uptoBulkEntries {H : Type} : List (Lit × DataW H) → Nat
  | [] => 0
  | x :: r => uptoBulkEntry x + uptoBulkEntries r
def uptoBulkEntry {H : Type} : Lit × DataW H → Nat
  | (.string bytes, d) => bytes.length + uptoBulk d + 1
  | (_, d) => uptoBulk d + 1
 end
def uptoSmall : (H : Type) → List (DataW H) → Bool := fun _ ds => decide (uptoBulkAll ds ≤ 1048576)
def OpenSpec.upto (s : _root_.Go.ChangeSpec) : _root_.Go.OpenSpec := { _root_.Go.OpenSpec.ofChange s with cond := some uptoSmall }

/-- 'laws.FnExactParts', WHERE WHAT IT READS IS OF BULK AT MOST 1048576: true; the input reads as it did. -/
def fnExactPartsUptoRow : OpenClaim := { program := "ytljpiamkihhieam", sum := "8ee6a9d70be117289324d4f5e038cdf63e9463b964754ae9faa9f9a589360fd6", func := "loop.example/g00489/laws.FnExactParts", spec := "fnExactParts", apart := false, narrowed := true }
def FnExactPartsUptoSaid : Prop := fnExactPartsUptoRow.holds Try.pinned (OpenSpec.upto fnExactPartsSpec)

/-- 'laws.FnExactSortUp', WHERE WHAT IT READS IS OF BULK AT MOST 1048576: true; the input reads as it did. -/
def fnExactSortUpUptoRow : OpenClaim := { program := "ytljpiamkihhieam", sum := "8ee6a9d70be117289324d4f5e038cdf63e9463b964754ae9faa9f9a589360fd6", func := "loop.example/g00489/laws.FnExactSortUp", spec := "fnExactSortUp", unfollowed := true, recurses := true, apart := false, narrowed := true }
def FnExactSortUpUptoSaid : Prop := fnExactSortUpUptoRow.holds Try.pinned (OpenSpec.upto fnExactSortUpSpec)

/-- 'laws.FnExactSortDown', WHERE WHAT IT READS IS OF BULK AT MOST 1048576: true; the input reads as it did. -/
def fnExactSortDownUptoRow : OpenClaim := { program := "ytljpiamkihhieam", sum := "8ee6a9d70be117289324d4f5e038cdf63e9463b964754ae9faa9f9a589360fd6", func := "loop.example/g00489/laws.FnExactSortDown", spec := "fnExactSortDown", unfollowed := true, recurses := true, apart := false, narrowed := true }
def FnExactSortDownUptoSaid : Prop := fnExactSortDownUptoRow.holds Try.pinned (OpenSpec.upto fnExactSortDownSpec)

end Rows
end Go.Proofs.Ytljpiamkihhieam
