/- What the row hands in, opened: a slice of slices of numbers. -/
import Derived.Test.YtcblpoeeembniaaOpen3
import Derived.Test.YtcblpoeeembniaaIntSS
namespace Go.Proofs.Ytcblpoeeembniaa
open Go.RowKit Go.ChangeShapes Go.WideShapes
set_option linter.unusedVariables false
/-- A slice of numbers, as it lies in one cell. -/
structure SlV where (a : Option Addr) (cap : Nat) (l : List Int)
deriving Inhabited
def SlV.cells (q : SlV) : List Value := [.slice q.a q.l.length q.cap]
def IntV.cells (n : Int) : List Value := [.int .i64 n]
theorem parts_int {H : Type} {enc : TypeId × Value → H} {w : World} {base : Nat} {spare : Nat → Bool} {held : Bool} (n : Nat) (cs : List Value) (x : DataW H × List MemPlace)
 (h : DataW.trod enc Try.prog w base spare held n 3 cs = some x) : ∃ q : Int, cs = IntV.cells q ∧ True := by
 obtain ⟨q, e, _, _⟩ := DataW.trod_int Try.underlying3 h
 exact ⟨q, e, trivial⟩
theorem parts_ints {H : Type} {enc : TypeId × Value → H} {w : World} {base : Nat} {spare : Nat → Bool} {held : Bool} (n : Nat) (cs : List Value) (x : DataW H × List MemPlace)
 (h : DataW.trod enc Try.prog w base spare held n 49 cs = some x) : ∃ q : SlV, cs = q.cells ∧ q.l.length ≤ maxLen ∧ Rd w q.a q.l.length q.l := by
 obtain ⟨c, rfl⟩ : ∃ c, cs = [c] := by
  rcases Deep.open_slice Try.underlying49 h with ⟨e0, _⟩ | ⟨a, len, cap, m, n, D, Pl, e0, _⟩
  · exact ⟨_, e0⟩
  · exact ⟨_, e0⟩
 obtain ⟨a, cap, xs, rfl, h1, h2, _⟩ := open_list (cells := IntV.cells) (G := fun _ => True) (k := 1) Try.underlying49 (by kernel_rfl) (by omega) (fun _ => rfl) (fun n cs x h => parts_int n cs x h) h
 refine ⟨⟨a, cap, xs⟩, rfl, h1, h2.1, fun i hi => ?_⟩
 obtain ⟨b, off, ha, hc⟩ := h2.2 i hi
 refine ⟨b, off, ha, ?_⟩
 have := hc 0 (by omega)
 rw [Nat.mul_one, Nat.add_zero] at this
 exact this
end Go.Proofs.Ytcblpoeeembniaa
