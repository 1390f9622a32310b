/- What the row hands in, opened: a carton, a slice of cartons. -/
import Derived.Test.YtcblpoeeembniabGreatDoorOpen4
import Derived.Test.YtcblpoeeembniabGreatDoorPkK
import Derived.Test.YtcblpoeeembniabGreatDoorPkH
namespace Go.Proofs.YtcblpoeeembniabGreatDoor
open Go.RowKit Go.ChangeShapes Go.WideShapes
set_option linter.unusedVariables false
/-- A carton, as it lies in three cells. -/
structure CarA where (ty grp : Int) (s : SlV)
deriving Inhabited
def CarA.cells (q : CarA) : List Value := [.int .i64 q.ty, .int .i64 q.grp, .slice q.s.a q.s.l.length q.s.cap]
def CarA.car (q : CarA) : CarV := ⟨q.ty, q.grp, q.s.l⟩
def CarA.ok (w : World) (q : CarA) : Prop := q.s.l.length ≤ maxLen ∧ Rd w q.s.a q.s.l.length q.s.l
set_option maxRecDepth 100000 in
theorem parts_Carton {H : Type} {enc : TypeId × Value → H} {w : World} {base : Nat} {spare : Nat → Bool} {held : Bool} (n : Nat) (cs : List Value) (x : DataW H × List MemPlace)
 (h : DataW.trod enc Tryz.prog w base spare held n 31 cs = some x) : ∃ q : CarA, cs = q.cells ∧ q.ok w := by
 obtain ⟨xs, m, _, _, hl, hx, hf⟩ := DataW.trod_struct Tryz.underlying31 h
 rw [show Tryz.prog.cellsOf 31 = 3 from by kernel_rfl] at hl
 match cs, hl with
 | [c0, c1, c2], _ =>
  obtain ⟨n0, rfl, _⟩ := part_int hf hx 0 _ rfl (by kernel_rfl) Tryz.underlying3 (c := c0) rfl
  obtain ⟨n1, rfl, _⟩ := part_int hf hx 1 _ rfl (by kernel_rfl) Tryz.underlying3 (c := c1) rfl
  obtain ⟨x2, h2⟩ := field_one hf hx 2 _ rfl (by kernel_rfl) (c := c2) rfl
  obtain ⟨q, e, hq⟩ := parts_ints _ _ _ h2
  simp only [SlV.cells, List.cons.injEq, and_true] at e
  exact ⟨⟨n0, n1, q⟩, by rw [e]; rfl, hq⟩
set_option maxRecDepth 100000 in
theorem open_Carton {H : Type} {enc : TypeId × Value → H} {w : World} {r : Reach} {b0 base : Nat} {spare : Nat → Bool} {held : Bool} {v : Value} {d : DataW H} {p : List MemPlace}
 (hv : Value.okWide Tryz.prog w r b0 31 v) (h : DataW.Trod enc Tryz.prog w base spare held 31 v d p) : ∃ q : CarA, v = .agg #[.int .i64 q.ty, .int .i64 q.grp, .slice q.s.a q.s.l.length q.s.cap] ∧ q.ok w := by
 obtain ⟨cs, rfl, hsz⟩ := okWide_struct Tryz.underlying31 hv
 obtain ⟨fuel, hf⟩ := h
 obtain ⟨q, hq, hok⟩ := parts_Carton _ _ _ hf
 refine ⟨q, ?_, hok⟩
 have hq' : cs.toList = q.cells := hq
 congr 1
 rw [← Array.toArray_toList (xs := cs), hq']
 rfl
end Go.Proofs.YtcblpoeeembniabGreatDoor
