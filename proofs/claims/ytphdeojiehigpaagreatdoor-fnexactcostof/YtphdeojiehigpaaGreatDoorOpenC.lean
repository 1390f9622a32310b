/- What the row hands in, opened: a carton, a slice of cartons. -/
import Derived.Test.YtphdeojiehigpaaGreatDoorOpen4
import Derived.Test.YtphdeojiehigpaaGreatDoorCartons
import Derived.Test.YtphdeojiehigpaaGreatDoorPkH
namespace Go.Proofs.YtphdeojiehigpaaGreatDoor
open Go.RowKit Go.ChangeShapes Go.WideShapes
set_option linter.unusedVariables false
/-- A carton, as it lies in three cells. -/
structure CarA where (ty grp : Int) (s : SlV)
deriving Inhabited
def CarA.cells (q : CarA) : List Value := [.int .i64 q.ty, .int .i64 q.grp, .slice q.s.a q.s.l.length q.s.cap]
def CarA.car (q : CarA) : CarV := ⟨q.ty, q.grp, q.s.l⟩
def CarA.ok (w : World) (q : CarA) : Prop := q.s.l.length ≤ maxLen ∧ Rd w q.s.a q.s.l.length q.s.l
set_option maxRecDepth 100000 in
theorem parts_Carton {H : Type} {enc : TypeId × Value → H} {w : World} {base : Nat} {spare : Nat → Bool} {held : Bool} (n : Nat) (cs : List Value) (x : DataW H × List MemPlace)
    (h : DataW.trod enc Tryz.prog w base spare held n 31 cs = some x) : ∃ q : CarA, cs = q.cells ∧ q.ok w := by
  obtain ⟨xs, m, _, _, hl, hx, hf⟩ := DataW.trod_struct Tryz.underlying31 h
  rw [show Tryz.prog.cellsOf 31 = 3 from by kernel_rfl] at hl
  match cs, hl with
  | [c0, c1, c2], _ =>
    obtain ⟨n0, rfl, _⟩ := part_int hf hx 0 _ rfl (by kernel_rfl) Tryz.underlying3 (c := c0) rfl
    obtain ⟨n1, rfl, _⟩ := part_int hf hx 1 _ rfl (by kernel_rfl) Tryz.underlying3 (c := c1) rfl
    obtain ⟨x2, h2⟩ := field_one hf hx 2 _ rfl (by kernel_rfl) (c := c2) rfl
    obtain ⟨q, e, hq⟩ := parts_ints _ _ _ h2
    simp only [SlV.cells, List.cons.injEq, and_true] at e
    exact ⟨⟨n0, n1, q⟩, by rw [e]; rfl, hq⟩
set_option maxRecDepth 100000 in
theorem open_Carton {H : Type} {enc : TypeId × Value → H} {w : World} {r : Reach} {b0 base : Nat} {spare : Nat → Bool} {held : Bool} {v : Value} {d : DataW H} {p : List MemPlace}
    (hv : Value.okWide Tryz.prog w r b0 31 v) (h : DataW.Trod enc Tryz.prog w base spare held 31 v d p) : ∃ q : CarA, v = .agg #[.int .i64 q.ty, .int .i64 q.grp, .slice q.s.a q.s.l.length q.s.cap] ∧ q.ok w := by
  obtain ⟨cs, rfl, hsz⟩ := okWide_struct Tryz.underlying31 hv
  obtain ⟨fuel, hf⟩ := h
  obtain ⟨q, hq, hok⟩ := parts_Carton _ _ _ hf
  refine ⟨q, ?_, hok⟩
  have hq' : cs.toList = q.cells := hq
  congr 1
  rw [← Array.toArray_toList (xs := cs), hq']
  rfl
set_option maxRecDepth 100000 in
theorem open_CartonS {H : Type} {enc : TypeId × Value → H} {w : World} {r : Reach} {b0 base : Nat} {spare : Nat → Bool} {held : Bool} {v : Value} {d : DataW H} {p : List MemPlace}
    (hv : Value.okWide Tryz.prog w r b0 47 v) (h : DataW.Trod enc Tryz.prog w base spare held 47 v d p) : ∃ (a : Option Addr) (cap : Nat) (xs : List CarV), v = .slice a xs.length cap ∧ (xs.length ≤ maxLen ∧ ∀ g ∈ xs, g.us.length ≤ maxLen) ∧ RdC w a xs.length xs := by
  obtain ⟨a, len, cap, rfl⟩ := okWide_slice Tryz.underlying47 hv
  obtain ⟨fuel, hf⟩ := h
  obtain ⟨a', cap', xs, e, h1, h2, h3⟩ := open_list (cells := CarA.cells) (G := fun q => q.ok w) (k := 3) Tryz.underlying47 (by kernel_rfl) (by omega) (fun _ => rfl) (fun n cs x h => parts_Carton n cs x h) (c := .slice a len cap) (by simpa [Value.cells] using hf)
  refine ⟨a', cap', xs.map CarA.car, by rw [List.length_map]; exact e, ⟨by rw [List.length_map]; exact h1, fun g hg => ?_⟩, by rw [List.length_map], fun i hi => ?_⟩
  · obtain ⟨q, hq, rfl⟩ := List.mem_map.1 hg
    exact (h3 q hq).1
  · rw [List.length_map] at hi
    obtain ⟨b, off, ha, hc⟩ := h2.2 i hi
    have e1 : (xs.map CarA.car).getD i default = (xs.getD i default).car := by simp [List.getD_eq_getElem?_getD, hi]
    have hm : xs.getD i default ∈ xs := by
      rw [List.getD_eq_getElem?_getD, List.getElem?_eq_getElem hi]
      exact List.getElem_mem _
    rw [e1]
    exact ⟨b, off, (xs.getD i default).s.a, (xs.getD i default).s.cap, ha, hc 0 (by omega), hc 1 (by omega), hc 2 (by omega), (h3 _ hm).2⟩
end Go.Proofs.YtphdeojiehigpaaGreatDoor
