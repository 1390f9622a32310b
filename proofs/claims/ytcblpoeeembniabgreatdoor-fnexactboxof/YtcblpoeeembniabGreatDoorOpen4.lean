/- What the row hands in, opened: a slice of slices of numbers. -/
import Derived.Test.YtcblpoeeembniabGreatDoorOpen3
import Derived.Test.YtcblpoeeembniabGreatDoorPkE
namespace Go.Proofs.YtcblpoeeembniabGreatDoor
open Go.RowKit Go.ChangeShapes Go.WideShapes
set_option linter.unusedVariables false
/-- A slice of numbers, as it lies in one cell. -/
structure SlV where (a : Option Addr) (cap : Nat) (l : List Int)
deriving Inhabited
def SlV.cells (q : SlV) : List Value := [.slice q.a q.l.length q.cap]
def IntV.cells (n : Int) : List Value := [.int .i64 n]
theorem parts_int {H : Type} {enc : TypeId × Value → H} {w : World} {base : Nat} {spare : Nat → Bool} {held : Bool} (n : Nat) (cs : List Value) (x : DataW H × List MemPlace)
 (h : DataW.trod enc Tryz.prog w base spare held n 3 cs = some x) : ∃ q : Int, cs = IntV.cells q ∧ True := by
 obtain ⟨q, e, _, _⟩ := DataW.trod_int Tryz.underlying3 h
 exact ⟨q, e, trivial⟩
theorem parts_ints {H : Type} {enc : TypeId × Value → H} {w : World} {base : Nat} {spare : Nat → Bool} {held : Bool} (n : Nat) (cs : List Value) (x : DataW H × List MemPlace)
 (h : DataW.trod enc Tryz.prog w base spare held n 29 cs = some x) : ∃ q : SlV, cs = q.cells ∧ q.l.length ≤ maxLen ∧ Rd w q.a q.l.length q.l := by
 obtain ⟨c, rfl⟩ : ∃ c, cs = [c] := by
  rcases Deep.open_slice Tryz.underlying29 h with ⟨e0, _⟩ | ⟨a, len, cap, m, n, D, Pl, e0, _⟩
  · exact ⟨_, e0⟩
  · exact ⟨_, e0⟩
 obtain ⟨a, cap, xs, rfl, h1, h2, _⟩ := open_list (cells := IntV.cells) (G := fun _ => True) (k := 1) Tryz.underlying29 (by kernel_rfl) (by omega) (fun _ => rfl) (fun n cs x h => parts_int n cs x h) h
 refine ⟨⟨a, cap, xs⟩, rfl, h1, h2.1, fun i hi => ?_⟩
 obtain ⟨b, off, ha, hc⟩ := h2.2 i hi
 refine ⟨b, off, ha, ?_⟩
 have := hc 0 (by omega)
 rw [Nat.mul_one, Nat.add_zero] at this
 exact this
set_option maxRecDepth 100000 in
theorem open_IntSS {H : Type} {enc : TypeId × Value → H} {w : World} {r : Reach} {b0 base : Nat} {spare : Nat → Bool} {held : Bool} {v : Value} {d : DataW H} {p : List MemPlace}
 (hv : Value.okWide Tryz.prog w r b0 167 v) (h : DataW.Trod enc Tryz.prog w base spare held 167 v d p) : ∃ (a : Option Addr) (cap : Nat) (gs : List (List Int)), v = .slice a gs.length cap ∧ (gs.length ≤ maxLen ∧ ∀ g ∈ gs, g.length ≤ maxLen) ∧ Rd2 w a gs.length gs := by
 obtain ⟨a, len, cap, rfl⟩ := okWide_slice Tryz.underlying167 hv
 obtain ⟨fuel, hf⟩ := h
 obtain ⟨a', cap', xs, e, h1, h2, h3⟩ := open_list (cells := SlV.cells) (G := fun q => q.l.length ≤ maxLen ∧ Rd w q.a q.l.length q.l) (k := 1) Tryz.underlying167 (by kernel_rfl) (by omega) (fun _ => rfl) (fun n cs x h => parts_ints n cs x h) (c := .slice a len cap) (by simpa [Value.cells] using hf)
 refine ⟨a', cap', xs.map SlV.l, by rw [List.length_map]; exact e, ⟨by rw [List.length_map]; exact h1, fun g hg => ?_⟩, by rw [List.length_map], fun i hi => ?_⟩
 · obtain ⟨q, hq, rfl⟩ := List.mem_map.1 hg
   exact (h3 q hq).1
 · rw [List.length_map] at hi
   obtain ⟨b, off, ha, hc⟩ := h2.2 i hi
   have e1 : (xs.map SlV.l).getD i [] = (xs.getD i default).l := by simp [List.getD_eq_getElem?_getD, hi]
   have hm : xs.getD i default ∈ xs := by
    rw [List.getD_eq_getElem?_getD, List.getElem?_eq_getElem hi]
    exact List.getElem_mem _
   rw [e1]
   refine ⟨b, off, (xs.getD i default).a, (xs.getD i default).cap, ha, ?_, (h3 _ hm).2⟩
   have := hc 0 (by omega)
   rw [Nat.mul_one, Nat.add_zero] at this
   exact this
end Go.Proofs.YtcblpoeeembniabGreatDoor
