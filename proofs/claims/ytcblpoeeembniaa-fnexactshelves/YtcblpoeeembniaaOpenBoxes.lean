/- What the row hands in, opened: a pallet, a slice of boxes. -/
import Derived.Test.YtcblpoeeembniaaOpen3
namespace Go.Proofs.Ytcblpoeeembniaa
open Go.RowKit Go.ChangeShapes Go.WideShapes
set_option linter.unusedVariables false
set_option maxRecDepth 100000 in
theorem parts_Pallet {H : Type} {enc : TypeId × Value → H} {w : World} {base : Nat} {spare : Nat → Bool} {held : Bool} (n : Nat) (cs : List Value) (x : DataW H × List MemPlace)
 (h : DataW.trod enc Try.prog w base spare held n 23 cs = some x) : ∃ q : PalletV, cs = q.cells ∧ True := by
 obtain ⟨xs, m, _, _, hl, hx, hf⟩ := DataW.trod_struct Try.underlying23 h
 rw [show Try.prog.cellsOf 23 = 4 from by kernel_rfl] at hl
 match cs, hl with
 | [c0, c1, c2, c3], _ =>
  obtain ⟨n0, rfl, _⟩ := part_int hf hx 0 _ rfl (by kernel_rfl) Try.underlying3 (c := c0) rfl
  obtain ⟨n1, rfl, _⟩ := part_int hf hx 1 _ rfl (by kernel_rfl) Try.underlying3 (c := c1) rfl
  obtain ⟨n2, rfl, _⟩ := part_int hf hx 2 _ rfl (by kernel_rfl) Try.underlying3 (c := c2) rfl
  obtain ⟨n3, rfl, _⟩ := part_int hf hx 3 _ rfl (by kernel_rfl) Try.underlying3 (c := c3) rfl
  exact ⟨⟨n0, n1, n2, n3⟩, rfl, trivial⟩
set_option maxRecDepth 100000 in
theorem parts_Box {H : Type} {enc : TypeId × Value → H} {w : World} {base : Nat} {spare : Nat → Bool} {held : Bool} (n : Nat) (cs : List Value) (x : DataW H × List MemPlace)
 (h : DataW.trod enc Try.prog w base spare held n 57 cs = some x) : ∃ q : BoxV, cs = q.cells ∧ True := by
 obtain ⟨xs, m, _, _, hl, hx, hf⟩ := DataW.trod_struct Try.underlying57 h
 rw [show Try.prog.cellsOf 57 = 4 from by kernel_rfl] at hl
 match cs, hl with
 | [c0, c1, c2, c3], _ =>
  obtain ⟨n0, rfl, _⟩ := part_int hf hx 0 _ rfl (by kernel_rfl) Try.underlying3 (c := c0) rfl
  obtain ⟨n1, rfl, _⟩ := part_int hf hx 1 _ rfl (by kernel_rfl) Try.underlying3 (c := c1) rfl
  obtain ⟨n2, rfl, _⟩ := part_int hf hx 2 _ rfl (by kernel_rfl) Try.underlying3 (c := c2) rfl
  obtain ⟨n3, rfl, _⟩ := part_int hf hx 3 _ rfl (by kernel_rfl) Try.underlying3 (c := c3) rfl
  exact ⟨⟨n0, n1, n2, n3⟩, rfl, trivial⟩
set_option maxRecDepth 100000 in
theorem open_PalletP {H : Type} {enc : TypeId × Value → H} {w : World} {r : Reach} {b0 base : Nat} {spare : Nat → Bool} {held : Bool} {v : Value} {d : DataW H} {p : List MemPlace}
 (hv : Value.okWide Try.prog w r b0 23 v) (h : DataW.Trod enc Try.prog w base spare held 23 v d p) : ∃ q : PalletV, v = .agg #[.int .i64 q.wd, .int .i64 q.dp, .int .i64 q.ht, .int .i64 q.gram] := by
 obtain ⟨cs, rfl, hsz⟩ := okWide_struct Try.underlying23 hv
 obtain ⟨fuel, hf⟩ := h
 obtain ⟨q, hq, _⟩ := parts_Pallet _ _ _ hf
 refine ⟨q, ?_⟩
 have hq' : cs.toList = q.cells := hq
 congr 1
 rw [← Array.toArray_toList (xs := cs), hq']
 rfl
set_option maxRecDepth 100000 in
theorem open_BoxS {H : Type} {enc : TypeId × Value → H} {w : World} {r : Reach} {b0 base : Nat} {spare : Nat → Bool} {held : Bool} {v : Value} {d : DataW H} {p : List MemPlace}
 (hv : Value.okWide Try.prog w r b0 24 v) (h : DataW.Trod enc Try.prog w base spare held 24 v d p) : ∃ (a : Option Addr) (cap : Nat) (xs : List BoxV), v = .slice a xs.length cap ∧ xs.length ≤ maxLen ∧ RdR BoxV.cells 4 w a xs.length xs := by
 obtain ⟨a, len, cap, rfl⟩ := okWide_slice Try.underlying24 hv
 obtain ⟨fuel, hf⟩ := h
 obtain ⟨a', cap', xs, e, h1, h2, _⟩ := open_list (cells := BoxV.cells) (G := fun _ => True) (k := 4) Try.underlying24 (by kernel_rfl) (by omega) BoxV.len (fun n cs x h => parts_Box n cs x h) (c := .slice a len cap) (by simpa [Value.cells] using hf)
 exact ⟨a', cap', xs, e, h1, h2⟩
end Go.Proofs.Ytcblpoeeembniaa
