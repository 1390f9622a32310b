/- What the row hands in, opened: rows of Shelfs. -/
import Derived.Test.YtcblpoeeembniaaOpen4
import Derived.Test.YtcblpoeeembniaaShelfs
namespace Go.Proofs.Ytcblpoeeembniaa
open Go.RowKit Go.ChangeShapes Go.WideShapes
set_option linter.unusedVariables false
theorem field_oneShelf {H : Type} {enc : TypeId × Value → H} {P : Program} {w : World} {base : Nat} {spare : Nat → Bool} {held : Bool} {fs : Array Field} {n : Nat} {cs : List Value} {xs : List (DataW H × List MemPlace)} (hf : ∀ (i : Nat) (f : Field), fs[i]? = some f → DataW.trod enc P w base spare held n f.type ((cs.drop f.offset).take (P.cellsOf f.type)) = xs[i]?)
 (hx : xs.length = fs.size) (i : Nat) (f : Field) (h : fs[i]? = some f) (hc : P.cellsOf f.type = 1) {c : Value} (hg : cs[f.offset]? = some c) : ∃ x, DataW.trod enc P w base spare held n f.type [c] = some x := by
 have h1 := hf i f h
 rw [hc, part_cut hg] at h1
 have hi : i < xs.length := by rw [hx]; exact (Array.getElem?_eq_some_iff.1 h).1
 rw [List.getElem?_eq_getElem hi] at h1
 exact ⟨_, h1⟩
/-- One, as it lies in its cells. -/
structure ShelfA where (s : SlV) (wd dp ht gram : Int)
deriving Inhabited
def ShelfA.cells (q : ShelfA) : List Value := [.slice q.s.a q.s.l.length q.s.cap, .int .i64 q.wd, .int .i64 q.dp, .int .i64 q.ht, .int .i64 q.gram]
def ShelfA.car (q : ShelfA) : ShelfV := ⟨q.s.l, q.wd, q.dp, q.ht, q.gram⟩
def ShelfA.ok (w : World) (q : ShelfA) : Prop := q.s.l.length ≤ maxLen ∧ Rd w q.s.a q.s.l.length q.s.l
set_option maxRecDepth 100000 in
theorem parts_Shelf {H : Type} {enc : TypeId × Value → H} {w : World} {base : Nat} {spare : Nat → Bool} {held : Bool} (n : Nat) (cs : List Value) (x : DataW H × List MemPlace)
 (h : DataW.trod enc Try.prog w base spare held n 61 cs = some x) : ∃ q : ShelfA, cs = q.cells ∧ q.ok w := by
 obtain ⟨xs, m, _, _, hl, hx, hf⟩ := DataW.trod_struct Try.underlying61 h
 rw [show Try.prog.cellsOf 61 = 5 from by kernel_rfl] at hl
 match cs, hl with
 | [c0, c1, c2, c3, c4], _ =>
  obtain ⟨n1, rfl, _⟩ := part_int hf hx 1 _ rfl (by kernel_rfl) Try.underlying3 (c := c1) rfl
  obtain ⟨n2, rfl, _⟩ := part_int hf hx 2 _ rfl (by kernel_rfl) Try.underlying3 (c := c2) rfl
  obtain ⟨n3, rfl, _⟩ := part_int hf hx 3 _ rfl (by kernel_rfl) Try.underlying3 (c := c3) rfl
  obtain ⟨n4, rfl, _⟩ := part_int hf hx 4 _ rfl (by kernel_rfl) Try.underlying3 (c := c4) rfl
  obtain ⟨x0, h0⟩ := field_oneShelf hf hx 0 _ rfl (by kernel_rfl) (c := c0) rfl
  obtain ⟨q, e, hq⟩ := parts_ints _ _ _ h0
  simp only [SlV.cells, List.cons.injEq, and_true] at e
  exact ⟨⟨q, n1, n2, n3, n4⟩, by rw [e]; rfl, hq⟩
set_option maxRecDepth 100000 in
theorem open_Shelf {H : Type} {enc : TypeId × Value → H} {w : World} {r : Reach} {b0 base : Nat} {spare : Nat → Bool} {held : Bool} {v : Value} {d : DataW H} {p : List MemPlace}
 (hv : Value.okWide Try.prog w r b0 61 v) (h : DataW.Trod enc Try.prog w base spare held 61 v d p) : ∃ q : ShelfA, v = .agg #[.slice q.s.a q.s.l.length q.s.cap, .int .i64 q.wd, .int .i64 q.dp, .int .i64 q.ht, .int .i64 q.gram] ∧ q.ok w := by
 obtain ⟨cs, rfl, hsz⟩ := okWide_struct Try.underlying61 hv
 obtain ⟨fuel, hf⟩ := h
 obtain ⟨q, hq, hok⟩ := parts_Shelf _ _ _ hf
 refine ⟨q, ?_, hok⟩
 have hq' : cs.toList = q.cells := hq
 congr 1
 rw [← Array.toArray_toList (xs := cs), hq']
 rfl
set_option maxRecDepth 100000 in
theorem open_ShelfS {H : Type} {enc : TypeId × Value → H} {w : World} {r : Reach} {b0 base : Nat} {spare : Nat → Bool} {held : Bool} {v : Value} {d : DataW H} {p : List MemPlace}
 (hv : Value.okWide Try.prog w r b0 33 v) (h : DataW.Trod enc Try.prog w base spare held 33 v d p) : ∃ (a : Option Addr) (cap : Nat) (xs : List ShelfV), v = .slice a xs.length cap ∧ (xs.length ≤ maxLen ∧ ∀ g ∈ xs, g.us.length ≤ maxLen) ∧ RdShelf w a xs.length xs := by
 obtain ⟨a, len, cap, rfl⟩ := okWide_slice Try.underlying33 hv
 obtain ⟨fuel, hf⟩ := h
 obtain ⟨a', cap', xs, e, h1, h2, h3⟩ := open_list (cells := ShelfA.cells) (G := fun q => q.ok w) (k := 5) Try.underlying33 (by kernel_rfl) (by omega) (fun _ => rfl) (fun n cs x h => parts_Shelf n cs x h) (c := .slice a len cap) (by simpa [Value.cells] using hf)
 refine ⟨a', cap', xs.map ShelfA.car, by rw [List.length_map]; exact e, ⟨by rw [List.length_map]; exact h1, fun g hg => ?_⟩, by rw [List.length_map], fun i hi => ?_⟩
 · obtain ⟨q, hq, rfl⟩ := List.mem_map.1 hg
   exact (h3 q hq).1
 · rw [List.length_map] at hi
   obtain ⟨b, off, ha, hc⟩ := h2.2 i hi
   have e1 : (xs.map ShelfA.car).getD i default = (xs.getD i default).car := by simp [List.getD_eq_getElem?_getD, hi]
   have hm : xs.getD i default ∈ xs := by
    rw [List.getD_eq_getElem?_getD, List.getElem?_eq_getElem hi]
    exact List.getElem_mem _
   rw [e1]
   exact ⟨b, off, (xs.getD i default).s.a, (xs.getD i default).s.cap, ha, hc 0 (by omega), hc 1 (by omega), hc 2 (by omega), hc 3 (by omega), hc 4 (by omega), (h3 _ hm).2⟩
end Go.Proofs.Ytcblpoeeembniaa
