/- Shelves that are being filled, as the model does it: the last one is another one; one more stands behind. -/
import Derived.Test.YtcblpoeeembniaaShelfSt
namespace Go.Proofs.Ytcblpoeeembniaa
open Go Go.RowKit
set_option linter.unusedVariables false

theorem fill5 (w : World) (g q : Nat) (a b c d e : Value) : writeCells w g q [a, b, c, d, e] = ((((w.setCell ⟨g, q, none⟩ a).setCell ⟨g, q + 1, none⟩ b).setCell ⟨g, q + 2, none⟩ c).setCell ⟨g, q + 3, none⟩ d).setCell ⟨g, q + 4, none⟩ e := by
 simp only [writeCells]
theorem Sv.set {w0 u w' : World} {B gO n g q cap : Nat} {ord : List Nat} {ys : List ShelfW} {r R : ShelfW} (h0 : Sv w0 B gO n ord g cap (ys ++ [r])) (hB : B ≤ w0.heap.size) (hb : Below w0.heap.size w0 u) (hr : RowV.own u w0.heap.size R.row) (hq : q = ys.length * 5) (hw : w' = writeCells u g q R.cells) :
 Sv w' B gO n ord g cap (ys ++ [R]) ∧ Below B u w' := by
 have hs := h0.later hb
 obtain ⟨l1, l2, l3, l4, l5, l6⟩ := hs.last
 have hlen := cellsShelf_len ys
 have hgl := (h0.own.out.lt g rfl).2
 have hRg : w0.heap.size ≤ R.g := hr.lt.1
 have o2 := own_write R.cells u _ q l1
 rw [hq, ← hlen, writeRow_tail (by rw [ShelfW.len, ShelfW.len]), ← cellsShelf_snoc, hlen, ← hq] at o2
 have gw := gb_writes (g := g) R.cells u u q (World.grownBy.refl _ _)
 have r4 := l2.kept gw (fun j hj e => by have := l2.far j hj; injection e with e; exact this e)
 have hrow0 : ∀ j, j < ys.length → (ys.getD j default).g < w0.heap.size := fun j hj => by
  have h1 := h0.own.rowAt j (by simp; omega)
  rw [getD_snoc_lt hj] at h1
  exact h1.lt.2
 have hn : ∀ j, j < (ys.map ShelfW.row).length → ((ys.map ShelfW.row).getD j default).g ≠ R.row.g := fun j hj e => by
  rw [row_getD ys j hj] at e
  have := hrow0 j (by simpa using hj)
  have e' : (ys.getD j default).g = R.g := e
  omega
 have hro : RowV.own (writeCells u g q R.cells) B R.row := RowV.own.kept (World.ownsRow.mono hr hB) gw (by intro e; injection e with e; have e' : R.g = g := e; omega)
 have h5 := r4.snoc hro hn (by show R.g ≠ g; omega)
 rw [hw]
 refine ⟨⟨⟨?_, ?_⟩, h0.ne, fun j hj => ?_, fun j hj => gw.cell (hs.ord j hj) (by intro e; injection e with e; exact h0.ne e), Nat.lt_of_lt_of_le hs.lt gw.size⟩, below_write (own_base l1) R.cells _ _ q (Below.refl B u)⟩
 · rw [List.length_append]
   exact o2
 · rw [List.map_append]
   exact ⟨h5.row, h5.apart, h5.far⟩
 · by_cases e : j < ys.length
   · rw [getD_snoc_lt e]
     have := h0.nes j (by simp; omega)
     rwa [getD_snoc_lt e] at this
   · obtain rfl : j = ys.length := by simp at hj; omega
     rw [getD_snoc_eq]
     have := h0.lt
     omega
theorem Sv.more {w0 u w6 : World} {B gO n g cap g3 cap3 : Nat} {ord : List Nat} {xs : List ShelfW} {R : ShelfW} (h0 : Sv w0 B gO n ord g cap xs) (hB : B ≤ w0.heap.size) (hb : Below w0.heap.size w0 u) (hr : RowV.own u w0.heap.size R.row)
 (ho : w6.ownsRow B 51 5 (.slice (some ⟨g3, 0, none⟩) (xs.length + 1) cap3) (xs.length + 1) (cellsShelf xs ++ R.cells)) (hg : u.grownBy w6 (some g)) (hat : some g = some g3 ∨ g3 = u.heap.size) :
 Sv w6 B gO n ord g3 cap3 (xs ++ [R]) := by
 have hs := h0.later hb
 obtain ⟨n1, n2, n3, n4, n5⟩ := hs.push hg hat
 have hRg : w0.heap.size ≤ R.g := hr.lt.1
 have hRl : R.g < u.heap.size := hr.lt.2
 have hgl := (h0.own.out.lt g rfl).2
 have hrow0 : ∀ j, j < xs.length → (xs.getD j default).g < w0.heap.size := fun j hj => (h0.own.rowAt j hj).lt.2
 have hR3 : R.g ≠ g3 := by
  rcases hat with e | e
  · injection e with e; omega
  · omega
 have hro : RowV.own w6 B R.row := RowV.own.kept (World.ownsRow.mono hr hB) hg (by intro e; injection e with e; have e' : R.g = g := e; omega)
 have h5 := n5.snoc hro (fun j hj e => by
  rw [row_getD xs j hj] at e
  have := hrow0 j (by simpa using hj)
  have e' : (xs.getD j default).g = R.g := e
  omega) hR3
 refine ⟨⟨?_, ?_⟩, n1, fun j hj => ?_, n3, n4⟩
 · rw [List.length_append, cellsShelf_snoc]
   exact ho
 · rw [List.map_append]
   exact ⟨h5.row, h5.apart, h5.far⟩
 · by_cases e : j < xs.length
   · rw [getD_snoc_lt e]; exact n2 j e
   · obtain rfl : j = xs.length := by simp at hj; omega
     rw [getD_snoc_eq]
     have := h0.lt
     omega
end Go.Proofs.Ytcblpoeeembniaa
