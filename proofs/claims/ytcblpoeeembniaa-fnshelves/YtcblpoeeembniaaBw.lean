/- Worlds that only grew since W; small laws on blocks. -/
import Derived.Test.YtcblpoeeembniaaStructs
namespace Go.Proofs.Ytcblpoeeembniaa
open Go.RowKit
set_option linter.unusedVariables false

theorem bw_call {W W' w1 : World} (h : Below W.heap.size W W') (hb : Below W'.heap.size W' w1) : Below W.heap.size W w1 := h.trans (hb.mono h.size)
theorem bw_alloc {W w : World} (h : Below W.heap.size W w) (o : Obj) : Below W.heap.size W (w.alloc o) := h.alloc h.size o
theorem bw_set {W w : World} (h : Below W.heap.size W w) {p : Addr} (hp : W.heap.size ≤ p.block) (u : Value) : Below W.heap.size W (w.setCell p u) := h.setCell hp u
theorem ret_boolF {a b : Bool} (h : a = b) : Ending.returned (.bool a) = .returned (.bool b) := by rw [h]
theorem Blk.fill3 {w : World} {g : Nat} {a b c x y z : Value} (h : Blk w g [a, b, c]) : Blk (((w.setCell ⟨g, 0, none⟩ x).setCell ⟨g, 1, none⟩ y).setCell ⟨g, 2, none⟩ z) g [x, y, z] :=
 ((h.set (j := 0) (v := x) (by simp)).set (j := 1) (v := y) (by simp)).set (j := 2) (v := z) (by simp)
theorem Blk.gb {w w' : World} {g g' : Nat} {cs : List Value} (h : Blk w g cs) (hg : w.grownBy w' (some g')) (hlt : g < w.heap.size) (hne : g ≠ g') : Blk w' g cs :=
 fun i hi => ⟨(World.cell?_of_block (w := w) (hg.block g hlt (by intro e; cases e; exact hne rfl))).trans (h i hi).1, (World.frozen?_of_block (w := w) (hg.block g hlt (by intro e; cases e; exact hne rfl))).trans (h i hi).2⟩
end Go.Proofs.Ytcblpoeeembniaa
