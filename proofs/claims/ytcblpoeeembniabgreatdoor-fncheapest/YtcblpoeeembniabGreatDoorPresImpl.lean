/- Present of the program. -/
import Derived.Test.YtcblpoeeembniabGreatDoorShelf
import Derived.Test.YtcblpoeeembniabGreatDoorSortO
import Derived.Test.YtcblpoeeembniabGreatDoorUnitsImpl
import Derived.Test.YtcblpoeeembniabGreatDoorSpecUnits
import Derived.Lib.RowBridge
namespace Go.Proofs.YtcblpoeeembniabGreatDoor
open Go.RowKit
set_option linter.unusedVariables false

theorem setCells_write : ∀ (vs : List Value) (w : World) (g p : Nat), w.setCells g p vs = writeCells w g p vs
 | [], _, _, _ => rfl
 | v :: vs, w, g, p => setCells_write vs _ g (p + 1)
theorem gbs_write {w : World} {g : Nat} : ∀ (vs : List Value) (W : World) (p : Nat), w.grownBy W (some g) → w.grownBy (writeCells W g p vs) (some g)
 | [], _, _, h => h
 | v :: vs, W, p, h => gbs_write vs _ _ (gb_set h p v)
theorem writeRow_all (L vs : List Value) (h : vs.length = L.length) : writeRow L 0 vs = vs := by
 apply List.ext_getElem?
 intro m
 rw [writeRow_get vs L 0 m (by omega)]
 by_cases hm : m < vs.length
 · rw [if_pos ⟨Nat.zero_le _, by omega⟩, Nat.sub_zero]
 · rw [if_neg (by omega), List.getElem?_eq_none (by omega), List.getElem?_eq_none (by omega)]
theorem own_prefix {w : World} {B e g n cap m : Nat} {xs : List Value} (h : w.ownsRow B e 1 (.slice (some ⟨g, 0, none⟩) n cap) n xs) (hm : m ≤ n) : w.ownsRow B e 1 (.slice (some ⟨g, 0, none⟩) m cap) m (xs.take m) := by
 refine ⟨by rw [List.length_take, h.1]; omega, ?_⟩
 rcases h.2 with ⟨h', _⟩ | ⟨g', cap', cur, h1, h2, h3, h4, h5, h6, h7⟩
 · cases h'
 · cases h1
   refine Or.inr ⟨g, cap, cur, rfl, h2, h3, by omega, h5, h6, ?_⟩
   rw [← h7, List.take_take]
   congr 1
   omega
theorem own_le {w : World} {B e g n cap : Nat} {xs : List Value} (h : w.ownsRow B e 1 (.slice (some ⟨g, 0, none⟩) n cap) n xs) : n ≤ cap := by
 rcases h.2 with ⟨h', _⟩ | ⟨g', cap', cur, h1, h2, h3, h4, h5, h6, h7⟩
 · cases h'
 · cases h1; exact h4

end Go.Proofs.YtcblpoeeembniabGreatDoor
