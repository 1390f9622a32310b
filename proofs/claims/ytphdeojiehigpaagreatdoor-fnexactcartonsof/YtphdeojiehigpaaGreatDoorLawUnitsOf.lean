/- The law of FnExactUnitsOf, walked. -/
import Derived.Test.YtphdeojiehigpaaGreatDoorUnitsOfImpl
import Derived.Test.YtphdeojiehigpaaGreatDoorSpecUnitsOf
import Derived.Test.YtphdeojiehigpaaGreatDoorPkH
import Derived.Test.YtphdeojiehigpaaGreatDoorPkE
import Derived.Deep.DeepMust
import Derived.Deep.DeepCutAuto
namespace Go.Proofs.YtphdeojiehigpaaGreatDoor
open Go.RowKit
set_option linter.unusedVariables false
/-- A slice of numbers that is nil, of none, or owned. -/
def OwnA (w : World) (B : Nat) (a : Option Addr) (n c : Nat) (L : List Int) : Prop := (a = none ∧ n = 0 ∧ c = 0 ∧ L = []) ∨ ∃ g, a = some ⟨g, 0, none⟩ ∧ w.ownsRow B 3 1 (.slice (some ⟨g, 0, none⟩) n c) n (ci L)
theorem OwnA.later {w w' : World} {B : Nat} {a : Option Addr} {n c : Nat} {L : List Int} (h : OwnA w B a n c L) (hb : Below w.heap.size w w') : OwnA w' B a n c L := by
  rcases h with h | ⟨g, e, h⟩
  · exact .inl h
  · exact .inr ⟨g, e, own_later h hb⟩
theorem OwnA.read {w : World} {B : Nat} {a : Option Addr} {n c : Nat} {L : List Int} (h : OwnA w B a n c L) : Rd w a n L := by
  rcases h with ⟨rfl, rfl, rfl, rfl⟩ | ⟨g, rfl, h⟩
  · exact ⟨rfl, fun i hi => absurd hi (Nat.not_lt_zero _)⟩
  · exact Rd.of_owns h
theorem OwnA.turn {w w' : World} {B : Nat} {a : Option Addr} {n c gp gt gi : Nat} {L : List Int} (h : OwnA w B a n c L) (t : Turn3 w w' gp gt gi) (h1 : gp < B) (h2 : gt < B) (h3 : gi < B) : OwnA w' B a n c L := by
  rcases h with h | ⟨g, e, h⟩
  · exact .inl h
  · have := own_base h
    exact .inr ⟨g, e, t.own h (by omega) (by omega) (by omega)⟩
theorem unitsOf_opt (r : ReqV) (h : ReqH) (k : Int) (w : World) (hr : RdReq w r h) (hs : r.small) (hg : ErrT w) :
    Calls Tryz.prog 62 #[reqVal r h, .int .i64 k] w fun e w' => ∃ a c, e = .returned (.slice a (unitsOfR r k).length c) ∧ OwnA w' w.heap.size a (unitsOfR r k).length c (unitsOfR r k) ∧ Below w.heap.size w w' := by
  refine (unitsOf_any r h k w hr hs hg).mono ?_
  rintro e w' ⟨v, rfl, ht, hb⟩
  rcases ht with ⟨rfl, hz⟩ | ⟨g, cap, rfl, ho⟩
  · rw [hz]
    exact ⟨none, 0, rfl, .inl ⟨rfl, rfl, rfl, rfl⟩, hb⟩
  · exact ⟨_, cap, rfl, .inr ⟨g, rfl, ho⟩, hb⟩
end Go.Proofs.YtphdeojiehigpaaGreatDoor
