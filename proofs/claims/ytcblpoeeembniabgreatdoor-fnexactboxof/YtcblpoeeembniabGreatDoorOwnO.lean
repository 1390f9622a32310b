/- Rows of rows that are nil, of none, or owned: read, marked, held. -/
import Derived.Test.YtcblpoeeembniabGreatDoorPkH
import Derived.Test.YtcblpoeeembniabGreatDoorPkE
namespace Go.Proofs.YtcblpoeeembniabGreatDoor
open Go.RowKit
set_option linter.unusedVariables false

def Own2A (w : World) (B : Nat) (a : Option Addr) (c : Nat) (xs : List RowV) : Prop := (a = none ∧ c = 0 ∧ xs = []) ∨ ∃ g, a = some ⟨g, 0, none⟩ ∧ Own2 w B g c xs
theorem Own2A.later {w w' : World} {B : Nat} {a : Option Addr} {c : Nat} {xs : List RowV} (h : Own2A w B a c xs) (hb : Below w.heap.size w w') : Own2A w' B a c xs := by
 rcases h with h | ⟨g, e, h⟩
 · exact .inl h
 · exact .inr ⟨g, e, h.later hb⟩
theorem Own2A.low {w : World} {B B' : Nat} {a : Option Addr} {c : Nat} {xs : List RowV} (h : Own2A w B a c xs) (hb : B' ≤ B) : Own2A w B' a c xs := by
 rcases h with h | ⟨g, e, h⟩
 · exact .inl h
 · exact .inr ⟨g, e, h.low hb⟩
theorem Own2A.read {w : World} {B : Nat} {a : Option Addr} {c : Nat} {xs : List RowV} (h : Own2A w B a c xs) : Rd2 w a xs.length (xs.map RowV.l) := by
 rcases h with ⟨rfl, rfl, rfl⟩ | ⟨g, rfl, h⟩
 · exact ⟨rfl, fun i hi => absurd hi (Nat.not_lt_zero _)⟩
 · exact h.read
theorem Turn3.own2 {w w' : World} {a b c : Nat} (h : Turn3 w w' a b c) {B g cap : Nat} {xs : List RowV} (ho : Own2 w B g cap xs) (ha : a < B) (hb : b < B) (hc : c < B) : Own2 w' B g cap xs := by
 obtain ⟨w1, w2, h1, h2, h3⟩ := h
 exact ((ho.kept h1 ha).kept h2 hb).kept h3 hc
theorem Own2A.turn {w w' : World} {B : Nat} {a : Option Addr} {c gp gt gi : Nat} {xs : List RowV} (h : Own2A w B a c xs) (t : Turn3 w w' gp gt gi) (h1 : gp < B) (h2 : gt < B) (h3 : gi < B) : Own2A w' B a c xs := by
 rcases h with h | ⟨g, e, h⟩
 · exact .inl h
 · exact .inr ⟨g, e, t.own2 h h1 h2 h3⟩
theorem Own2A.kept {w w' : World} {B b : Nat} {a : Option Addr} {c : Nat} {xs : List RowV} (h : Own2A w B a c xs) (hg : w.grownBy w' (some b)) (hb : b < B) : Own2A w' B a c xs := by
 rcases h with h | ⟨g, e, h⟩
 · exact .inl h
 · exact .inr ⟨g, e, h.kept hg hb⟩
end Go.Proofs.YtcblpoeeembniabGreatDoor
