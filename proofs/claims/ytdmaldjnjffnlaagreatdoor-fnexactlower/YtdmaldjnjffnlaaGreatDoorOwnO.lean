/- Rows of rows that are nil, of none, or owned: read, marked, held. -/
import Derived.Test.YtdmaldjnjffnlaaGreatDoorPkH
import Derived.Test.YtdmaldjnjffnlaaGreatDoorPkE
namespace Go.Proofs.YtdmaldjnjffnlaaGreatDoor
open Go.RowKit
set_option linter.unusedVariables false

def Own2A (w : World) (B : Nat) (a : Option Addr) (c : Nat) (xs : List RowV) : Prop := (a = none ∧ c = 0 ∧ xs = []) ∨ ∃ g, a = some ⟨g, 0, none⟩ ∧ Own2 w B g c xs
theorem Own2A.later {w w' : World} {B : Nat} {a : Option Addr} {c : Nat} {xs : List RowV} (h : Own2A w B a c xs) (hb : Below w.heap.size w w') : Own2A w' B a c xs := by
  rcases h with h | ⟨g, e, h⟩
  · exact .inl h
  · exact .inr ⟨g, e, h.later hb⟩
theorem Own2A.low {w : World} {B B' : Nat} {a : Option Addr} {c : Nat} {xs : List RowV} (h : Own2A w B a c xs) (hb : B' ≤ B) : Own2A w B' a c xs := by
  rcases h with h | ⟨g, e, h⟩
  · exact .inl h
  · exact .inr ⟨g, e, h.low hb⟩
theorem Own2A.read {w : World} {B : Nat} {a : Option Addr} {c : Nat} {xs : List RowV} (h : Own2A w B a c xs) : Rd2 w a xs.length (xs.map RowV.l) := by
  rcases h with ⟨rfl, rfl, rfl⟩ | ⟨g, rfl, h⟩
  · exact ⟨rfl, fun i hi => absurd hi (Nat.not_lt_zero _)⟩
  · exact h.read
theorem Turn3.own2 {w w' : World} {a b c : Nat} (h : Turn3 w w' a b c) {B g cap : Nat} {xs : List RowV} (ho : Own2 w B g cap xs) (ha : a < B) (hb : b < B) (hc : c < B) : Own2 w' B g cap xs := by
  obtain ⟨w1, w2, h1, h2, h3⟩ := h
  exact ((ho.kept h1 ha).kept h2 hb).kept h3 hc
theorem Own2A.turn {w w' : World} {B : Nat} {a : Option Addr} {c gp gt gi : Nat} {xs : List RowV} (h : Own2A w B a c xs) (t : Turn3 w w' gp gt gi) (h1 : gp < B) (h2 : gt < B) (h3 : gi < B) : Own2A w' B a c xs := by
  rcases h with h | ⟨g, e, h⟩
  · exact .inl h
  · exact .inr ⟨g, e, t.own2 h h1 h2 h3⟩
theorem Own2A.kept {w w' : World} {B b : Nat} {a : Option Addr} {c : Nat} {xs : List RowV} (h : Own2A w B a c xs) (hg : w.grownBy w' (some b)) (hb : b < B) : Own2A w' B a c xs := by
  rcases h with h | ⟨g, e, h⟩
  · exact .inl h
  · exact .inr ⟨g, e, h.kept hg hb⟩
theorem markIntSS_nil (k0 : Nat) (w : World) (hk1 : k0 ≤ 1000000) : Calls Tryz.prog 19 #[.slice none 0 0, .int .i64 (k0 : Int)] w fun e w' => e = .returned (.int .i64 (k0 : Int)) ∧ w' = w := by
  go_enter Tryz.func19, Tryz.ntmps19
  go_wp2
  refine wp_loop_rounds 1 ?_
  rw [rounds_succ]
  go_wp2
  go_ret
  exact ⟨rfl, rfl⟩
theorem markIntSS_opt (B : Nat) (a : Option Addr) (c k0 : Nat) (xs : List RowV) (w : World) (h : Own2A w B a c xs) (hn : xs.length ≤ 1048576) (ht : totR xs ≤ 1048576) (hk1 : k0 ≤ 1000000) (hB : B ≤ w.heap.size) :
    Calls Tryz.prog 19 #[.slice a xs.length c, .int .i64 (k0 : Int)] w fun e w' => e = .returned (.int .i64 ((k0 + totR xs : Nat) : Int)) ∧ Own2A w' B a c (markTo k0 xs) ∧ Below B w w' := by
  rcases h with ⟨rfl, rfl, rfl⟩ | ⟨g, rfl, h⟩
  · refine (markIntSS_nil k0 w hk1).mono ?_
    rintro e w' ⟨rfl, rfl⟩
    exact ⟨rfl, .inl ⟨rfl, rfl, rfl⟩, Below.refl _ _⟩
  · refine (markIntSS_any B g c k0 xs w h hn ht hk1 hB).mono ?_
    rintro e w' ⟨rfl, hm, hb⟩
    exact ⟨rfl, .inr ⟨g, rfl, hm⟩, hb⟩
theorem heldIntSS_nil (k0 : Nat) (w : World) (hk1 : k0 ≤ 1000000) : Calls Tryz.prog 20 #[.slice none 0 0, .int .i64 (k0 : Int)] w fun e w' => e = .returned (.int .i64 (k0 : Int)) ∧ w' = w := by
  go_enter Tryz.func20, Tryz.ntmps20
  go_wp2
  refine wp_loop_rounds 1 ?_
  rw [rounds_succ]
  go_wp2
  go_ret
  exact ⟨rfl, rfl⟩
theorem heldIntSS_opt (B : Nat) (a : Option Addr) (c k0 : Nat) (xs : List RowV) (w : World) (h : Own2A w B a c (markTo k0 xs)) (hn : xs.length ≤ 1048576) (ht : totR xs ≤ 1048576) (hk1 : k0 ≤ 1000000) :
    Calls Tryz.prog 20 #[.slice a xs.length c, .int .i64 (k0 : Int)] w fun e w' => e = .returned (.int .i64 ((k0 + totR xs : Nat) : Int)) ∧ w' = w := by
  rcases h with ⟨rfl, rfl, hx⟩ | ⟨g, rfl, h⟩
  · have hl := markTo_len xs k0
    rw [hx] at hl
    obtain rfl : xs = [] := List.eq_nil_of_length_eq_zero hl.symm
    exact heldIntSS_nil k0 w hk1
  · exact heldIntSS_any B g c k0 xs w h hn ht hk1
end Go.Proofs.YtdmaldjnjffnlaaGreatDoor
