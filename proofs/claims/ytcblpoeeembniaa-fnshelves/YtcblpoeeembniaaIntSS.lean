/- Slices of slices of numbers: read, owned; the laws' own sizes, copies and comparisons of them. -/
import Derived.Test.YtcblpoeeembniaaInts
import Derived.Deep.RegionWith
import Derived.Deep.Onto
import Derived.Deep.DeepMust
namespace Go.Proofs.Ytcblpoeeembniaa
open Go.RowKit
set_option linter.unusedVariables false

/-- The slice at 'a' of length 'n' holds slices that hold 'gs'. -/
def Rd2 (w : World) (a : Option Addr) (n : Nat) (gs : List (List Int)) : Prop :=
 gs.length = n ∧ ∀ i, i < n → ∃ b off ai ci, a = some ⟨b, off, none⟩ ∧ w.cell? ⟨b, off + i, none⟩ = some (.slice ai (gs.getD i []).length ci) ∧ Rd w ai (gs.getD i []).length (gs.getD i [])
theorem Rd2.mono {w w' : World} {a : Option Addr} {n : Nat} {gs : List (List Int)} (h : Rd2 w a n gs) (hb : Below w.heap.size w w') : Rd2 w' a n gs :=
 ⟨h.1, fun i hi => by
  obtain ⟨b, off, ai, ci, ha, hc, hr⟩ := h.2 i hi
  exact ⟨b, off, ai, ci, ha, (hb.cell (World.block_lt_of_cell? w _ hc)).trans hc, hr.mono hb⟩⟩
/-- A row of numbers in a block of its own. -/
structure RowV where (g cap : Nat) (l : List Int)
deriving Inhabited
def RowV.val (r : RowV) : Value := .slice (some ⟨r.g, 0, none⟩) r.l.length r.cap
def RowV.own (w : World) (B : Nat) (r : RowV) : Prop := w.ownsRow B 3 1 (.slice (some ⟨r.g, 0, none⟩) r.l.length r.cap) r.l.length (r.l.map (Value.int .i64))
theorem RowV.own.lt {w : World} {B : Nat} {r : RowV} (h : RowV.own w B r) : B ≤ r.g ∧ r.g < w.heap.size := World.ownsRow.lt h r.g rfl
theorem RowV.own.later {w w' : World} {B : Nat} {r : RowV} (h : RowV.own w B r) (hb : Below w.heap.size w w') : RowV.own w' B r := own_later h hb
theorem RowV.own.kept {w w' : World} {B : Nat} {r : RowV} {row : Option Nat} (h : RowV.own w B r) (hg : w.grownBy w' row) (hne : some r.g ≠ row) : RowV.own w' B r :=
 World.ownsRow.kept h hg (Or.inr (fun e => hne e))
theorem getD_snoc_lt {α : Type} {xs : List α} {r d : α} {i : Nat} (h : i < xs.length) : (xs ++ [r]).getD i d = xs.getD i d := by
 simp only [List.getD_eq_getElem?_getD]
 rw [List.getElem?_append_left h]
theorem getD_snoc_eq {α : Type} {xs : List α} {r d : α} : (xs ++ [r]).getD xs.length d = r := by
 simp [List.getD_eq_getElem?_getD]
theorem getD_put_eq {α : Type} {xs : List α} {r d : α} {i : Nat} (h : i < xs.length) : (xs.set i r).getD i d = r := by
 simp [List.getD_eq_getElem?_getD, h]
theorem getD_put_ne {α : Type} {xs : List α} {r d : α} {i j : Nat} (h : i ≠ j) : (xs.set i r).getD j d = xs.getD j d := by
 simp only [List.getD_eq_getElem?_getD]
 rw [List.getElem?_set_ne h]
/-- Rows, each owned, no two in one place, none where the outer row is. -/
structure Rws (w : World) (B g : Nat) (xs : List RowV) : Prop where
 row : ∀ i, i < xs.length → RowV.own w B (xs.getD i default)
 apart : ∀ i j, i < xs.length → j < xs.length → (xs.getD i default).g = (xs.getD j default).g → i = j
 far : ∀ i, i < xs.length → (xs.getD i default).g ≠ g
theorem Rws.nil {w : World} {B g : Nat} : Rws w B g [] := ⟨fun _ h => absurd h (Nat.not_lt_zero _), fun _ _ h => absurd h (Nat.not_lt_zero _), fun _ h => absurd h (Nat.not_lt_zero _)⟩
theorem Rws.later {w w' : World} {B g : Nat} {xs : List RowV} (h : Rws w B g xs) (hb : Below w.heap.size w w') : Rws w' B g xs := ⟨fun i hi => (h.row i hi).later hb, h.apart, h.far⟩
theorem Rws.kept {w w' : World} {B g : Nat} {xs : List RowV} {row : Option Nat} (h : Rws w B g xs) (hg : w.grownBy w' row) (hne : ∀ i, i < xs.length → some (xs.getD i default).g ≠ row) : Rws w' B g xs :=
 ⟨fun i hi => (h.row i hi).kept hg (hne i hi), h.apart, h.far⟩
theorem Rws.snoc {w : World} {B g : Nat} {xs : List RowV} (h : Rws w B g xs) {r : RowV} (hr : RowV.own w B r) (hn : ∀ i, i < xs.length → (xs.getD i default).g ≠ r.g) (hf : r.g ≠ g) : Rws w B g (xs ++ [r]) := by
 have key : ∀ i, i < (xs ++ [r]).length → i < xs.length ∧ (xs ++ [r]).getD i default = xs.getD i default ∨ i = xs.length ∧ (xs ++ [r]).getD i default = r := by
  intro i hi
  rw [List.length_append, List.length_singleton] at hi
  by_cases h1 : i < xs.length
  · exact Or.inl ⟨h1, getD_snoc_lt h1⟩
  · obtain rfl : i = xs.length := by omega
    exact Or.inr ⟨rfl, getD_snoc_eq⟩
 refine ⟨fun i hi => ?_, fun i j hi hj e => ?_, fun i hi => ?_⟩
 · rcases key i hi with ⟨h1, h2⟩ | ⟨h1, h2⟩ <;> rw [h2]
   · exact h.row i h1
   · exact hr
 · rcases key i hi with ⟨h1, h2⟩ | ⟨h1, h2⟩ <;> rcases key j hj with ⟨h3, h4⟩ | ⟨h3, h4⟩ <;> rw [h2, h4] at e
   · exact h.apart i j h1 h3 e
   · exact absurd e (hn i h1)
   · exact absurd e.symm (hn j h3)
   · omega
 · rcases key i hi with ⟨h1, h2⟩ | ⟨h1, h2⟩ <;> rw [h2]
   · exact h.far i h1
   · exact hf
theorem Rws.put {w : World} {B g : Nat} {xs : List RowV} {k : Nat} {r : RowV} (hrow : ∀ i, i < xs.length → i ≠ k → RowV.own w B (xs.getD i default)) (hap : ∀ i j, i < xs.length → j < xs.length → (xs.getD i default).g = (xs.getD j default).g → i = j) (hfar : ∀ i, i < xs.length → (xs.getD i default).g ≠ g)
 (hr : RowV.own w B r) (hn : ∀ i, i < xs.length → i ≠ k → (xs.getD i default).g ≠ r.g) (hf : r.g ≠ g) : Rws w B g (xs.set k r) := by
 have key : ∀ i, i < (xs.set k r).length → i < xs.length ∧ (i ≠ k ∧ (xs.set k r).getD i default = xs.getD i default ∨ i = k ∧ (xs.set k r).getD i default = r) := by
  intro i hi
  rw [List.length_set] at hi
  refine ⟨hi, ?_⟩
  by_cases h1 : i = k
  · subst h1
    exact Or.inr ⟨rfl, getD_put_eq hi⟩
  · exact Or.inl ⟨h1, getD_put_ne (fun e => h1 e.symm)⟩
 refine ⟨fun i hi => ?_, fun i j hi hj e => ?_, fun i hi => ?_⟩
 · rcases key i hi with ⟨h0, ⟨h1, h2⟩ | ⟨h1, h2⟩⟩ <;> rw [h2]
   · exact hrow i h0 h1
   · exact hr
 · rcases key i hi with ⟨h0, ⟨h1, h2⟩ | ⟨h1, h2⟩⟩ <;> rcases key j hj with ⟨h5, ⟨h3, h4⟩ | ⟨h3, h4⟩⟩ <;> rw [h2, h4] at e
   · exact hap i j h0 h5 e
   · exact absurd e (hn i h0 h1)
   · exact absurd e.symm (hn j h5 h3)
   · omega
 · rcases key i hi with ⟨h0, ⟨h1, h2⟩ | ⟨h1, h2⟩⟩ <;> rw [h2]
   · exact hfar i h0
   · exact hf
/-- A row of rows, all of it owned. -/
structure Own2 (w : World) (B g cap : Nat) (xs : List RowV) : Prop where
 out : w.ownsRow B 49 1 (.slice (some ⟨g, 0, none⟩) xs.length cap) xs.length (xs.map RowV.val)
 rws : Rws w B g xs
theorem Own2.later {w w' : World} {B g cap : Nat} {xs : List RowV} (h : Own2 w B g cap xs) (hb : Below w.heap.size w w') : Own2 w' B g cap xs := ⟨own_later h.out hb, h.rws.later hb⟩
theorem Own2.cell {w : World} {B g cap : Nat} {xs : List RowV} (h : Own2 w B g cap xs) (i : Nat) (hi : i < xs.length) : w.cell? ⟨g, i, none⟩ = some (xs.getD i default).val ∧ w.frozen? ⟨g, i, none⟩ = false := by
 refine ⟨(h.out.cellAt i (by omega)).trans ?_, h.out.frozenAt i⟩
 simp [hi]
theorem Own2.kept {w w' : World} {B g cap : Nat} {xs : List RowV} {b : Nat} (h : Own2 w B g cap xs) (hg : w.grownBy w' (some b)) (hb : b < B) : Own2 w' B g cap xs :=
 ⟨h.out.kept hg (Or.inr (by have := own_base h.out; intro e; simp [Value.ownBlock] at e; omega)), h.rws.kept hg fun i hi e => by have := (h.rws.row i hi).lt.1; injection e with e; omega⟩
theorem own_reads {w : World} {B : Nat} {r : RowV} (h : RowV.own w B r) : Rd w (some ⟨r.g, 0, none⟩) r.l.length r.l := Rd.of_owns h
theorem Own2.read {w : World} {B g cap : Nat} {xs : List RowV} (h : Own2 w B g cap xs) : Rd2 w (some ⟨g, 0, none⟩) xs.length (xs.map RowV.l) := by
 refine ⟨by simp, fun i hi => ?_⟩
 have e : (xs.map RowV.l).getD i [] = (xs.getD i default).l := by simp [List.getD_eq_getElem?_getD, hi]
 rw [e]
 exact ⟨g, 0, some ⟨(xs.getD i default).g, 0, none⟩, (xs.getD i default).cap, rfl, by rw [Nat.zero_add]; exact (h.cell i hi).1, own_reads (h.rws.row i hi)⟩
theorem Own2.low {w : World} {B B' g cap : Nat} {xs : List RowV} (h : Own2 w B g cap xs) (hb : B' ≤ B) : Own2 w B' g cap xs :=
 ⟨h.out.mono hb, ⟨fun i hi => World.ownsRow.mono (h.rws.row i hi) hb, h.rws.apart, h.rws.far⟩⟩

def total2 (gs : List (List Int)) : Nat := (gs.map List.length).sum
theorem total2_step (gs : List (List Int)) (k : Nat) (h : k < gs.length) : total2 (gs.take (k + 1)) = total2 (gs.take k) + (gs.getD k []).length := by
 unfold total2
 rw [List.take_succ_eq_append_getElem h, List.map_append, List.sum_append]
 congr 1
 simp [h]
theorem total2_le (gs : List (List Int)) (k : Nat) (h : k < gs.length) : (gs.getD k []).length ≤ total2 gs := by
 have h1 := total2_step gs k h
 have h2 : total2 (gs.take (k + 1)) ≤ total2 gs := by
  unfold total2
  conv => rhs; rw [← List.take_append_drop (k + 1) gs, List.map_append, List.sum_append]
  omega
 omega

theorem szIntS_any (a : Option Addr) (n c : Nat) (l : Int) (w : World) (hn : n ≤ maxLen) (h0 : 0 ≤ l) (hl : l ≤ 1048576) :
 Calls Try.prog 54 #[.slice a n c, .int .i64 l] w fun e w' => e = .returned (.int .i64 (if l - n < 0 then -1 else l - n)) ∧ w' = w := by
 unfold maxLen at hn
 by_cases h : l - n < 0
 all_goals
  go_enter Try.func54, Try.ntmps54
  go_wp2
  go_ret
  exact ⟨rfl, rfl⟩
end Go.Proofs.Ytcblpoeeembniaa
