/- Ints, IntSS, Groups, Groups2, Groups3, IntMarks, Marks2: one text. -/
import Derived.Test.YtcblpoeeembniabGreatDoorPkA
import Derived.Deep.RegionWith
import Derived.Deep.Onto
import Derived.Deep.DeepMust
import Derived.Test.YtcblpoeeembniabGreatDoorPkI
import Derived.Deep.AppendLies
/- The laws' own helpers over slices of numbers: the copy and the comparison. -/
namespace Go.Proofs.YtcblpoeeembniabGreatDoor
open Go.RowKit

set_option maxHeartbeats 400000 in
/-- laws.toIntS: a new row of the same numbers; nothing that was there has turned. -/
theorem toIntS_any (a : Option Addr) (n c : Nat) (zs : List Int) (w : World) (hr : Rd w a n zs) (hn : n ≤ 1048576) :
 Calls Tryz.prog 31 #[.slice a n c] w fun e w' => e = .returned (.slice (some ⟨w.heap.size, 0, none⟩) n n) ∧
  w'.ownsRow w.heap.size 3 1 (.slice (some ⟨w.heap.size, 0, none⟩) n n) n (zs.map (Value.int .i64)) ∧ Below w.heap.size w w' := by
 obtain ⟨i0, hi, hz0, hz1, hz2⟩ := info_parts Tryz.infoInt
 have hbb : i0.bytes * n ≤ 281474976710656 := by rw [hz2]; omega
 go_enter Tryz.func31, Tryz.ntmps31
 go_wp2_with (first
  | (at_make; refine wpList_make_full _ rfl _ _ 29 rfl w.heap.size 3 i0 (.int .i64 0) 1 Tryz.underlying29 hi hz0 hz1 .i64 .i64 n n n rfl rfl rfl rfl hbb (by unfold maxLen; omega) (Nat.le_refl _) ?_; intro w1 hown hgrow)
  | go_in)
 have hown0 : w1.ownsRow w.heap.size 3 1 (.slice (some ⟨w.heap.size, 0, none⟩) n n) n ((zs.take 0).map (Value.int .i64) ++ List.replicate (n - 0) (.int .i64 0)) := by
  simpa [toList_madeCells_one, Value.cells] using hown
 have hb1 : Below w.heap.size w w1 := (Below.refl _ _).grown hgrow (Nat.le_refl _) (by simp)
 clear hown hgrow
 go_loopw [4] (fun i wr => ∃ k : Nat, k ≤ n ∧ i = .int .i64 k ∧ wr.ownsRow w.heap.size 3 1 (.slice (some ⟨w.heap.size, 0, none⟩) n n) n ((zs.take k).map (Value.int .i64) ++ List.replicate (n - k) (.int .i64 0)) ∧ Below w.heap.size w wr) (fun i _ => n - (intOf i).toNat)
 case atStart => exact ⟨0, Nat.zero_le _, rfl, hown0, hb1⟩
 case round =>
  obtain ⟨k, hk, rfl, hown, hbel⟩ := hrel
  by_cases hlt : k < n
  · obtain ⟨b, off, rfl, hc⟩ := hr.2 k hlt
    have hc1 : wr.cell? ⟨b, off + k, none⟩ = some (.int .i64 (zs.getD k 0)) := (hbel.cell (World.block_lt_of_cell? w _ hc)).trans hc
    have hc2 : wr.cell? ⟨w.heap.size, k, none⟩ = some (.int .i64 0) := (hown.cellAt k (by omega)).trans (fill_at zs n k hr.1 hlt)
    have hf2 : wr.frozen? ⟨w.heap.size, k, none⟩ = false := hown.frozenAt k
    have hst := hown.stored k (.int .i64 (zs.getD k 0))
    rw [fill_step zs n k hr.1 hlt] at hst
    have hst1 := hst.1
    have hbs : Below w.heap.size w (wr.setCell ⟨w.heap.size, k, none⟩ (.int .i64 (zs.getD k 0))) := hbel.setCell (Nat.le_refl _) _
    clear hst hown hbel hc hown0 hb1
    go_wp2
    go_roundw
    case rel => exact ⟨k + 1, by omega, by go_num, hst1, hbs⟩
    case measure => simp [intOf]; omega
  · have hkn : k = n := by omega
    subst hkn
    go_wp2
    go_ret
    refine ⟨rfl, ?_, hbel⟩
    have e : zs.take k = zs := List.take_of_length_le (by have := hr.1; omega)
    simpa [e] using hown

set_option maxHeartbeats 400000 in
/-- laws.eqIntS at two slices of the same numbers. -/
theorem eqIntS_same (a : Option Addr) (n c : Nat) (a' : Option Addr) (c' : Nat) (zs : List Int) (w : World) (hr : Rd w a n zs) (hr' : Rd w a' n zs) (hn : n ≤ 1048576) :
 Calls Tryz.prog 39 #[.slice a n c, .slice a' n c'] w fun e w' => e = .returned (.bool true) ∧ Below w.heap.size w w' := by
 have hne : ((n : Int) != (n : Int)) = false := by simp
 go_enter Tryz.func39, Tryz.ntmps39
 go_wp2
 go_loopw [5] (fun i wr => ∃ k : Nat, k ≤ n ∧ i = .int .i64 k ∧ Below w.heap.size w wr) (fun i _ => n - (intOf i).toNat)
 case atStart => exact ⟨0, Nat.zero_le _, rfl, Below.refl _ _⟩
 case round =>
  obtain ⟨k, hk, rfl, hbel⟩ := hrel
  by_cases hlt : k < n
  · obtain ⟨b, off, rfl, hc⟩ := hr.2 k hlt
    obtain ⟨b', off', rfl, hc'⟩ := hr'.2 k hlt
    have hc1 : wr.cell? ⟨b, off + k, none⟩ = some (.int .i64 (zs.getD k 0)) := (hbel.cell (World.block_lt_of_cell? w _ hc)).trans hc
    have hc2 : wr.cell? ⟨b', off' + k, none⟩ = some (.int .i64 (zs.getD k 0)) := (hbel.cell (World.block_lt_of_cell? w _ hc')).trans hc'
    clear hc hc'
    go_wp2
    go_quiet (fail)
    go_wp2
    go_roundw
    case rel => exact ⟨k + 1, by omega, by go_num, below_drewN hbel _⟩
    case measure => simp [intOf]; omega
  · go_wp2
    go_ret
    exact ⟨rfl, hbel⟩
end Go.Proofs.YtcblpoeeembniabGreatDoor

/- Slices of slices of numbers: read, owned; the laws' own sizes, copies and comparisons of them. -/
namespace Go.Proofs.YtcblpoeeembniabGreatDoor
open Go.RowKit
set_option linter.unusedVariables false

/-- The slice at 'a' of length 'n' holds slices that hold 'gs'. -/
def Rd2 (w : World) (a : Option Addr) (n : Nat) (gs : List (List Int)) : Prop :=
 gs.length = n ∧ ∀ i, i < n → ∃ b off ai ci, a = some ⟨b, off, none⟩ ∧ w.cell? ⟨b, off + i, none⟩ = some (.slice ai (gs.getD i []).length ci) ∧ Rd w ai (gs.getD i []).length (gs.getD i [])
theorem Rd2.mono {w w' : World} {a : Option Addr} {n : Nat} {gs : List (List Int)} (h : Rd2 w a n gs) (hb : Below w.heap.size w w') : Rd2 w' a n gs :=
 ⟨h.1, fun i hi => by
  obtain ⟨b, off, ai, ci, ha, hc, hr⟩ := h.2 i hi
  exact ⟨b, off, ai, ci, ha, (hb.cell (World.block_lt_of_cell? w _ hc)).trans hc, hr.mono hb⟩⟩
/-- A row of numbers in a block of its own. -/
structure RowV where (g cap : Nat) (l : List Int)
deriving Inhabited
def RowV.val (r : RowV) : Value := .slice (some ⟨r.g, 0, none⟩) r.l.length r.cap
def RowV.own (w : World) (B : Nat) (r : RowV) : Prop := w.ownsRow B 3 1 (.slice (some ⟨r.g, 0, none⟩) r.l.length r.cap) r.l.length (r.l.map (Value.int .i64))
theorem RowV.own.lt {w : World} {B : Nat} {r : RowV} (h : RowV.own w B r) : B ≤ r.g ∧ r.g < w.heap.size := World.ownsRow.lt h r.g rfl
theorem RowV.own.later {w w' : World} {B : Nat} {r : RowV} (h : RowV.own w B r) (hb : Below w.heap.size w w') : RowV.own w' B r := own_later h hb
theorem RowV.own.kept {w w' : World} {B : Nat} {r : RowV} {row : Option Nat} (h : RowV.own w B r) (hg : w.grownBy w' row) (hne : some r.g ≠ row) : RowV.own w' B r :=
 World.ownsRow.kept h hg (Or.inr (fun e => hne e))
theorem getD_snoc_lt {α : Type} {xs : List α} {r d : α} {i : Nat} (h : i < xs.length) : (xs ++ [r]).getD i d = xs.getD i d := by
 simp only [List.getD_eq_getElem?_getD]
 rw [List.getElem?_append_left h]
theorem getD_snoc_eq {α : Type} {xs : List α} {r d : α} : (xs ++ [r]).getD xs.length d = r := by
 simp [List.getD_eq_getElem?_getD]
theorem getD_put_eq {α : Type} {xs : List α} {r d : α} {i : Nat} (h : i < xs.length) : (xs.set i r).getD i d = r := by
 simp [List.getD_eq_getElem?_getD, h]
theorem getD_put_ne {α : Type} {xs : List α} {r d : α} {i j : Nat} (h : i ≠ j) : (xs.set i r).getD j d = xs.getD j d := by
 simp only [List.getD_eq_getElem?_getD]
 rw [List.getElem?_set_ne h]
/-- Rows, each owned, no two in one place, none where the outer row is. -/
structure Rws (w : World) (B g : Nat) (xs : List RowV) : Prop where
 row : ∀ i, i < xs.length → RowV.own w B (xs.getD i default)
 apart : ∀ i j, i < xs.length → j < xs.length → (xs.getD i default).g = (xs.getD j default).g → i = j
 far : ∀ i, i < xs.length → (xs.getD i default).g ≠ g
theorem Rws.nil {w : World} {B g : Nat} : Rws w B g [] := ⟨fun _ h => absurd h (Nat.not_lt_zero _), fun _ _ h => absurd h (Nat.not_lt_zero _), fun _ h => absurd h (Nat.not_lt_zero _)⟩
theorem Rws.later {w w' : World} {B g : Nat} {xs : List RowV} (h : Rws w B g xs) (hb : Below w.heap.size w w') : Rws w' B g xs := ⟨fun i hi => (h.row i hi).later hb, h.apart, h.far⟩
theorem Rws.kept {w w' : World} {B g : Nat} {xs : List RowV} {row : Option Nat} (h : Rws w B g xs) (hg : w.grownBy w' row) (hne : ∀ i, i < xs.length → some (xs.getD i default).g ≠ row) : Rws w' B g xs :=
 ⟨fun i hi => (h.row i hi).kept hg (hne i hi), h.apart, h.far⟩
theorem Rws.snoc {w : World} {B g : Nat} {xs : List RowV} (h : Rws w B g xs) {r : RowV} (hr : RowV.own w B r) (hn : ∀ i, i < xs.length → (xs.getD i default).g ≠ r.g) (hf : r.g ≠ g) : Rws w B g (xs ++ [r]) := by
 have key : ∀ i, i < (xs ++ [r]).length → i < xs.length ∧ (xs ++ [r]).getD i default = xs.getD i default ∨ i = xs.length ∧ (xs ++ [r]).getD i default = r := by
  intro i hi
  rw [List.length_append, List.length_singleton] at hi
  by_cases h1 : i < xs.length
  · exact Or.inl ⟨h1, getD_snoc_lt h1⟩
  · obtain rfl : i = xs.length := by omega
    exact Or.inr ⟨rfl, getD_snoc_eq⟩
 refine ⟨fun i hi => ?_, fun i j hi hj e => ?_, fun i hi => ?_⟩
 · rcases key i hi with ⟨h1, h2⟩ | ⟨h1, h2⟩ <;> rw [h2]
   · exact h.row i h1
   · exact hr
 · rcases key i hi with ⟨h1, h2⟩ | ⟨h1, h2⟩ <;> rcases key j hj with ⟨h3, h4⟩ | ⟨h3, h4⟩ <;> rw [h2, h4] at e
   · exact h.apart i j h1 h3 e
   · exact absurd e (hn i h1)
   · exact absurd e.symm (hn j h3)
   · omega
 · rcases key i hi with ⟨h1, h2⟩ | ⟨h1, h2⟩ <;> rw [h2]
   · exact h.far i h1
   · exact hf
theorem Rws.put {w : World} {B g : Nat} {xs : List RowV} {k : Nat} {r : RowV} (hrow : ∀ i, i < xs.length → i ≠ k → RowV.own w B (xs.getD i default)) (hap : ∀ i j, i < xs.length → j < xs.length → (xs.getD i default).g = (xs.getD j default).g → i = j) (hfar : ∀ i, i < xs.length → (xs.getD i default).g ≠ g)
 (hr : RowV.own w B r) (hn : ∀ i, i < xs.length → i ≠ k → (xs.getD i default).g ≠ r.g) (hf : r.g ≠ g) : Rws w B g (xs.set k r) := by
 have key : ∀ i, i < (xs.set k r).length → i < xs.length ∧ (i ≠ k ∧ (xs.set k r).getD i default = xs.getD i default ∨ i = k ∧ (xs.set k r).getD i default = r) := by
  intro i hi
  rw [List.length_set] at hi
  refine ⟨hi, ?_⟩
  by_cases h1 : i = k
  · subst h1
    exact Or.inr ⟨rfl, getD_put_eq hi⟩
  · exact Or.inl ⟨h1, getD_put_ne (fun e => h1 e.symm)⟩
 refine ⟨fun i hi => ?_, fun i j hi hj e => ?_, fun i hi => ?_⟩
 · rcases key i hi with ⟨h0, ⟨h1, h2⟩ | ⟨h1, h2⟩⟩ <;> rw [h2]
   · exact hrow i h0 h1
   · exact hr
 · rcases key i hi with ⟨h0, ⟨h1, h2⟩ | ⟨h1, h2⟩⟩ <;> rcases key j hj with ⟨h5, ⟨h3, h4⟩ | ⟨h3, h4⟩⟩ <;> rw [h2, h4] at e
   · exact hap i j h0 h5 e
   · exact absurd e (hn i h0 h1)
   · exact absurd e.symm (hn j h5 h3)
   · omega
 · rcases key i hi with ⟨h0, ⟨h1, h2⟩ | ⟨h1, h2⟩⟩ <;> rw [h2]
   · exact hfar i h0
   · exact hf
/-- A row of rows, all of it owned. -/
structure Own2 (w : World) (B g cap : Nat) (xs : List RowV) : Prop where
 out : w.ownsRow B 29 1 (.slice (some ⟨g, 0, none⟩) xs.length cap) xs.length (xs.map RowV.val)
 rws : Rws w B g xs
theorem Own2.later {w w' : World} {B g cap : Nat} {xs : List RowV} (h : Own2 w B g cap xs) (hb : Below w.heap.size w w') : Own2 w' B g cap xs := ⟨own_later h.out hb, h.rws.later hb⟩
theorem Own2.cell {w : World} {B g cap : Nat} {xs : List RowV} (h : Own2 w B g cap xs) (i : Nat) (hi : i < xs.length) : w.cell? ⟨g, i, none⟩ = some (xs.getD i default).val ∧ w.frozen? ⟨g, i, none⟩ = false := by
 refine ⟨(h.out.cellAt i (by omega)).trans ?_, h.out.frozenAt i⟩
 simp [hi]
theorem Own2.kept {w w' : World} {B g cap : Nat} {xs : List RowV} {b : Nat} (h : Own2 w B g cap xs) (hg : w.grownBy w' (some b)) (hb : b < B) : Own2 w' B g cap xs :=
 ⟨h.out.kept hg (Or.inr (by have := own_base h.out; intro e; simp [Value.ownBlock] at e; omega)), h.rws.kept hg fun i hi e => by have := (h.rws.row i hi).lt.1; injection e with e; omega⟩
theorem own_reads {w : World} {B : Nat} {r : RowV} (h : RowV.own w B r) : Rd w (some ⟨r.g, 0, none⟩) r.l.length r.l := Rd.of_owns h
theorem Own2.read {w : World} {B g cap : Nat} {xs : List RowV} (h : Own2 w B g cap xs) : Rd2 w (some ⟨g, 0, none⟩) xs.length (xs.map RowV.l) := by
 refine ⟨by simp, fun i hi => ?_⟩
 have e : (xs.map RowV.l).getD i [] = (xs.getD i default).l := by simp [List.getD_eq_getElem?_getD, hi]
 rw [e]
 exact ⟨g, 0, some ⟨(xs.getD i default).g, 0, none⟩, (xs.getD i default).cap, rfl, by rw [Nat.zero_add]; exact (h.cell i hi).1, own_reads (h.rws.row i hi)⟩
theorem Own2.low {w : World} {B B' g cap : Nat} {xs : List RowV} (h : Own2 w B g cap xs) (hb : B' ≤ B) : Own2 w B' g cap xs :=
 ⟨h.out.mono hb, ⟨fun i hi => World.ownsRow.mono (h.rws.row i hi) hb, h.rws.apart, h.rws.far⟩⟩

def total2 (gs : List (List Int)) : Nat := (gs.map List.length).sum
theorem total2_step (gs : List (List Int)) (k : Nat) (h : k < gs.length) : total2 (gs.take (k + 1)) = total2 (gs.take k) + (gs.getD k []).length := by
 unfold total2
 rw [List.take_succ_eq_append_getElem h, List.map_append, List.sum_append]
 congr 1
 simp [h]
theorem total2_le (gs : List (List Int)) (k : Nat) (h : k < gs.length) : (gs.getD k []).length ≤ total2 gs := by
 have h1 := total2_step gs k h
 have h2 : total2 (gs.take (k + 1)) ≤ total2 gs := by
  unfold total2
  conv => rhs; rw [← List.take_append_drop (k + 1) gs, List.map_append, List.sum_append]
  omega
 omega

theorem szIntS_any (a : Option Addr) (n c : Nat) (l : Int) (w : World) (hn : n ≤ maxLen) (h0 : 0 ≤ l) (hl : l ≤ 1048576) :
 Calls Tryz.prog 23 #[.slice a n c, .int .i64 l] w fun e w' => e = .returned (.int .i64 (if l - n < 0 then -1 else l - n)) ∧ w' = w := by
 unfold maxLen at hn
 by_cases h : l - n < 0
 all_goals
  go_enter Tryz.func23, Tryz.ntmps23
  go_wp2
  go_ret
  exact ⟨rfl, rfl⟩
end Go.Proofs.YtcblpoeeembniabGreatDoor

/- Groups, of the model and of the program. -/
namespace Go.Proofs.YtcblpoeeembniabGreatDoor
open Go.RowKit
set_option linter.unusedVariables false

set_option maxHeartbeats 1000000 in
theorem l3Joins_any (a : Option Addr) (n c : Nat) (ps : List PairV) (a' : Option Addr) (n' c' : Nat) (g : List Int) (x : Int) (w : World) (hr : RdR PairV.cells 2 w a n ps) (hr' : Rd w a' n' g) (hn : n ≤ 1048600) (hn' : n' ≤ 1048600) :
 Calls Tryz.prog 141 #[.slice a n c, .slice a' n' c', .int .i64 x] w fun e w' => e = .returned (.bool (joinsB ps g x)) ∧ w' = w := by
 have HC := hide (fun x y => specBeside_any a n c ps x y w hr hn)
 clear hr
 go_enter Tryz.func141, Tryz.ntmps141
 go_wp2
 go_loop [7] (fun i => ∃ k : Nat, k ≤ n' ∧ i = .int .i64 k ∧ (g.take k).all (fun k => besB ps k x && besB ps x k) = true) (fun i => n' - (intOf i).toNat)
 case atStart => exact ⟨0, Nat.zero_le _, rfl, rfl⟩
 case round =>
  obtain ⟨k, hk, rfl, h0⟩ := hrel
  have H0 := hide h0
  clear h0
  by_cases hlt : k < n'
  case neg =>
   have HE : Hid (joinsB ps g x = true) := take_all_end g _ k (by rw [hr'.1]; omega) H0.out
   go_wp2_with fail
   go_ret
   exact ⟨ret_bool HE.out.symm, rfl⟩
  obtain ⟨b, off, rfl, hc⟩ := hr'.2 k hlt
  have HS := hide (take_all_step g (fun k => besB ps k x && besB ps x k) k (by rw [hr'.1]; exact hlt))
  have HM := hide (all_miss g (fun k => besB ps k x && besB ps x k) k (by rw [hr'.1]; exact hlt))
  rw [show g.getD k 0 = g.getD k default from rfl] at hc
  generalize g.getD k default = q at hc HS HM
  clear hr'
  obtain ⟨u, hx⟩ : ∃ u, besB ps q x = u := ⟨_, rfl⟩
  obtain ⟨v, hy⟩ : ∃ v, besB ps x q = v := ⟨_, rfl⟩
  cases u
  case false =>
   have HR : Hid (joinsB ps g x = false) := HM.out (by rw [hx]; rfl)
   go_wp2_with (first | (go_at_call 82; refine (HC.out _ _).mono ?_; rintro e w' ⟨rfl, hw⟩; subst w'; first | rw [hx] | rw [hy]) | fail)
   go_ret
   exact ⟨ret_bool HR.out.symm, rfl⟩
  cases v
  case false =>
   have HR : Hid (joinsB ps g x = false) := HM.out (by rw [hx, hy]; rfl)
   go_wp2_with (first | (go_at_call 82; refine (HC.out _ _).mono ?_; rintro e w' ⟨rfl, hw⟩; subst w'; first | rw [hx] | rw [hy]) | fail)
   go_ret
   exact ⟨ret_bool HR.out.symm, rfl⟩
  go_wp2_with (first | (go_at_call 82; refine (HC.out _ _).mono ?_; rintro e w' ⟨rfl, hw⟩; subst w'; first | rw [hx] | rw [hy]) | fail)
  go_round
  case rel => exact ⟨k + 1, by omega, by go_num, by rw [unhide HS, unhide H0, hx, hy]; rfl⟩
  case measure => simp [intOf]; omega
end Go.Proofs.YtcblpoeeembniabGreatDoor

/- Groups, of the model and of the program: rows that grow, rows that come in behind. -/
namespace Go.Proofs.YtcblpoeeembniabGreatDoor
open Go.RowKit
set_option linter.unusedVariables false

theorem addTo_hit (ps : List PairV) (x : Int) : ∀ (gs : List (List Int)) (k : Nat), k < gs.length → (∀ j, j < k → joinsB ps (gs.getD j []) x = false) → joinsB ps (gs.getD k []) x = true → addTo ps x gs = gs.set k (gs.getD k [] ++ [x])
 | [], k, h, _, _ => absurd h (Nat.not_lt_zero _)
 | g :: gs, 0, _, _, h1 => by
  have h2 : joinsB ps g x = true := by simpa using h1
  simp [addTo, h2]
 | g :: gs, k + 1, h, h0, h1 => by
  have h2 : joinsB ps g x = false := by simpa using h0 0 (by omega)
  have ih := addTo_hit ps x gs k (by simpa using h) (fun j hj => by simpa using h0 (j + 1) (by omega)) (by simpa using h1)
  simp [addTo, h2, ih]
theorem addTo_none (ps : List PairV) (x : Int) : ∀ (gs : List (List Int)), (∀ j, j < gs.length → joinsB ps (gs.getD j []) x = false) → addTo ps x gs = gs ++ [[x]]
 | [], _ => rfl
 | g :: gs, h0 => by
  have h2 : joinsB ps g x = false := by simpa using h0 0 (by simp)
  have ih := addTo_none ps x gs (fun j hj => by simpa using h0 (j + 1) (by simpa using hj))
  simp [addTo, h2, ih]
def bnd (k : Nat) (gs : List (List Int)) : Prop := gs.length ≤ k ∧ ∀ g ∈ gs, g.length ≤ k
theorem addTo_len (ps : List PairV) (x : Int) : ∀ (gs : List (List Int)), (addTo ps x gs).length ≤ gs.length + 1
 | [] => by simp [addTo]
 | g :: gs => by
  have := addTo_len ps x gs
  unfold addTo
  split <;> simp <;> omega
theorem addTo_bnd {ps : List PairV} {x : Int} {k : Nat} : ∀ {gs : List (List Int)}, bnd k gs → bnd (k + 1) (addTo ps x gs)
 | [], _ => ⟨by simp [addTo], fun g hg => by simp [addTo] at hg; subst hg; simp⟩
 | g :: gs, h => by
  unfold addTo
  split
  · refine ⟨by have := h.1; simp at this ⊢; omega, fun q hq => ?_⟩
    rcases List.mem_cons.1 hq with rfl | hq
    · have := h.2 g (by simp); simp; omega
    · have := h.2 q (by simp [hq]); omega
  · have h' : bnd k gs := ⟨by have := h.1; simp at this; omega, fun q hq => h.2 q (by simp [hq])⟩
    have h1 := addTo_len ps x gs
    refine ⟨by have := h.1; simp at this ⊢; omega, fun q hq => ?_⟩
    rcases List.mem_cons.1 hq with rfl | hq
    · have := h.2 q (by simp); omega
    · exact (addTo_bnd h').2 q hq
theorem addIf_bnd {ps : List PairV} {pres : List Int} {x : Int} {k : Nat} {gs : List (List Int)} (h : bnd k gs) : bnd (k + 1) (addIf ps pres gs x) := by
 unfold addIf
 split
 · exact addTo_bnd h
 · exact ⟨by have := h.1; omega, fun g hg => by have := h.2 g hg; omega⟩
theorem bnd.row {k : Nat} {gs : List (List Int)} (h : bnd k gs) (i : Nat) (hi : i < gs.length) : (gs.getD i []).length ≤ k := by
 refine h.2 _ ?_
 rw [List.getD_eq_getElem?_getD, List.getElem?_eq_getElem hi]
 exact List.getElem_mem _
def groupsTo (ps : List PairV) (pres : List Int) (k : Nat) : List (List Int) := (kinds.take k).foldl (addIf ps pres) []
theorem groupsTo_step (ps : List PairV) (pres : List Int) (k : Nat) (h : k < 4) : groupsTo ps pres (k + 1) = addIf ps pres (groupsTo ps pres k) (k : Int) := by
 unfold groupsTo
 match k, h with
 | 0, _ => rfl
 | 1, _ => rfl
 | 2, _ => rfl
 | 3, _ => rfl
theorem groupsTo_bnd (ps : List PairV) (pres : List Int) : ∀ k, k ≤ 4 → bnd k (groupsTo ps pres k)
 | 0, _ => ⟨by simp [groupsTo], fun g hg => by simp [groupsTo] at hg⟩
 | k + 1, h => by
  rw [groupsTo_step ps pres k (by omega)]
  exact addIf_bnd (groupsTo_bnd ps pres k (by omega))
theorem map_getD_l (xs : List RowV) (i : Nat) (hi : i < xs.length) : (xs.map RowV.l).getD i [] = (xs.getD i default).l := by simp [List.getD_eq_getElem?_getD, hi]
/-- A row behind all. -/
theorem Own2.pushed {W w3 : World} {B g cap g3 cap3 H : Nat} {xs : List RowV} {r : RowV} (h : Own2 W B g cap xs) (hr : RowV.own W B r) (hrn : ∀ i, i < xs.length → (xs.getD i default).g ≠ r.g) (hrg : r.g ≠ g)
 (ho : w3.ownsRow B 29 1 (.slice (some ⟨g3, 0, none⟩) (xs.length + 1) cap3) (xs.length + 1) (xs.map RowV.val ++ [r.val])) (hg : W.grownBy w3 (some g)) (hat : some g = some g3 ∨ g3 = H) (hH : W.heap.size ≤ H) : Own2 w3 B g3 cap3 (xs ++ [r]) := by
 have hg3 : ∀ b, b < W.heap.size → b ≠ g → b ≠ g3 := fun b hb hne e => by
  rcases hat with h1 | h1
  · injection h1 with h1; exact hne (e.trans h1.symm)
  · omega
 have hk := h.rws.kept hg (fun i hi e => h.rws.far i hi (by injection e))
 refine ⟨?_, ?_⟩
 · rw [List.length_append, List.map_append]
   exact ho
 · refine Rws.snoc ⟨hk.row, hk.apart, fun i hi => hg3 _ (h.rws.row i hi).lt.2 (h.rws.far i hi)⟩ (hr.kept hg (fun e => hrg (by injection e))) hrn (hg3 _ hr.lt.2 hrg)
/-- One row longer. -/
theorem Own2.grew {W w3 : World} {B g cap H k : Nat} {xs : List RowV} {r : RowV} (h : Own2 W B g cap xs) (hk : k < xs.length) (ho : RowV.own w3 B r) (hg : W.grownBy w3 (some (xs.getD k default).g)) (hat : some (xs.getD k default).g = some r.g ∨ r.g = H) (hH : W.heap.size ≤ H) :
 w3.cell? ⟨g, k, none⟩ = some (xs.getD k default).val ∧ w3.frozen? ⟨g, k, none⟩ = false ∧ Own2 (w3.setCell ⟨g, k, none⟩ r.val) B g cap (xs.set k r) := by
 have hout : w3.ownsRow B 29 1 (.slice (some ⟨g, 0, none⟩) xs.length cap) xs.length (xs.map RowV.val) := h.out.kept hg (Or.inr (fun e => h.rws.far k hk (by injection e with e; exact e.symm)))
 have gs : w3.grownBy (w3.setCell ⟨g, k, none⟩ r.val) (some g) := gb_set (World.grownBy.refl _ _) _ _
 have hne : ∀ b, b < W.heap.size → b ≠ (xs.getD k default).g → b ≠ r.g := fun b hb h1 e => by
  rcases hat with h2 | h2
  · injection h2 with h2; exact h1 (e.trans h2.symm)
  · omega
 have hgl : g < W.heap.size := (h.out.lt g rfl).2
 have hrg : r.g ≠ g := fun e => hne g hgl (fun e2 => h.rws.far k hk e2.symm) e.symm
 refine ⟨?_, hout.frozenAt k, ?_, ?_⟩
 · refine (hout.cellAt k (by omega)).trans ?_
   simp [hk]
 · have h3 := (hout.stored k r.val).1
   rw [List.length_set, List.map_set]
   exact h3
 · refine Rws.put (fun i hi hik => ?_) h.rws.apart h.rws.far (ho.kept gs (fun e => hrg (by injection e))) (fun i hi hik => hne _ (h.rws.row i hi).lt.2 (fun e => hik (h.rws.apart i k hi hk e))) hrg
   refine ((h.rws.row i hi).kept hg (fun e => hik (h.rws.apart i k hi hk (by injection e)))).kept gs (fun e => h.rws.far i hi (by injection e))
theorem Tryz.infoIntS2 : (Tryz.prog.info? 29).map (fun i => (i.zero, i.size, i.bytes)) = some (some (.slice none 0 0), 1, 24) := by kernel_rfl
theorem Tryz.infoInt2 : (Tryz.prog.info? 3).map (fun i => (i.zero, i.size, i.bytes)) = some (some (.int .i64 0), 1, 8) := by kernel_rfl
end Go.Proofs.YtcblpoeeembniabGreatDoor

/- impl.Groups and spec.Groups: the same groups, every row of them new. -/
namespace Go.Proofs.YtcblpoeeembniabGreatDoor
open Go.RowKit
set_option linter.unusedVariables false

theorem groupsTo_four (ps : List PairV) (pres : List Int) : groupsTo ps pres 4 = groupsL ps pres := rfl
theorem own2_none (w : World) : Own2 (w.alloc (.cells #[] 29)) w.heap.size w.heap.size 0 [] := ⟨World.ownsRow_lit w #[] 0 (Nat.le_refl _) (Nat.zero_le _) rfl, Rws.nil⟩
/-- What the scan from the end has found by place k. -/
def scanned (ps : List PairV) (x : Int) (gs : List (List Int)) (k : Nat) (t : Int) : Prop :=
 (t = -1 ∧ ∀ j, k ≤ j → j < gs.length → joinsB ps (gs.getD j []) x = false) ∨ (∃ m : Nat, t = m ∧ k ≤ m ∧ m < gs.length ∧ joinsB ps (gs.getD m []) x = true ∧ ∀ j, k ≤ j → j < m → joinsB ps (gs.getD j []) x = false)
theorem scanned.miss {ps : List PairV} {x : Int} {gs : List (List Int)} {k : Nat} {t : Int} (h : scanned ps x gs (k + 1) t) (hj : joinsB ps (gs.getD k []) x = false) : scanned ps x gs k t := by
 have key : ∀ j, k ≤ j → j = k ∨ k + 1 ≤ j := fun j h => by omega
 rcases h with ⟨h1, h2⟩ | ⟨m, h1, h2, h3, h4, h5⟩
 · refine Or.inl ⟨h1, fun j hk hl => ?_⟩
   rcases key j hk with rfl | h
   · exact hj
   · exact h2 j h hl
 · refine Or.inr ⟨m, h1, by omega, h3, h4, fun j hk hl => ?_⟩
   rcases key j hk with rfl | h
   · exact hj
   · exact h5 j h hl
theorem scanned.hit {ps : List PairV} {x : Int} {gs : List (List Int)} {k : Nat} (hk : k < gs.length) (hj : joinsB ps (gs.getD k []) x = true) : scanned ps x gs k (k : Int) :=
 Or.inr ⟨k, rfl, Nat.le_refl _, hk, hj, fun j h1 h2 => by omega⟩
set_option maxRecDepth 100000 in
set_option maxHeartbeats 2000000 in
theorem specGroups_any (a : Option Addr) (n c : Nat) (ps : List PairV) (a' : Option Addr) (n' c' : Nat) (l : List Int) (w : World) (hr : RdR PairV.cells 2 w a n ps) (hr' : Rd w a' n' l) (hn : n ≤ 1048600) (hn' : n' ≤ 1048600) :
 Calls Tryz.prog 134 #[.slice a n c, .slice a' n' c'] w fun e w' => ∃ g cap xs, e = .returned (.slice (some ⟨g, 0, none⟩) xs.length cap) ∧ Own2 w' w.heap.size g cap xs ∧ xs.map RowV.l = groupsL ps l ∧ Below w.heap.size w w' := by
 obtain ⟨i0, hi0, hz0, hz1, hz2⟩ := info_parts Tryz.infoIntS2
 obtain ⟨j0, hj0, hy0, hy1, hy2⟩ := info_parts Tryz.infoInt2
 have HR := hide hr
 have HR' := hide hr'
 have HO := hide (own2_none w)
 clear hr hr'
 go_enter Tryz.func134, Tryz.ntmps134
 go_wp2
 go_loopw [5, 6] (fun o i wr => ∃ (k g cap m : Nat) (xs : List RowV), k ≤ 4 ∧ i = .int .i64 k ∧ xs.length = m ∧ o = .slice (some ⟨g, 0, none⟩) m cap ∧ xs.map RowV.l = groupsTo ps l k ∧ Own2 wr w.heap.size g cap xs ∧ Below w.heap.size w wr) (fun _ i _ => 4 - (intOf i).toNat)
 case atStart => exact ⟨0, w.heap.size, 0, 0, [], by omega, rfl, rfl, rfl, rfl, unhide HO, (Below.refl _ _).alloc (Nat.le_refl _) _⟩
 case round =>
  clear HO
  obtain ⟨k, g, cap, m, xs, hk, rfl, hm, rfl, hg, ho, hbel⟩ := hrel
  have HG := hide hg
  have HO := hide ho
  have HB := hide hbel
  have HM := hide hm
  clear hg ho hbel hm
  by_cases hlt : k < 4
  case neg =>
   obtain rfl : k = 4 := by omega
   go_wp2
   go_ret
   exact ⟨g, cap, xs, by rw [unhide HM]; rfl, unhide HO, HG.out.trans (groupsTo_four ps l), unhide HB⟩
  have HST := hide (groupsTo_step ps l k hlt)
  have HBN := hide (groupsTo_bnd ps l k (by omega))
  have hm4 : m ≤ 4 := by have h1 := HBN.out.1; have h2 := congrArg List.length HG.out; rw [List.length_map, unhide HM] at h2; omega
  go_wp2_with fail
  refine (l1Has_any a' n' c' l (k : Int) wr ((unhide HR').mono HB.out) hn').mono ?_
  rintro e w1 ⟨rfl, hw⟩
  subst w1
  cases hh : hasI l (k : Int)
  case false =>
   go_wp2_with fail
   go_roundw
   case rel => exact ⟨k + 1, g, cap, m, xs, by omega, by go_num, unhide HM, rfl, by rw [unhide HST, addIf, hh]; exact unhide HG, unhide HO, unhide HB⟩
   case measure => simp [intOf]; omega
  have HAD : Hid (groupsTo ps l (k + 1) = addTo ps (k : Int) (xs.map RowV.l)) := by rw [unhide HST, addIf, hh, unhide HG]; exact hide rfl
  clear hh HST
  go_wp2_with fail
  go_loop [7, 8] (fun t i => ∃ (q : Nat) (tv : Int), q ≤ m ∧ i = .int .i64 ((q : Int) - 1) ∧ t = .int .i64 tv ∧ scanned ps (k : Int) (xs.map RowV.l) q tv) (fun _ i => (intOf i + 1).toNat)
  case atStart => exact ⟨m, -1, Nat.le_refl _, rfl, rfl, Or.inl ⟨rfl, fun j h1 h2 => by rw [List.length_map, unhide HM] at h2; omega⟩⟩
  case round =>
   obtain ⟨q, tv, hq, rfl, rfl, hs⟩ := hrel
   have HS := hide hs
   clear hs
   by_cases hq0 : q = 0
   case neg =>
    obtain ⟨q, rfl⟩ : ∃ q', q = q' + 1 := ⟨q - 1, by omega⟩
    rw [show ((q + 1 : Nat) : Int) - 1 = (q : Int) by omega]
    have hqm : q < xs.length := by rw [unhide HM]; omega
    obtain ⟨c1, f1⟩ := HO.out.cell q hqm
    have hrow := HO.out.rws.row q hqm
    have HRD := hide (own_reads hrow)
    have HML := hide (map_getD_l xs q hqm)
    have hll : (xs.getD q default).l.length ≤ k := by have := HBN.out.row q (by have h2 := congrArg List.length HG.out; rw [List.length_map] at h2; omega); rw [← unhide HG, map_getD_l xs q hqm] at this; exact this
    unfold RowV.val at c1
    generalize xs.getD q default = r at c1 hll HRD HML
    clear hrow
    go_wp2_with fail
    refine (l3Joins_any a n c ps (some ⟨r.g, 0, none⟩) r.l.length r.cap r.l (k : Int) wr (HR.out.mono (by omega) PairV.len HB.out) HRD.out hn (by omega)).mono ?_
    rintro e w1 ⟨rfl, hw⟩
    subst w1
    cases hj : joinsB ps r.l (k : Int)
    · have HS2 := hide (HS.out.miss (by rw [unhide HML]; exact hj))
      go_wp2_with fail
      go_round
      case rel => exact ⟨q, tv, by omega, rfl, rfl, unhide HS2⟩
      case measure => simp [intOf]
    · have HS2 := hide (scanned.hit (ps := ps) (x := (k : Int)) (gs := xs.map RowV.l) (k := q) (by simpa using hqm) (by rw [unhide HML]; exact hj))
      go_wp2_with fail
      go_round
      case rel => exact ⟨q, (q : Int), by omega, rfl, rfl, unhide HS2⟩
      case measure => simp [intOf]
   subst hq0
   rw [show ((0 : Nat) : Int) - 1 = -1 by omega]
   have hsz := HB.out.size
   obtain rfl := unhide HM
   rcases unhide HS with ⟨rfl, h0⟩ | ⟨m1, rfl, _, hm1, hj, h0⟩
   · clear HS
     have HE := hide (addTo_none ps (k : Int) (xs.map RowV.l) (fun j hj => h0 j (Nat.zero_le _) hj))
     clear h0
     have O2 := hide (HO.out.later ((Below.refl _ wr).alloc (Nat.le_refl _) (.cells #[.int .i64 (k : Int)] 3)))
     have R2 : Hid (RowV.own (wr.alloc (.cells #[.int .i64 (k : Int)] 3)) w.heap.size ⟨wr.heap.size, 1, [(k : Int)]⟩) := World.ownsRow_lit wr #[.int .i64 (k : Int)] 1 (by omega) (by unfold maxLen; omega) rfl
     have O3 := hide (O2.out.later ((Below.refl _ (wr.alloc (.cells #[.int .i64 (k : Int)] 3))).alloc (Nat.le_refl _) (.cells #[.slice (some ⟨wr.heap.size, 0, none⟩) 1 1] 29)))
     have R3 := hide (R2.out.later ((Below.refl _ (wr.alloc (.cells #[.int .i64 (k : Int)] 3))).alloc (Nat.le_refl _) (.cells #[.slice (some ⟨wr.heap.size, 0, none⟩) 1 1] 29)))
     go_wp2_with (first
      | (at_builtin; refine wpList_append_lies _ rfl _ _ 167 rfl w.heap.size 29 i0 (.slice none 0 0) 1 24 Tryz.underlying167 hi0 hz0 hz1 hz2 rfl (by omega) (.slice (some ⟨g, 0, none⟩) xs.length cap) xs.length (xs.map RowV.val) rfl O3.out.out ⟨wr.heap.size + 1, 0, none⟩ 1 1 [.slice (some ⟨wr.heap.size, 0, none⟩) 1 1] rfl rfl (World.news_of_block (by have := heap_alloc_new (wr.alloc (.cells #[.int .i64 (k : Int)] 3)) (.cells #[.slice (some ⟨wr.heap.size, 0, none⟩) 1 1] 29); simpa using this)) (by simp [Value.oneCell']) (by omega) (by unfold maxLen; omega) (by omega) (by simp; omega) (wr.heap.size + 2) (by simp) ?_; intro g3 cap3 w3 ho3 hg3 hat3 hlt3)
      | go_in)
     have O4 := hide (O3.out.pushed (r := ⟨wr.heap.size, 1, [(k : Int)]⟩) R3.out (fun i hi e => by have h := (HO.out.rws.row i hi).lt.2; have e' : (xs.getD i default).g = wr.heap.size := e; omega) (by have h := (HO.out.out.lt g rfl).2; show wr.heap.size ≠ g; omega) ho3 hg3 hat3 (by simp))
     have B4 : Hid (Below w.heap.size w w3) := ((HB.out.alloc (by omega) _).alloc (by simp; omega) _).grown hg3 (by simp; omega) (fun k hk => by have := own_base HO.out.out; simp [Value.ownBlock] at hk; omega)
     clear ho3 hg3 hat3 hlt3
     go_wp2_with fail
     go_roundw
     case rel => exact ⟨k + 1, g3, cap3, xs.length + 1, xs ++ [⟨wr.heap.size, 1, [(k : Int)]⟩], by omega, by go_num, by rw [List.length_append]; rfl, rfl, by rw [unhide HAD, unhide HE, List.map_append]; rfl, unhide O4, unhide B4⟩
     case measure => simp [intOf]; omega
   · clear HS
     have hm2 : m1 < xs.length := by simpa using hm1
     have hneg : ¬ (m1 : Int) < 0 := by omega
     have HE := hide (addTo_hit ps (k : Int) (xs.map RowV.l) m1 hm1 (fun j hj => h0 j (Nat.zero_le _) hj) hj)
     rw [map_getD_l xs m1 hm2] at HE
     clear h0 hj
     obtain ⟨c1, f1⟩ := HO.out.cell m1 hm2
     have HRW := hide (HO.out.rws.row m1 hm2)
     have hll : (xs.getD m1 default).l.length ≤ k := by have := HBN.out.row m1 (by have h2 := congrArg List.length HG.out; rw [List.length_map] at h2; omega); rw [← unhide HG, map_getD_l xs m1 hm2] at this; exact this
     have HGR := hide (fun (W w3 : World) (r : RowV) (H : Nat) (h : Own2 W w.heap.size g cap xs) => h.grew (w3 := w3) (r := r) (H := H) hm2)
     unfold RowV.val at c1
     generalize xs.getD m1 default = r at c1 hll HRW HE HGR
     have O3 := hide (HO.out.later ((Below.refl _ wr).alloc (Nat.le_refl _) (.cells #[.int .i64 (k : Int)] 3)))
     have RW3 := hide (HRW.out.later ((Below.refl _ wr).alloc (Nat.le_refl _) (.cells #[.int .i64 (k : Int)] 3)))
     go_wp2_with (first
      | (at_builtin; go_must (refine wpList_append_lies _ rfl _ _ 29 rfl w.heap.size 3 j0 (.int .i64 0) 1 8 Tryz.underlying29 hj0 hy0 hy1 hy2 rfl (by omega) (.slice (some ⟨r.g, 0, none⟩) r.l.length r.cap) r.l.length (r.l.map (Value.int .i64)) rfl RW3.out ⟨wr.heap.size, 0, none⟩ 1 1 [.int .i64 (k : Int)] rfl rfl (World.news_of_block (heap_alloc_new _ _)) (by simp [Value.oneCell']) (by omega) (by unfold maxLen; omega) (by omega) (by simp; omega) (wr.heap.size + 1) (by simp) ?_; intro g3 cap3 w3 ho3 hg3 hat3 hlt3; have RN : RowV.own w3 w.heap.size ⟨g3, cap3, r.l ++ [(k : Int)]⟩ := (by unfold RowV.own; rw [List.length_append, List.map_append]; exact ho3); obtain ⟨c4, f4, ho4⟩ := HGR.out _ w3 ⟨g3, cap3, r.l ++ [(k : Int)]⟩ (wr.heap.size + 1) O3.out RN hg3 hat3 (by simp); have hv4 : RowV.val ⟨g3, cap3, r.l ++ [(k : Int)]⟩ = .slice (some ⟨g3, 0, none⟩) (r.l.length + 1) cap3 := (by unfold RowV.val; rw [List.length_append]; rfl); rw [hv4] at ho4; unfold RowV.val at c4; have O4 := hide ho4; have B4 : Hid (Below w.heap.size w (w3.setCell ⟨g, m1, none⟩ (.slice (some ⟨g3, 0, none⟩) (r.l.length + 1) cap3))) := ((HB.out.alloc (by omega) _).grown hg3 (by simp; omega) (fun b hk => by have := HRW.out.lt.1; simp [Value.ownBlock] at hk; omega)).setCell (own_base HO.out.out) _; clear ho3 hg3 hat3 hlt3 ho4 hv4 RN))
      | go_in)
     go_roundw
     case rel => exact ⟨k + 1, g, cap, xs.length, xs.set m1 ⟨g3, cap3, r.l ++ [(k : Int)]⟩, by omega, by go_num, by rw [List.length_set], rfl, by rw [unhide HAD, unhide HE, List.map_set], unhide O4, unhide B4⟩
     case measure => simp [intOf]; omega
end Go.Proofs.YtcblpoeeembniabGreatDoor

/- The laws' marks over a slice of numbers: what is marked, and that it is held. -/
namespace Go.Proofs.YtcblpoeeembniabGreatDoor
open Go.RowKit

def marksI (k0 n : Nat) : List Int := (List.range n).map fun (i : Nat) => ((k0 + i : Nat) : Int)
theorem marksI_at (k0 n i : Nat) (h : i < n) : (marksI k0 n).getD i 0 = ((k0 + i : Nat) : Int) := by simp [marksI, h]
theorem marksI_step (k0 k n : Nat) (xs : List Value) (hl : xs.length = n) (h : k < n) :
 (((marksI k0 k).map (Value.int .i64)) ++ xs.drop k).set k (.int .i64 ((k0 + k : Nat) : Int)) = ((marksI k0 (k + 1)).map (Value.int .i64)) ++ xs.drop (k + 1) := by
 have hlen : ((marksI k0 k).map (Value.int .i64)).length = k := by simp [marksI]
 rw [List.set_append_right _ _ (by omega), hlen, Nat.sub_self]
 have e : xs.drop k = xs[k] :: xs.drop (k + 1) := List.drop_eq_getElem_cons (by omega)
 rw [e, List.set_cons_zero]
 simp [marksI, List.range_succ]
theorem marksI_cell (k0 k n : Nat) (xs : List Value) (hl : xs.length = n) (h : k < n) :
 (((marksI k0 k).map (Value.int .i64)) ++ xs.drop k)[k]? = some xs[k] := by
 have hlen : ((marksI k0 k).map (Value.int .i64)).length = k := by simp [marksI]
 rw [List.getElem?_append_right (by omega), hlen, Nat.sub_self, List.getElem?_drop]
 simp [hl, h]

end Go.Proofs.YtcblpoeeembniabGreatDoor

/- The laws' marks over pairs and over rows of rows. -/
namespace Go.Proofs.YtcblpoeeembniabGreatDoor
open Go.RowKit
set_option linter.unusedVariables false

set_option maxHeartbeats 1000000 in
theorem toPairS_own (a : Option Addr) (n c : Nat) (xs : List PairV) (w : World) (hr : RdR PairV.cells 2 w a n xs) (hn : n ≤ 1048576) :
 Calls Tryz.prog 28 #[.slice a n c] w fun e w' => ∃ L, e = .returned (.slice (some ⟨w.heap.size, 0, none⟩) n n) ∧ w'.ownsRow w.heap.size 92 2 (.slice (some ⟨w.heap.size, 0, none⟩) n n) n L ∧
  RdR PairV.cells 2 w' (some ⟨w.heap.size, 0, none⟩) n xs ∧ Below w.heap.size w w' := by
 obtain ⟨i0, hi, hz0, hz1, hz2⟩ := info_parts Tryz.infoPair
 have hbb : i0.bytes * n ≤ 281474976710656 := by rw [hz2]; omega
 go_enter Tryz.func28, Tryz.ntmps28
 go_wp2_with (first
  | (at_make; refine wpList_make_full _ rfl _ _ 37 rfl w.heap.size 92 i0 (.agg #[.int .i64 0, .int .i64 0]) 2 Tryz.underlying37 hi hz0 hz1 .i64 .i64 n n n rfl rfl rfl rfl hbb (by unfold maxLen; omega) (Nat.le_refl _) ?_; intro w1 hown hgrow)
  | go_in)
 have hb1 : Below w.heap.size w w1 := (Below.refl _ _).grown hgrow (Nat.le_refl _) (by simp)
 have hs1 : w.heap.size < w1.heap.size := (hown.lt _ rfl).2
 clear hgrow
 go_loopw [4] (fun i wr => ∃ (k : Nat) (L : List Value), k ≤ n ∧ i = .int .i64 k ∧ wr.ownsRow w.heap.size 92 2 (.slice (some ⟨w.heap.size, 0, none⟩) n n) n L ∧
  (∀ i, i < k → ∀ j, j < 2 → L[i * 2 + j]? = (PairV.cells (xs.getD i default))[j]?) ∧ Below w.heap.size w wr) (fun i _ => n - (intOf i).toNat)
 case atStart => exact ⟨0, _, Nat.zero_le _, rfl, hown, fun i hi => absurd hi (Nat.not_lt_zero _), hb1⟩
 case round =>
  obtain ⟨k, L, hk, rfl, hownL, hL, hbel⟩ := hrel
  by_cases hlt : k < n
  · obtain ⟨b, off, rfl, hc⟩ := hr.2 k hlt
    have HL := hide (rows_step (cells := PairV.cells) (xs := xs) PairV.len hownL.1 hlt hL)
    generalize xs.getD k default = q at hc HL
    have d0 : wr.cell? ⟨b, off + k * 2, none⟩ = some (.int .i64 q.a) := (hbel.cell (World.block_lt_of_cell? w _ (hc 0 (by omega)))).trans (hc 0 (by omega))
    have d1 : wr.cell? ⟨b, off + k * 2 + 1, none⟩ = some (.int .i64 q.b) := (hbel.cell (World.block_lt_of_cell? w _ (hc 1 (by omega)))).trans (hc 1 (by omega))
    have HO := hide hownL
    have HB := hide hbel
    clear hc hr hown hbel hownL hL hb1
    go_wp2_with fail
    refine (toPair_any _ _ _).mono ?_
    rintro e w2 ⟨rfl, hb2⟩
    have hown2 := own_later HO.out hb2
    obtain ⟨u0, e0, t0⟩ := row_at (j := 0) hown2.1 hlt (by omega)
    have f0 : w2.cell? ⟨w.heap.size, k * 2, none⟩ = some u0 := (hown2.cellAt _ t0).trans e0
    have z0 : w2.frozen? ⟨w.heap.size, k * 2, none⟩ = false := hown2.frozenAt (k * 2)
    obtain ⟨u1, e1, t1⟩ := row_at (j := 1) hown2.1 hlt (by omega)
    have f1 : w2.cell? ⟨w.heap.size, k * 2 + 1, none⟩ = some u1 := (hown2.cellAt _ t1).trans e1
    have z1 : w2.frozen? ⟨w.heap.size, k * 2 + 1, none⟩ = false := hown2.frozenAt (k * 2 + 1)
    have HO2 := hide (own_write (PairV.cells q) _ _ (k * 2) hown2)
    have HB2 := hide (below_write (Nat.le_refl _) (PairV.cells q) _ _ (k * 2) (HB.out.trans (hb2.mono HB.out.size)))
    clear hown2 HO HB hb2 e0 t0 e1 t1
    go_wp2
    go_roundw
    case rel => exact ⟨k + 1, _, by omega, by go_num, unhide HO2, unhide HL, unhide HB2⟩
    case measure => simp [intOf]; omega
  · obtain rfl : k = n := by omega
    have HO := hide hownL
    have HL := hide hL
    have HB := hide hbel
    clear hown hb1 hownL hL hbel
    go_wp2
    go_ret
    exact ⟨L, rfl, unhide HO, RdR.of_owns HO.out hr.1 HL.out, unhide HB⟩
/-- Each row with its marks. -/
def markTo (k0 : Nat) : List RowV → List RowV
 | [] => []
 | r :: xs => ⟨r.g, r.cap, marksI k0 r.l.length⟩ :: markTo (k0 + r.l.length) xs
theorem marksI_len (k0 n : Nat) : (marksI k0 n).length = n := by simp [marksI]
theorem markTo_len : ∀ (xs : List RowV) (k0 : Nat), (markTo k0 xs).length = xs.length
 | [], _ => rfl
 | r :: xs, k0 => by simp [markTo, markTo_len xs]
def totR (xs : List RowV) : Nat := (xs.map fun r => r.l.length).sum
theorem totR_step (xs : List RowV) (k : Nat) (h : k < xs.length) : totR (xs.take (k + 1)) = totR (xs.take k) + (xs.getD k default).l.length := by
 unfold totR
 rw [List.take_succ_eq_append_getElem h, List.map_append, List.sum_append]
 congr 1
 simp [h]
theorem totR_le (xs : List RowV) (k : Nat) : totR (xs.take k) ≤ totR xs := by
 unfold totR
 conv => rhs; rw [← List.take_append_drop k xs, List.map_append, List.sum_append]
 omega
/-- Marked up to place k. -/
def markK (k0 : Nat) (xs : List RowV) (k : Nat) : List RowV := markTo k0 (xs.take k) ++ xs.drop k
theorem markK_step : ∀ (xs : List RowV) (k k0 : Nat), k < xs.length → markK k0 xs (k + 1) = (markK k0 xs k).set k ⟨(xs.getD k default).g, (xs.getD k default).cap, marksI (k0 + totR (xs.take k)) (xs.getD k default).l.length⟩
 | [], k, _, h => absurd h (Nat.not_lt_zero _)
 | r :: xs, 0, k0, h => by simp [markK, markTo, totR]
 | r :: xs, k + 1, k0, h => by
  have ih := markK_step xs k (k0 + r.l.length) (by simpa using h)
  unfold markK at ih ⊢
  have e : k0 + totR ((r :: xs).take (k + 1)) = k0 + r.l.length + totR (xs.take k) := by simp [totR]; omega
  rw [e]
  simp only [List.take_succ_cons, markTo, List.drop_succ_cons, List.cons_append, List.set_cons_succ, List.getD_cons_succ]
  rw [ih]
theorem markK_len (k0 : Nat) (xs : List RowV) (k : Nat) (h : k ≤ xs.length) : (markK k0 xs k).length = xs.length := by
 simp [markK, markTo_len]
 omega
theorem markK_get (k0 : Nat) (xs : List RowV) (k : Nat) (h : k < xs.length) : (markK k0 xs k).getD k default = xs.getD k default := by
 have hl : (markTo k0 (xs.take k)).length = k := by rw [markTo_len, List.length_take]; omega
 simp only [markK, List.getD_eq_getElem?_getD]
 rw [List.getElem?_append_right (by omega), hl, Nat.sub_self, List.getElem?_drop, Nat.add_zero]
theorem marked_get : ∀ (xs : List RowV) (k k0 : Nat), k < xs.length → (markTo k0 xs).getD k default = ⟨(xs.getD k default).g, (xs.getD k default).cap, marksI (k0 + totR (xs.take k)) (xs.getD k default).l.length⟩
 | [], k, _, h => absurd h (Nat.not_lt_zero _)
 | r :: xs, 0, k0, h => by simp [markTo, totR]
 | r :: xs, k + 1, k0, h => by
  have ih := marked_get xs k (k0 + r.l.length) (by simpa using h)
  have e : k0 + totR ((r :: xs).take (k + 1)) = k0 + r.l.length + totR (xs.take k) := by simp [totR]; omega
  rw [e]
  simp only [markTo, List.getD_cons_succ]
  exact ih
/-- One row's numbers are others. -/
theorem Own2.reset {w w3 : World} {B g cap k : Nat} {xs : List RowV} {r : RowV} (h : Own2 w B g cap xs) (hk : k < xs.length) (hg : w.grownBy w3 (some (xs.getD k default).g)) (ho : RowV.own w3 B r) (h1 : r.g = (xs.getD k default).g) (h2 : r.val = (xs.getD k default).val) : Own2 w3 B g cap (xs.set k r) := by
 have e : (xs.set k r).map RowV.val = xs.map RowV.val := by
  rw [List.map_set, h2]
  refine List.ext_getElem? fun i => ?_
  by_cases hi : i = k
  · subst hi
    rw [List.getElem?_set_self (by simpa using hk)]
    simp [hk]
  · rw [List.getElem?_set_ne (by omega)]
 refine ⟨?_, ?_⟩
 · rw [List.length_set, e]
   exact h.out.kept hg (Or.inr (fun e => h.rws.far k hk (by injection e with e; exact e.symm)))
 · refine Rws.put (fun i hi hik => (h.rws.row i hi).kept hg (fun e => hik (h.rws.apart i k hi hk (by injection e)))) h.rws.apart h.rws.far ho (fun i hi hik e => hik (h.rws.apart i k hi hk (e.trans h1))) (by rw [h1]; exact h.rws.far k hk)
end Go.Proofs.YtcblpoeeembniabGreatDoor
