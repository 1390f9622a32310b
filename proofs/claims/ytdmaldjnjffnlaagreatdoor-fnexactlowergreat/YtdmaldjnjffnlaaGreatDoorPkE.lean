/- Ints, IntSS, Groups, Groups2, Groups3, IntMarks, Marks2: one text. -/
import Derived.Test.YtdmaldjnjffnlaaGreatDoorPkA
import Derived.Deep.RegionWith
import Derived.Deep.Onto
import Derived.Deep.DeepMust
import Derived.Test.YtdmaldjnjffnlaaGreatDoorPkI
import Derived.Deep.AppendLies
/- The laws' own helpers over slices of numbers: the copy and the comparison. -/
namespace Go.Proofs.YtdmaldjnjffnlaaGreatDoor
open Go.RowKit

set_option maxHeartbeats 400000 in
/-- laws.toIntS: a new row of the same numbers; nothing that was there has turned. -/
theorem toIntS_any (a : Option Addr) (n c : Nat) (zs : List Int) (w : World) (hr : Rd w a n zs) (hn : n ≤ 1048576) :
    Calls Tryz.prog 12 #[.slice a n c] w fun e w' => e = .returned (.slice (some ⟨w.heap.size, 0, none⟩) n n) ∧
      w'.ownsRow w.heap.size 3 1 (.slice (some ⟨w.heap.size, 0, none⟩) n n) n (zs.map (Value.int .i64)) ∧ Below w.heap.size w w' := by
  obtain ⟨i0, hi, hz0, hz1, hz2⟩ := info_parts Tryz.infoInt
  have hbb : i0.bytes * n ≤ 281474976710656 := by rw [hz2]; omega
  go_enter Tryz.func12, Tryz.ntmps12
  go_wp2_with (first
    | (at_make; refine wpList_make_full _ rfl _ _ 29 rfl w.heap.size 3 i0 (.int .i64 0) 1 Tryz.underlying29 hi hz0 hz1 .i64 .i64 n n n rfl rfl rfl rfl hbb (by unfold maxLen; omega) (Nat.le_refl _) ?_; intro w1 hown hgrow)
    | go_in)
  have hown0 : w1.ownsRow w.heap.size 3 1 (.slice (some ⟨w.heap.size, 0, none⟩) n n) n ((zs.take 0).map (Value.int .i64) ++ List.replicate (n - 0) (.int .i64 0)) := by
    simpa [toList_madeCells_one, Value.cells] using hown
  have hb1 : Below w.heap.size w w1 := (Below.refl _ _).grown hgrow (Nat.le_refl _) (by simp)
  clear hown hgrow
  go_loopw [4] (fun i wr => ∃ k : Nat, k ≤ n ∧ i = .int .i64 k ∧ wr.ownsRow w.heap.size 3 1 (.slice (some ⟨w.heap.size, 0, none⟩) n n) n ((zs.take k).map (Value.int .i64) ++ List.replicate (n - k) (.int .i64 0)) ∧ Below w.heap.size w wr) (fun i _ => n - (intOf i).toNat)
  case atStart => exact ⟨0, Nat.zero_le _, rfl, hown0, hb1⟩
  case round =>
    obtain ⟨k, hk, rfl, hown, hbel⟩ := hrel
    by_cases hlt : k < n
    · obtain ⟨b, off, rfl, hc⟩ := hr.2 k hlt
      have hc1 : wr.cell? ⟨b, off + k, none⟩ = some (.int .i64 (zs.getD k 0)) := (hbel.cell (World.block_lt_of_cell? w _ hc)).trans hc
      have hc2 : wr.cell? ⟨w.heap.size, k, none⟩ = some (.int .i64 0) := (hown.cellAt k (by omega)).trans (fill_at zs n k hr.1 hlt)
      have hf2 : wr.frozen? ⟨w.heap.size, k, none⟩ = false := hown.frozenAt k
      have hst := hown.stored k (.int .i64 (zs.getD k 0))
      rw [fill_step zs n k hr.1 hlt] at hst
      have hst1 := hst.1
      have hbs : Below w.heap.size w (wr.setCell ⟨w.heap.size, k, none⟩ (.int .i64 (zs.getD k 0))) := hbel.setCell (Nat.le_refl _) _
      clear hst hown hbel hc hown0 hb1
      go_wp2
      go_roundw
      case rel => exact ⟨k + 1, by omega, by go_num, hst1, hbs⟩
      case measure => simp [intOf]; omega
    · have hkn : k = n := by omega
      subst hkn
      go_wp2
      go_ret
      refine ⟨rfl, ?_, hbel⟩
      have e : zs.take k = zs := List.take_of_length_le (by have := hr.1; omega)
      simpa [e] using hown

set_option maxHeartbeats 400000 in
/-- laws.eqIntS at two slices of the same numbers. -/
theorem eqIntS_same (a : Option Addr) (n c : Nat) (a' : Option Addr) (c' : Nat) (zs : List Int) (w : World) (hr : Rd w a n zs) (hr' : Rd w a' n zs) (hn : n ≤ 1048576) :
    Calls Tryz.prog 16 #[.slice a n c, .slice a' n c'] w fun e w' => e = .returned (.bool true) ∧ Below w.heap.size w w' := by
  have hne : ((n : Int) != (n : Int)) = false := by simp
  go_enter Tryz.func16, Tryz.ntmps16
  go_wp2
  go_loopw [5] (fun i wr => ∃ k : Nat, k ≤ n ∧ i = .int .i64 k ∧ Below w.heap.size w wr) (fun i _ => n - (intOf i).toNat)
  case atStart => exact ⟨0, Nat.zero_le _, rfl, Below.refl _ _⟩
  case round =>
    obtain ⟨k, hk, rfl, hbel⟩ := hrel
    by_cases hlt : k < n
    · obtain ⟨b, off, rfl, hc⟩ := hr.2 k hlt
      obtain ⟨b', off', rfl, hc'⟩ := hr'.2 k hlt
      have hc1 : wr.cell? ⟨b, off + k, none⟩ = some (.int .i64 (zs.getD k 0)) := (hbel.cell (World.block_lt_of_cell? w _ hc)).trans hc
      have hc2 : wr.cell? ⟨b', off' + k, none⟩ = some (.int .i64 (zs.getD k 0)) := (hbel.cell (World.block_lt_of_cell? w _ hc')).trans hc'
      clear hc hc'
      go_wp2
      go_quiet (fail)
      go_wp2
      go_roundw
      case rel => exact ⟨k + 1, by omega, by go_num, below_drewN hbel _⟩
      case measure => simp [intOf]; omega
    · go_wp2
      go_ret
      exact ⟨rfl, hbel⟩
end Go.Proofs.YtdmaldjnjffnlaaGreatDoor

/- Slices of slices of numbers: read, owned; the laws' own sizes, copies and comparisons of them. -/
namespace Go.Proofs.YtdmaldjnjffnlaaGreatDoor
open Go.RowKit
set_option linter.unusedVariables false

/-- The slice at 'a' of length 'n' holds slices that hold 'gs'. -/
def Rd2 (w : World) (a : Option Addr) (n : Nat) (gs : List (List Int)) : Prop :=
  gs.length = n ∧ ∀ i, i < n → ∃ b off ai ci, a = some ⟨b, off, none⟩ ∧ w.cell? ⟨b, off + i, none⟩ = some (.slice ai (gs.getD i []).length ci) ∧ Rd w ai (gs.getD i []).length (gs.getD i [])
theorem Rd2.mono {w w' : World} {a : Option Addr} {n : Nat} {gs : List (List Int)} (h : Rd2 w a n gs) (hb : Below w.heap.size w w') : Rd2 w' a n gs :=
  ⟨h.1, fun i hi => by
    obtain ⟨b, off, ai, ci, ha, hc, hr⟩ := h.2 i hi
    exact ⟨b, off, ai, ci, ha, (hb.cell (World.block_lt_of_cell? w _ hc)).trans hc, hr.mono hb⟩⟩
/-- A row of numbers in a block of its own. -/
structure RowV where (g cap : Nat) (l : List Int)
deriving Inhabited
def RowV.val (r : RowV) : Value := .slice (some ⟨r.g, 0, none⟩) r.l.length r.cap
def RowV.own (w : World) (B : Nat) (r : RowV) : Prop := w.ownsRow B 3 1 (.slice (some ⟨r.g, 0, none⟩) r.l.length r.cap) r.l.length (r.l.map (Value.int .i64))
theorem RowV.own.lt {w : World} {B : Nat} {r : RowV} (h : RowV.own w B r) : B ≤ r.g ∧ r.g < w.heap.size := World.ownsRow.lt h r.g rfl
theorem RowV.own.later {w w' : World} {B : Nat} {r : RowV} (h : RowV.own w B r) (hb : Below w.heap.size w w') : RowV.own w' B r := own_later h hb
theorem RowV.own.kept {w w' : World} {B : Nat} {r : RowV} {row : Option Nat} (h : RowV.own w B r) (hg : w.grownBy w' row) (hne : some r.g ≠ row) : RowV.own w' B r :=
  World.ownsRow.kept h hg (Or.inr (fun e => hne e))
theorem getD_snoc_lt {α : Type} {xs : List α} {r d : α} {i : Nat} (h : i < xs.length) : (xs ++ [r]).getD i d = xs.getD i d := by
  simp only [List.getD_eq_getElem?_getD]
  rw [List.getElem?_append_left h]
theorem getD_snoc_eq {α : Type} {xs : List α} {r d : α} : (xs ++ [r]).getD xs.length d = r := by
  simp [List.getD_eq_getElem?_getD]
theorem getD_put_eq {α : Type} {xs : List α} {r d : α} {i : Nat} (h : i < xs.length) : (xs.set i r).getD i d = r := by
  simp [List.getD_eq_getElem?_getD, h]
theorem getD_put_ne {α : Type} {xs : List α} {r d : α} {i j : Nat} (h : i ≠ j) : (xs.set i r).getD j d = xs.getD j d := by
  simp only [List.getD_eq_getElem?_getD]
  rw [List.getElem?_set_ne h]
/-- Rows, each owned, no two in one place, none where the outer row is. -/
structure Rws (w : World) (B g : Nat) (xs : List RowV) : Prop where
  row : ∀ i, i < xs.length → RowV.own w B (xs.getD i default)
  apart : ∀ i j, i < xs.length → j < xs.length → (xs.getD i default).g = (xs.getD j default).g → i = j
  far : ∀ i, i < xs.length → (xs.getD i default).g ≠ g
theorem Rws.nil {w : World} {B g : Nat} : Rws w B g [] := ⟨fun _ h => absurd h (Nat.not_lt_zero _), fun _ _ h => absurd h (Nat.not_lt_zero _), fun _ h => absurd h (Nat.not_lt_zero _)⟩
theorem Rws.later {w w' : World} {B g : Nat} {xs : List RowV} (h : Rws w B g xs) (hb : Below w.heap.size w w') : Rws w' B g xs := ⟨fun i hi => (h.row i hi).later hb, h.apart, h.far⟩
theorem Rws.kept {w w' : World} {B g : Nat} {xs : List RowV} {row : Option Nat} (h : Rws w B g xs) (hg : w.grownBy w' row) (hne : ∀ i, i < xs.length → some (xs.getD i default).g ≠ row) : Rws w' B g xs :=
  ⟨fun i hi => (h.row i hi).kept hg (hne i hi), h.apart, h.far⟩
theorem Rws.snoc {w : World} {B g : Nat} {xs : List RowV} (h : Rws w B g xs) {r : RowV} (hr : RowV.own w B r) (hn : ∀ i, i < xs.length → (xs.getD i default).g ≠ r.g) (hf : r.g ≠ g) : Rws w B g (xs ++ [r]) := by
  have key : ∀ i, i < (xs ++ [r]).length → i < xs.length ∧ (xs ++ [r]).getD i default = xs.getD i default ∨ i = xs.length ∧ (xs ++ [r]).getD i default = r := by
    intro i hi
    rw [List.length_append, List.length_singleton] at hi
    by_cases h1 : i < xs.length
    · exact Or.inl ⟨h1, getD_snoc_lt h1⟩
    · obtain rfl : i = xs.length := by omega
      exact Or.inr ⟨rfl, getD_snoc_eq⟩
  refine ⟨fun i hi => ?_, fun i j hi hj e => ?_, fun i hi => ?_⟩
  · rcases key i hi with ⟨h1, h2⟩ | ⟨h1, h2⟩ <;> rw [h2]
    · exact h.row i h1
    · exact hr
  · rcases key i hi with ⟨h1, h2⟩ | ⟨h1, h2⟩ <;> rcases key j hj with ⟨h3, h4⟩ | ⟨h3, h4⟩ <;> rw [h2, h4] at e
    · exact h.apart i j h1 h3 e
    · exact absurd e (hn i h1)
    · exact absurd e.symm (hn j h3)
    · omega
  · rcases key i hi with ⟨h1, h2⟩ | ⟨h1, h2⟩ <;> rw [h2]
    · exact h.far i h1
    · exact hf
theorem Rws.put {w : World} {B g : Nat} {xs : List RowV} {k : Nat} {r : RowV} (hrow : ∀ i, i < xs.length → i ≠ k → RowV.own w B (xs.getD i default)) (hap : ∀ i j, i < xs.length → j < xs.length → (xs.getD i default).g = (xs.getD j default).g → i = j) (hfar : ∀ i, i < xs.length → (xs.getD i default).g ≠ g)
    (hr : RowV.own w B r) (hn : ∀ i, i < xs.length → i ≠ k → (xs.getD i default).g ≠ r.g) (hf : r.g ≠ g) : Rws w B g (xs.set k r) := by
  have key : ∀ i, i < (xs.set k r).length → i < xs.length ∧ (i ≠ k ∧ (xs.set k r).getD i default = xs.getD i default ∨ i = k ∧ (xs.set k r).getD i default = r) := by
    intro i hi
    rw [List.length_set] at hi
    refine ⟨hi, ?_⟩
    by_cases h1 : i = k
    · subst h1
      exact Or.inr ⟨rfl, getD_put_eq hi⟩
    · exact Or.inl ⟨h1, getD_put_ne (fun e => h1 e.symm)⟩
  refine ⟨fun i hi => ?_, fun i j hi hj e => ?_, fun i hi => ?_⟩
  · rcases key i hi with ⟨h0, ⟨h1, h2⟩ | ⟨h1, h2⟩⟩ <;> rw [h2]
    · exact hrow i h0 h1
    · exact hr
  · rcases key i hi with ⟨h0, ⟨h1, h2⟩ | ⟨h1, h2⟩⟩ <;> rcases key j hj with ⟨h5, ⟨h3, h4⟩ | ⟨h3, h4⟩⟩ <;> rw [h2, h4] at e
    · exact hap i j h0 h5 e
    · exact absurd e (hn i h0 h1)
    · exact absurd e.symm (hn j h5 h3)
    · omega
  · rcases key i hi with ⟨h0, ⟨h1, h2⟩ | ⟨h1, h2⟩⟩ <;> rw [h2]
    · exact hfar i h0
    · exact hf
/-- A row of rows, all of it owned. -/
structure Own2 (w : World) (B g cap : Nat) (xs : List RowV) : Prop where
  out : w.ownsRow B 29 1 (.slice (some ⟨g, 0, none⟩) xs.length cap) xs.length (xs.map RowV.val)
  rws : Rws w B g xs
theorem Own2.later {w w' : World} {B g cap : Nat} {xs : List RowV} (h : Own2 w B g cap xs) (hb : Below w.heap.size w w') : Own2 w' B g cap xs := ⟨own_later h.out hb, h.rws.later hb⟩
theorem Own2.cell {w : World} {B g cap : Nat} {xs : List RowV} (h : Own2 w B g cap xs) (i : Nat) (hi : i < xs.length) : w.cell? ⟨g, i, none⟩ = some (xs.getD i default).val ∧ w.frozen? ⟨g, i, none⟩ = false := by
  refine ⟨(h.out.cellAt i (by omega)).trans ?_, h.out.frozenAt i⟩
  simp [hi]
theorem Own2.kept {w w' : World} {B g cap : Nat} {xs : List RowV} {b : Nat} (h : Own2 w B g cap xs) (hg : w.grownBy w' (some b)) (hb : b < B) : Own2 w' B g cap xs :=
  ⟨h.out.kept hg (Or.inr (by have := own_base h.out; intro e; simp [Value.ownBlock] at e; omega)), h.rws.kept hg fun i hi e => by have := (h.rws.row i hi).lt.1; injection e with e; omega⟩
theorem own_reads {w : World} {B : Nat} {r : RowV} (h : RowV.own w B r) : Rd w (some ⟨r.g, 0, none⟩) r.l.length r.l := Rd.of_owns h
theorem Own2.read {w : World} {B g cap : Nat} {xs : List RowV} (h : Own2 w B g cap xs) : Rd2 w (some ⟨g, 0, none⟩) xs.length (xs.map RowV.l) := by
  refine ⟨by simp, fun i hi => ?_⟩
  have e : (xs.map RowV.l).getD i [] = (xs.getD i default).l := by simp [List.getD_eq_getElem?_getD, hi]
  rw [e]
  exact ⟨g, 0, some ⟨(xs.getD i default).g, 0, none⟩, (xs.getD i default).cap, rfl, by rw [Nat.zero_add]; exact (h.cell i hi).1, own_reads (h.rws.row i hi)⟩
theorem Own2.low {w : World} {B B' g cap : Nat} {xs : List RowV} (h : Own2 w B g cap xs) (hb : B' ≤ B) : Own2 w B' g cap xs :=
  ⟨h.out.mono hb, ⟨fun i hi => World.ownsRow.mono (h.rws.row i hi) hb, h.rws.apart, h.rws.far⟩⟩

def total2 (gs : List (List Int)) : Nat := (gs.map List.length).sum
theorem total2_step (gs : List (List Int)) (k : Nat) (h : k < gs.length) : total2 (gs.take (k + 1)) = total2 (gs.take k) + (gs.getD k []).length := by
  unfold total2
  rw [List.take_succ_eq_append_getElem h, List.map_append, List.sum_append]
  congr 1
  simp [h]
theorem total2_le (gs : List (List Int)) (k : Nat) (h : k < gs.length) : (gs.getD k []).length ≤ total2 gs := by
  have h1 := total2_step gs k h
  have h2 : total2 (gs.take (k + 1)) ≤ total2 gs := by
    unfold total2
    conv => rhs; rw [← List.take_append_drop (k + 1) gs, List.map_append, List.sum_append]
    omega
  omega

set_option maxHeartbeats 1000000 in
theorem eqIntSS_same (a : Option Addr) (n c : Nat) (a' : Option Addr) (c' : Nat) (gs : List (List Int)) (w : World) (hr : Rd2 w a n gs) (hr' : Rd2 w a' n gs) (hn : n ≤ 1048576) (hm : ∀ i, i < n → (gs.getD i []).length ≤ 1048576) :
    Calls Tryz.prog 14 #[.slice a n c, .slice a' n c'] w fun e w' => e = .returned (.bool true) ∧ Below w.heap.size w w' := by
  have hne : ((n : Int) != (n : Int)) = false := by simp
  have HR := hide hr
  have HR' := hide hr'
  clear hr hr'
  go_enter Tryz.func14, Tryz.ntmps14
  go_wp2
  go_loopw [5] (fun i wr => ∃ k : Nat, k ≤ n ∧ i = .int .i64 k ∧ Below w.heap.size w wr) (fun i _ => n - (intOf i).toNat)
  case atStart => exact ⟨0, Nat.zero_le _, rfl, Below.refl _ _⟩
  case round =>
    obtain ⟨k, hk, rfl, hbel⟩ := hrel
    have HB := hide hbel
    by_cases hlt : k < n
    · obtain ⟨b, off, ai, ci, rfl, hc, hrow⟩ := ((unhide HR).mono hbel).2 k hlt
      obtain ⟨b', off', ai', ci', rfl, hc', hrow'⟩ := ((unhide HR').mono hbel).2 k hlt
      have hm1 := hm k hlt
      have HQ := hide hrow
      have HQ' := hide hrow'
      clear hbel hrow hrow'
      generalize gs.getD k [] = zs at hc hc' hm1 HQ HQ'
      go_wp2_with fail
      go_region_with ((go_at_call 16; go_must (refine (eqIntS_same ai zs.length ci ai' ci' zs _ (by exact unhide HQ) (by exact unhide HQ') hm1).mono ?_; rintro e w2 ⟨rfl, hb2⟩)))
      all_goals
        go_wp2
        go_roundw
        case rel => exact ⟨k + 1, by omega, by go_num, (unhide HB).drew.trans (hb2.mono (unhide HB).size)⟩
        case measure => simp [intOf]; omega
    · clear hbel
      go_wp2
      go_ret
      exact ⟨rfl, unhide HB⟩
end Go.Proofs.YtdmaldjnjffnlaaGreatDoor

/- Groups, of the model and of the program. -/
namespace Go.Proofs.YtdmaldjnjffnlaaGreatDoor
open Go.RowKit
set_option linter.unusedVariables false

end Go.Proofs.YtdmaldjnjffnlaaGreatDoor

/- Groups, of the model and of the program: rows that grow, rows that come in behind. -/
namespace Go.Proofs.YtdmaldjnjffnlaaGreatDoor
open Go.RowKit
set_option linter.unusedVariables false

theorem addTo_hit (ps : List PairV) (x : Int) : ∀ (gs : List (List Int)) (k : Nat), k < gs.length → (∀ j, j < k → joinsB ps (gs.getD j []) x = false) → joinsB ps (gs.getD k []) x = true → addTo ps x gs = gs.set k (gs.getD k [] ++ [x])
  | [], k, h, _, _ => absurd h (Nat.not_lt_zero _)
  | g :: gs, 0, _, _, h1 => by
    have h2 : joinsB ps g x = true := by simpa using h1
    simp [addTo, h2]
  | g :: gs, k + 1, h, h0, h1 => by
    have h2 : joinsB ps g x = false := by simpa using h0 0 (by omega)
    have ih := addTo_hit ps x gs k (by simpa using h) (fun j hj => by simpa using h0 (j + 1) (by omega)) (by simpa using h1)
    simp [addTo, h2, ih]
theorem addTo_none (ps : List PairV) (x : Int) : ∀ (gs : List (List Int)), (∀ j, j < gs.length → joinsB ps (gs.getD j []) x = false) → addTo ps x gs = gs ++ [[x]]
  | [], _ => rfl
  | g :: gs, h0 => by
    have h2 : joinsB ps g x = false := by simpa using h0 0 (by simp)
    have ih := addTo_none ps x gs (fun j hj => by simpa using h0 (j + 1) (by simpa using hj))
    simp [addTo, h2, ih]
def bnd (k : Nat) (gs : List (List Int)) : Prop := gs.length ≤ k ∧ ∀ g ∈ gs, g.length ≤ k
theorem addTo_len (ps : List PairV) (x : Int) : ∀ (gs : List (List Int)), (addTo ps x gs).length ≤ gs.length + 1
  | [] => by simp [addTo]
  | g :: gs => by
    have := addTo_len ps x gs
    unfold addTo
    split <;> simp <;> omega
theorem addTo_bnd {ps : List PairV} {x : Int} {k : Nat} : ∀ {gs : List (List Int)}, bnd k gs → bnd (k + 1) (addTo ps x gs)
  | [], _ => ⟨by simp [addTo], fun g hg => by simp [addTo] at hg; subst hg; simp⟩
  | g :: gs, h => by
    unfold addTo
    split
    · refine ⟨by have := h.1; simp at this ⊢; omega, fun q hq => ?_⟩
      rcases List.mem_cons.1 hq with rfl | hq
      · have := h.2 g (by simp); simp; omega
      · have := h.2 q (by simp [hq]); omega
    · have h' : bnd k gs := ⟨by have := h.1; simp at this; omega, fun q hq => h.2 q (by simp [hq])⟩
      have h1 := addTo_len ps x gs
      refine ⟨by have := h.1; simp at this ⊢; omega, fun q hq => ?_⟩
      rcases List.mem_cons.1 hq with rfl | hq
      · have := h.2 q (by simp); omega
      · exact (addTo_bnd h').2 q hq
theorem addIf_bnd {ps : List PairV} {pres : List Int} {x : Int} {k : Nat} {gs : List (List Int)} (h : bnd k gs) : bnd (k + 1) (addIf ps pres gs x) := by
  unfold addIf
  split
  · exact addTo_bnd h
  · exact ⟨by have := h.1; omega, fun g hg => by have := h.2 g hg; omega⟩
theorem bnd.row {k : Nat} {gs : List (List Int)} (h : bnd k gs) (i : Nat) (hi : i < gs.length) : (gs.getD i []).length ≤ k := by
  refine h.2 _ ?_
  rw [List.getD_eq_getElem?_getD, List.getElem?_eq_getElem hi]
  exact List.getElem_mem _
def groupsTo (ps : List PairV) (pres : List Int) (k : Nat) : List (List Int) := (kinds.take k).foldl (addIf ps pres) []
theorem groupsTo_step (ps : List PairV) (pres : List Int) (k : Nat) (h : k < 4) : groupsTo ps pres (k + 1) = addIf ps pres (groupsTo ps pres k) (k : Int) := by
  unfold groupsTo
  match k, h with
  | 0, _ => rfl
  | 1, _ => rfl
  | 2, _ => rfl
  | 3, _ => rfl
theorem groupsTo_bnd (ps : List PairV) (pres : List Int) : ∀ k, k ≤ 4 → bnd k (groupsTo ps pres k)
  | 0, _ => ⟨by simp [groupsTo], fun g hg => by simp [groupsTo] at hg⟩
  | k + 1, h => by
    rw [groupsTo_step ps pres k (by omega)]
    exact addIf_bnd (groupsTo_bnd ps pres k (by omega))
theorem map_getD_l (xs : List RowV) (i : Nat) (hi : i < xs.length) : (xs.map RowV.l).getD i [] = (xs.getD i default).l := by simp [List.getD_eq_getElem?_getD, hi]
/-- A row behind all. -/
theorem Own2.pushed {W w3 : World} {B g cap g3 cap3 H : Nat} {xs : List RowV} {r : RowV} (h : Own2 W B g cap xs) (hr : RowV.own W B r) (hrn : ∀ i, i < xs.length → (xs.getD i default).g ≠ r.g) (hrg : r.g ≠ g)
    (ho : w3.ownsRow B 29 1 (.slice (some ⟨g3, 0, none⟩) (xs.length + 1) cap3) (xs.length + 1) (xs.map RowV.val ++ [r.val])) (hg : W.grownBy w3 (some g)) (hat : some g = some g3 ∨ g3 = H) (hH : W.heap.size ≤ H) : Own2 w3 B g3 cap3 (xs ++ [r]) := by
  have hg3 : ∀ b, b < W.heap.size → b ≠ g → b ≠ g3 := fun b hb hne e => by
    rcases hat with h1 | h1
    · injection h1 with h1; exact hne (e.trans h1.symm)
    · omega
  have hk := h.rws.kept hg (fun i hi e => h.rws.far i hi (by injection e))
  refine ⟨?_, ?_⟩
  · rw [List.length_append, List.map_append]
    exact ho
  · refine Rws.snoc ⟨hk.row, hk.apart, fun i hi => hg3 _ (h.rws.row i hi).lt.2 (h.rws.far i hi)⟩ (hr.kept hg (fun e => hrg (by injection e))) hrn (hg3 _ hr.lt.2 hrg)
/-- One row longer. -/
theorem Own2.grew {W w3 : World} {B g cap H k : Nat} {xs : List RowV} {r : RowV} (h : Own2 W B g cap xs) (hk : k < xs.length) (ho : RowV.own w3 B r) (hg : W.grownBy w3 (some (xs.getD k default).g)) (hat : some (xs.getD k default).g = some r.g ∨ r.g = H) (hH : W.heap.size ≤ H) :
    w3.cell? ⟨g, k, none⟩ = some (xs.getD k default).val ∧ w3.frozen? ⟨g, k, none⟩ = false ∧ Own2 (w3.setCell ⟨g, k, none⟩ r.val) B g cap (xs.set k r) := by
  have hout : w3.ownsRow B 29 1 (.slice (some ⟨g, 0, none⟩) xs.length cap) xs.length (xs.map RowV.val) := h.out.kept hg (Or.inr (fun e => h.rws.far k hk (by injection e with e; exact e.symm)))
  have gs : w3.grownBy (w3.setCell ⟨g, k, none⟩ r.val) (some g) := gb_set (World.grownBy.refl _ _) _ _
  have hne : ∀ b, b < W.heap.size → b ≠ (xs.getD k default).g → b ≠ r.g := fun b hb h1 e => by
    rcases hat with h2 | h2
    · injection h2 with h2; exact h1 (e.trans h2.symm)
    · omega
  have hgl : g < W.heap.size := (h.out.lt g rfl).2
  have hrg : r.g ≠ g := fun e => hne g hgl (fun e2 => h.rws.far k hk e2.symm) e.symm
  refine ⟨?_, hout.frozenAt k, ?_, ?_⟩
  · refine (hout.cellAt k (by omega)).trans ?_
    simp [hk]
  · have h3 := (hout.stored k r.val).1
    rw [List.length_set, List.map_set]
    exact h3
  · refine Rws.put (fun i hi hik => ?_) h.rws.apart h.rws.far (ho.kept gs (fun e => hrg (by injection e))) (fun i hi hik => hne _ (h.rws.row i hi).lt.2 (fun e => hik (h.rws.apart i k hi hk e))) hrg
    refine ((h.rws.row i hi).kept hg (fun e => hik (h.rws.apart i k hi hk (by injection e)))).kept gs (fun e => h.rws.far i hi (by injection e))
theorem Tryz.infoIntS2 : (Tryz.prog.info? 29).map (fun i => (i.zero, i.size, i.bytes)) = some (some (.slice none 0 0), 1, 24) := by kernel_rfl
theorem Tryz.infoInt2 : (Tryz.prog.info? 3).map (fun i => (i.zero, i.size, i.bytes)) = some (some (.int .i64 0), 1, 8) := by kernel_rfl
end Go.Proofs.YtdmaldjnjffnlaaGreatDoor

/- impl.Groups and spec.Groups: the same groups, every row of them new. -/
namespace Go.Proofs.YtdmaldjnjffnlaaGreatDoor
open Go.RowKit
set_option linter.unusedVariables false

theorem groupsTo_four (ps : List PairV) (pres : List Int) : groupsTo ps pres 4 = groupsL ps pres := rfl
theorem own2_none (w : World) : Own2 (w.alloc (.cells #[] 29)) w.heap.size w.heap.size 0 [] := ⟨World.ownsRow_lit w #[] 0 (Nat.le_refl _) (Nat.zero_le _) rfl, Rws.nil⟩
end Go.Proofs.YtdmaldjnjffnlaaGreatDoor

/- The laws' marks over a slice of numbers: what is marked, and that it is held. -/
namespace Go.Proofs.YtdmaldjnjffnlaaGreatDoor
open Go.RowKit

def marksI (k0 n : Nat) : List Int := (List.range n).map fun (i : Nat) => ((k0 + i : Nat) : Int)
theorem marksI_at (k0 n i : Nat) (h : i < n) : (marksI k0 n).getD i 0 = ((k0 + i : Nat) : Int) := by simp [marksI, h]
theorem marksI_step (k0 k n : Nat) (xs : List Value) (hl : xs.length = n) (h : k < n) :
    (((marksI k0 k).map (Value.int .i64)) ++ xs.drop k).set k (.int .i64 ((k0 + k : Nat) : Int)) = ((marksI k0 (k + 1)).map (Value.int .i64)) ++ xs.drop (k + 1) := by
  have hlen : ((marksI k0 k).map (Value.int .i64)).length = k := by simp [marksI]
  rw [List.set_append_right _ _ (by omega), hlen, Nat.sub_self]
  have e : xs.drop k = xs[k] :: xs.drop (k + 1) := List.drop_eq_getElem_cons (by omega)
  rw [e, List.set_cons_zero]
  simp [marksI, List.range_succ]
theorem marksI_cell (k0 k n : Nat) (xs : List Value) (hl : xs.length = n) (h : k < n) :
    (((marksI k0 k).map (Value.int .i64)) ++ xs.drop k)[k]? = some xs[k] := by
  have hlen : ((marksI k0 k).map (Value.int .i64)).length = k := by simp [marksI]
  rw [List.getElem?_append_right (by omega), hlen, Nat.sub_self, List.getElem?_drop]
  simp [hl, h]

set_option maxHeartbeats 800000 in
theorem markIntS_any (base g n cap k0 : Nat) (zs : List Int) (w : World) (hown : w.ownsRow base 3 1 (.slice (some ⟨g, 0, none⟩) n cap) n (zs.map (Value.int .i64))) (hn : n ≤ 1048577) (hk1 : k0 ≤ 100000000) :
    Calls Tryz.prog 18 #[.slice (some ⟨g, 0, none⟩) n cap, .int .i64 (k0 : Int)] w fun e w' => e = .returned (.int .i64 ((k0 + n : Nat) : Int)) ∧
      w'.ownsRow base 3 1 (.slice (some ⟨g, 0, none⟩) n cap) n ((marksI k0 n).map (Value.int .i64)) ∧ w.grownBy w' (some g) := by
  have hl : zs.length = n := by have := hown.1; simpa using this
  go_enter Tryz.func18, Tryz.ntmps18
  go_wp2
  go_loopw [1, 5] (fun t i wr => ∃ k : Nat, k ≤ n ∧ i = .int .i64 (k : Int) ∧ t = .int .i64 ((k0 : Int) + k) ∧ wr.ownsRow base 3 1 (.slice (some ⟨g, 0, none⟩) n cap) n ((marksI k0 k).map (Value.int .i64) ++ (zs.map (Value.int .i64)).drop k) ∧ w.grownBy wr (some g)) (fun _ i _ => n - (intOf i).toNat)
  case atStart => exact ⟨0, Nat.zero_le _, rfl, by go_num, by simpa [marksI] using hown, World.grownBy.refl _ _⟩
  case round =>
    obtain ⟨k, hk, rfl, rfl, how, hgb⟩ := hrel
    by_cases hlt : k < n
    · obtain ⟨v0, hc2⟩ : ∃ v, wr.cell? ⟨g, k, none⟩ = some (.int .i64 v) := by
        refine ⟨zs[k], (how.cellAt k (by omega)).trans ?_⟩
        rw [marksI_cell k0 k n _ (by simpa using hl) hlt]
        simp
      have hf2 : wr.frozen? ⟨g, k, none⟩ = false := how.frozenAt k
      have hst := (how.stored k (.int .i64 ((k0 + k : Nat) : Int))).1
      rw [marksI_step k0 k n _ (by simpa using hl) hlt] at hst
      have hgs := gb_set hgb k (.int .i64 ((k0 + k : Nat) : Int))
      have hE : ((k0 + k : Nat) : Int) = (k0 : Int) + k := by omega
      rw [hE] at hst hgs
      have HST := hide hst
      have HGS := hide hgs
      clear how hgb hst hgs hE
      go_wp2
      go_roundw
      case rel => exact ⟨k + 1, by omega, by go_num, by go_num, HST.out, HGS.out⟩
      case measure => simp [intOf]; omega
    · have hkn : k = n := by omega
      subst hkn
      go_wp2
      go_ret
      refine ⟨ret_num (by omega), ?_, hgb⟩
      rw [List.drop_of_length_le (by simp; omega), List.append_nil] at how
      exact how

set_option maxHeartbeats 800000 in
theorem heldIntS_any (a : Option Addr) (n cap k0 : Nat) (w : World) (hr : Rd w a n (marksI k0 n)) (hn : n ≤ 1048577) (hk1 : k0 ≤ 100000000) :
    Calls Tryz.prog 50 #[.slice a n cap, .int .i64 (k0 : Int)] w fun e w' => e = .returned (.int .i64 ((k0 + n : Nat) : Int)) ∧ w' = w := by
  go_enter Tryz.func50, Tryz.ntmps50
  go_wp2
  go_loop [1, 5] (fun t i => ∃ k : Nat, k ≤ n ∧ i = .int .i64 (k : Int) ∧ t = .int .i64 ((k0 : Int) + k)) (fun _ i => n - (intOf i).toNat)
  case atStart => exact ⟨0, Nat.zero_le _, rfl, by go_num⟩
  case round =>
    obtain ⟨k, hk, rfl, rfl⟩ := hrel
    by_cases hlt : k < n
    · obtain ⟨b, off, rfl, hc⟩ := hr.2 k hlt
      rw [marksI_at k0 n k hlt] at hc
      have hE : ((k0 + k : Nat) : Int) = (k0 : Int) + k := by omega
      rw [hE] at hc
      have hne : (((k0 : Int) + k) != ((k0 : Int) + k)) = false := by simp
      clear hE
      go_wp2
      go_round
      case rel => exact ⟨k + 1, by omega, by go_num, by go_num⟩
      case measure => simp [intOf]; omega
    · have hkn : k = n := by omega
      subst hkn
      go_wp2
      go_ret
      exact ⟨ret_num (by omega), rfl⟩
end Go.Proofs.YtdmaldjnjffnlaaGreatDoor

/- The laws' marks over pairs and over rows of rows. -/
namespace Go.Proofs.YtdmaldjnjffnlaaGreatDoor
open Go.RowKit
set_option linter.unusedVariables false

set_option maxHeartbeats 1000000 in
theorem toPairS_own (a : Option Addr) (n c : Nat) (xs : List PairV) (w : World) (hr : RdR PairV.cells 2 w a n xs) (hn : n ≤ 1048576) :
    Calls Tryz.prog 39 #[.slice a n c] w fun e w' => ∃ L, e = .returned (.slice (some ⟨w.heap.size, 0, none⟩) n n) ∧ w'.ownsRow w.heap.size 93 2 (.slice (some ⟨w.heap.size, 0, none⟩) n n) n L ∧
      RdR PairV.cells 2 w' (some ⟨w.heap.size, 0, none⟩) n xs ∧ Below w.heap.size w w' := by
  obtain ⟨i0, hi, hz0, hz1, hz2⟩ := info_parts Tryz.infoPair
  have hbb : i0.bytes * n ≤ 281474976710656 := by rw [hz2]; omega
  go_enter Tryz.func39, Tryz.ntmps39
  go_wp2_with (first
    | (at_make; refine wpList_make_full _ rfl _ _ 34 rfl w.heap.size 93 i0 (.agg #[.int .i64 0, .int .i64 0]) 2 Tryz.underlying34 hi hz0 hz1 .i64 .i64 n n n rfl rfl rfl rfl hbb (by unfold maxLen; omega) (Nat.le_refl _) ?_; intro w1 hown hgrow)
    | go_in)
  have hb1 : Below w.heap.size w w1 := (Below.refl _ _).grown hgrow (Nat.le_refl _) (by simp)
  have hs1 : w.heap.size < w1.heap.size := (hown.lt _ rfl).2
  clear hgrow
  go_loopw [4] (fun i wr => ∃ (k : Nat) (L : List Value), k ≤ n ∧ i = .int .i64 k ∧ wr.ownsRow w.heap.size 93 2 (.slice (some ⟨w.heap.size, 0, none⟩) n n) n L ∧
      (∀ i, i < k → ∀ j, j < 2 → L[i * 2 + j]? = (PairV.cells (xs.getD i default))[j]?) ∧ Below w.heap.size w wr) (fun i _ => n - (intOf i).toNat)
  case atStart => exact ⟨0, _, Nat.zero_le _, rfl, hown, fun i hi => absurd hi (Nat.not_lt_zero _), hb1⟩
  case round =>
    obtain ⟨k, L, hk, rfl, hownL, hL, hbel⟩ := hrel
    by_cases hlt : k < n
    · obtain ⟨b, off, rfl, hc⟩ := hr.2 k hlt
      have HL := hide (rows_step (cells := PairV.cells) (xs := xs) PairV.len hownL.1 hlt hL)
      generalize xs.getD k default = q at hc HL
      have d0 : wr.cell? ⟨b, off + k * 2, none⟩ = some (.int .i64 q.a) := (hbel.cell (World.block_lt_of_cell? w _ (hc 0 (by omega)))).trans (hc 0 (by omega))
      have d1 : wr.cell? ⟨b, off + k * 2 + 1, none⟩ = some (.int .i64 q.b) := (hbel.cell (World.block_lt_of_cell? w _ (hc 1 (by omega)))).trans (hc 1 (by omega))
      have HO := hide hownL
      have HB := hide hbel
      clear hc hr hown hbel hownL hL hb1
      go_wp2_with fail
      refine (toPair_any _ _ _).mono ?_
      rintro e w2 ⟨rfl, hb2⟩
      have hown2 := own_later (unhide HO) hb2
      obtain ⟨u0, e0, t0⟩ := row_at (j := 0) hown2.1 hlt (by omega)
      have f0 : w2.cell? ⟨w.heap.size, k * 2, none⟩ = some u0 := (hown2.cellAt _ t0).trans e0
      have z0 : w2.frozen? ⟨w.heap.size, k * 2, none⟩ = false := hown2.frozenAt (k * 2)
      obtain ⟨u1, e1, t1⟩ := row_at (j := 1) hown2.1 hlt (by omega)
      have f1 : w2.cell? ⟨w.heap.size, k * 2 + 1, none⟩ = some u1 := (hown2.cellAt _ t1).trans e1
      have z1 : w2.frozen? ⟨w.heap.size, k * 2 + 1, none⟩ = false := hown2.frozenAt (k * 2 + 1)
      have HO2 := hide (own_write (PairV.cells q) _ _ (k * 2) hown2)
      have HB2 := hide (below_write (Nat.le_refl _) (PairV.cells q) _ _ (k * 2) ((unhide HB).trans (hb2.mono (unhide HB).size)))
      clear hown2 HO HB hb2 e0 t0 e1 t1
      go_wp2
      go_roundw
      case rel => exact ⟨k + 1, _, by omega, by go_num, unhide HO2, unhide HL, unhide HB2⟩
      case measure => simp [intOf]; omega
    · obtain rfl : k = n := by omega
      have HO := hide hownL
      have HL := hide hL
      have HB := hide hbel
      clear hown hb1 hownL hL hbel
      go_wp2
      go_ret
      exact ⟨L, rfl, unhide HO, RdR.of_owns (unhide HO) hr.1 (unhide HL), unhide HB⟩
set_option maxHeartbeats 1000000 in
theorem markPairS_any (base g n cap k0 : Nat) (L : List Value) (w : World) (hown : w.ownsRow base 93 2 (.slice (some ⟨g, 0, none⟩) n cap) n L) (hn : n ≤ 1048577) (hk1 : k0 ≤ 100000000) :
    Calls Tryz.prog 47 #[.slice (some ⟨g, 0, none⟩) n cap, .int .i64 (k0 : Int)] w fun e w' => e = .returned (.int .i64 ((k0 + 2 * n : Nat) : Int)) ∧ w.grownBy w' (some g) := by
  go_enter Tryz.func47, Tryz.ntmps47
  go_wp2
  go_loopw [1, 5] (fun t i wr => ∃ (k : Nat) (L : List Value), k ≤ n ∧ i = .int .i64 (k : Int) ∧ t = .int .i64 ((k0 : Int) + 2 * k) ∧ wr.ownsRow base 93 2 (.slice (some ⟨g, 0, none⟩) n cap) n L ∧ w.grownBy wr (some g)) (fun _ i _ => n - (intOf i).toNat)
  case atStart => exact ⟨0, L, Nat.zero_le _, rfl, by go_num, hown, World.grownBy.refl _ _⟩
  case round =>
    obtain ⟨k, L, hk, rfl, rfl, how, hgb⟩ := hrel
    by_cases hlt : k < n
    · obtain ⟨u0, e0, t0⟩ := row_at (j := 0) how.1 hlt (by omega)
      have f0 : wr.cell? ⟨g, k * 2, none⟩ = some u0 := (how.cellAt _ t0).trans e0
      have z0 : wr.frozen? ⟨g, k * 2, none⟩ = false := how.frozenAt (k * 2)
      obtain ⟨u1, e1, t1⟩ := row_at (j := 1) how.1 hlt (by omega)
      have f1 : wr.cell? ⟨g, k * 2 + 1, none⟩ = some u1 := (how.cellAt _ t1).trans e1
      have z1 : wr.frozen? ⟨g, k * 2 + 1, none⟩ = false := how.frozenAt (k * 2 + 1)
      have HO := hide (((how.stored (k * 2) (.int .i64 ((k0 : Int) + 2 * k))).1.stored (k * 2 + 1) (.int .i64 ((k0 : Int) + 2 * k + 1))).1)
      have HG := hide (gb_set (gb_set hgb (k * 2) (.int .i64 ((k0 : Int) + 2 * k))) (k * 2 + 1) (.int .i64 ((k0 : Int) + 2 * k + 1)))
      clear how hgb hown e0 t0 e1 t1
      go_wp2
      go_roundw
      case rel => exact ⟨k + 1, _, by omega, by go_num, by go_num, unhide HO, unhide HG⟩
      case measure => simp [intOf]; omega
    · obtain rfl : k = n := by omega
      have HG := hide hgb
      clear hown how hgb
      go_wp2
      go_ret
      exact ⟨ret_num (by omega), unhide HG⟩
/-- Each row with its marks. -/
def markTo (k0 : Nat) : List RowV → List RowV
  | [] => []
  | r :: xs => ⟨r.g, r.cap, marksI k0 r.l.length⟩ :: markTo (k0 + r.l.length) xs
theorem marksI_len (k0 n : Nat) : (marksI k0 n).length = n := by simp [marksI]
theorem markTo_len : ∀ (xs : List RowV) (k0 : Nat), (markTo k0 xs).length = xs.length
  | [], _ => rfl
  | r :: xs, k0 => by simp [markTo, markTo_len xs]
def totR (xs : List RowV) : Nat := (xs.map fun r => r.l.length).sum
theorem totR_step (xs : List RowV) (k : Nat) (h : k < xs.length) : totR (xs.take (k + 1)) = totR (xs.take k) + (xs.getD k default).l.length := by
  unfold totR
  rw [List.take_succ_eq_append_getElem h, List.map_append, List.sum_append]
  congr 1
  simp [h]
theorem totR_le (xs : List RowV) (k : Nat) : totR (xs.take k) ≤ totR xs := by
  unfold totR
  conv => rhs; rw [← List.take_append_drop k xs, List.map_append, List.sum_append]
  omega
/-- Marked up to place k. -/
def markK (k0 : Nat) (xs : List RowV) (k : Nat) : List RowV := markTo k0 (xs.take k) ++ xs.drop k
theorem markK_step : ∀ (xs : List RowV) (k k0 : Nat), k < xs.length → markK k0 xs (k + 1) = (markK k0 xs k).set k ⟨(xs.getD k default).g, (xs.getD k default).cap, marksI (k0 + totR (xs.take k)) (xs.getD k default).l.length⟩
  | [], k, _, h => absurd h (Nat.not_lt_zero _)
  | r :: xs, 0, k0, h => by simp [markK, markTo, totR]
  | r :: xs, k + 1, k0, h => by
    have ih := markK_step xs k (k0 + r.l.length) (by simpa using h)
    unfold markK at ih ⊢
    have e : k0 + totR ((r :: xs).take (k + 1)) = k0 + r.l.length + totR (xs.take k) := by simp [totR]; omega
    rw [e]
    simp only [List.take_succ_cons, markTo, List.drop_succ_cons, List.cons_append, List.set_cons_succ, List.getD_cons_succ]
    rw [ih]
theorem markK_len (k0 : Nat) (xs : List RowV) (k : Nat) (h : k ≤ xs.length) : (markK k0 xs k).length = xs.length := by
  simp [markK, markTo_len]
  omega
theorem markK_get (k0 : Nat) (xs : List RowV) (k : Nat) (h : k < xs.length) : (markK k0 xs k).getD k default = xs.getD k default := by
  have hl : (markTo k0 (xs.take k)).length = k := by rw [markTo_len, List.length_take]; omega
  simp only [markK, List.getD_eq_getElem?_getD]
  rw [List.getElem?_append_right (by omega), hl, Nat.sub_self, List.getElem?_drop, Nat.add_zero]
theorem marked_get : ∀ (xs : List RowV) (k k0 : Nat), k < xs.length → (markTo k0 xs).getD k default = ⟨(xs.getD k default).g, (xs.getD k default).cap, marksI (k0 + totR (xs.take k)) (xs.getD k default).l.length⟩
  | [], k, _, h => absurd h (Nat.not_lt_zero _)
  | r :: xs, 0, k0, h => by simp [markTo, totR]
  | r :: xs, k + 1, k0, h => by
    have ih := marked_get xs k (k0 + r.l.length) (by simpa using h)
    have e : k0 + totR ((r :: xs).take (k + 1)) = k0 + r.l.length + totR (xs.take k) := by simp [totR]; omega
    rw [e]
    simp only [markTo, List.getD_cons_succ]
    exact ih
/-- One row's numbers are others. -/
theorem Own2.reset {w w3 : World} {B g cap k : Nat} {xs : List RowV} {r : RowV} (h : Own2 w B g cap xs) (hk : k < xs.length) (hg : w.grownBy w3 (some (xs.getD k default).g)) (ho : RowV.own w3 B r) (h1 : r.g = (xs.getD k default).g) (h2 : r.val = (xs.getD k default).val) : Own2 w3 B g cap (xs.set k r) := by
  have e : (xs.set k r).map RowV.val = xs.map RowV.val := by
    rw [List.map_set, h2]
    refine List.ext_getElem? fun i => ?_
    by_cases hi : i = k
    · subst hi
      rw [List.getElem?_set_self (by simpa using hk)]
      simp [hk]
    · rw [List.getElem?_set_ne (by omega)]
  refine ⟨?_, ?_⟩
  · rw [List.length_set, e]
    exact h.out.kept hg (Or.inr (fun e => h.rws.far k hk (by injection e with e; exact e.symm)))
  · refine Rws.put (fun i hi hik => (h.rws.row i hi).kept hg (fun e => hik (h.rws.apart i k hi hk (by injection e)))) h.rws.apart h.rws.far ho (fun i hi hik e => hik (h.rws.apart i k hi hk (e.trans h1))) (by rw [h1]; exact h.rws.far k hk)
set_option maxHeartbeats 1000000 in
theorem markIntSS_any (B g cap k0 : Nat) (xs : List RowV) (w : World) (ho : Own2 w B g cap xs) (hn : xs.length ≤ 1048576) (ht : totR xs ≤ 1048576) (hk1 : k0 ≤ 1000000) (hB : B ≤ w.heap.size) :
    Calls Tryz.prog 19 #[.slice (some ⟨g, 0, none⟩) xs.length cap, .int .i64 (k0 : Int)] w fun e w' => e = .returned (.int .i64 ((k0 + totR xs : Nat) : Int)) ∧ Own2 w' B g cap (markTo k0 xs) ∧ Below B w w' := by
  have HO := hide ho
  clear ho
  go_enter Tryz.func19, Tryz.ntmps19
  go_wp2
  go_loopw [1, 5] (fun t i wr => ∃ k : Nat, k ≤ xs.length ∧ i = .int .i64 (k : Int) ∧ t = .int .i64 ((k0 + totR (xs.take k) : Nat) : Int) ∧ Own2 wr B g cap (markK k0 xs k) ∧ Below B w wr) (fun _ i _ => xs.length - (intOf i).toNat)
  case atStart => exact ⟨0, Nat.zero_le _, rfl, rfl, unhide HO, Below.refl _ _⟩
  case round =>
    clear HO
    obtain ⟨k, hk, rfl, rfl, ho, hbel⟩ := hrel
    have HO := hide ho
    have HB := hide hbel
    clear ho hbel
    by_cases hlt : k < xs.length
    case neg =>
      obtain rfl : k = xs.length := by omega
      have e1 : markK k0 xs xs.length = markTo k0 xs := by simp [markK]
      have e2 : xs.take xs.length = xs := List.take_length
      have HE1 := hide e1
      have HE2 := hide e2
      clear e1 e2
      go_wp2
      go_ret
      exact ⟨ret_num (by rw [unhide HE2]), by rw [← unhide HE1]; exact unhide HO, unhide HB⟩
    have hkl : k < (markK k0 xs k).length := by rw [markK_len k0 xs k (by omega)]; exact hlt
    obtain ⟨c1, f1⟩ := (unhide HO).cell k hkl
    have HRW := hide ((unhide HO).rws.row k hkl)
    have HRS := hide (fun (w3 : World) (r : RowV) => (unhide HO).reset (w3 := w3) (r := r) hkl)
    have HST := hide (markK_step xs k k0 hlt)
    have hts := totR_step xs k hlt
    have htl := totR_le xs (k + 1)
    have HTS := hide (show k0 + totR (xs.take k) + (xs.getD k default).l.length = k0 + totR (xs.take (k + 1)) by omega)
    have hsm : k0 + totR (xs.take k) ≤ 100000000 := by omega
    have hll : (xs.getD k default).l.length ≤ 1048577 := by omega
    rw [markK_get k0 xs k hlt] at c1 HRW HRS
    unfold RowV.val at c1
    generalize k0 + totR (xs.take k) = t0 at HTS hsm HST ⊢
    generalize xs.getD k default = r at c1 HRW HRS HST HTS hll
    clear hts htl
    go_wp2_with fail
    refine (markIntS_any B r.g r.l.length r.cap t0 r.l wr (unhide HRW) hll hsm).mono ?_
    rintro e w2 ⟨rfl, ho2, hg2⟩
    have RN : RowV.own w2 B ⟨r.g, r.cap, marksI t0 r.l.length⟩ := by unfold RowV.own; rw [marksI_len]; exact ho2
    have O3 := (unhide HRS) w2 ⟨r.g, r.cap, marksI t0 r.l.length⟩ hg2 RN rfl (by unfold RowV.val; rw [marksI_len])
    rw [← unhide HST] at O3
    have HO3 := hide O3
    have HB3 : Hid (Below B w w2) := (unhide HB).grown hg2 (Nat.le_trans hB (unhide HB).size) (fun b hb => by have := (unhide HRW).lt.1; injection hb with hb; omega)
    clear O3 RN ho2 hg2 HRS HRW c1 f1
    rw [unhide HTS]
    go_wp2_with fail
    go_roundw
    case rel => exact ⟨k + 1, by omega, by go_num, rfl, unhide HO3, unhide HB3⟩
    case measure => simp [intOf]; omega
set_option maxHeartbeats 1000000 in
theorem heldIntSS_any (B g cap k0 : Nat) (xs : List RowV) (w : World) (ho : Own2 w B g cap (markTo k0 xs)) (hn : xs.length ≤ 1048576) (ht : totR xs ≤ 1048576) (hk1 : k0 ≤ 1000000) :
    Calls Tryz.prog 20 #[.slice (some ⟨g, 0, none⟩) xs.length cap, .int .i64 (k0 : Int)] w fun e w' => e = .returned (.int .i64 ((k0 + totR xs : Nat) : Int)) ∧ w' = w := by
  have HO := hide ho
  clear ho
  go_enter Tryz.func20, Tryz.ntmps20
  go_wp2
  go_loop [1, 5] (fun t i => ∃ k : Nat, k ≤ xs.length ∧ i = .int .i64 (k : Int) ∧ t = .int .i64 ((k0 + totR (xs.take k) : Nat) : Int)) (fun _ i => xs.length - (intOf i).toNat)
  case atStart => exact ⟨0, Nat.zero_le _, rfl, rfl⟩
  case round =>
    obtain ⟨k, hk, rfl, rfl⟩ := hrel
    by_cases hlt : k < xs.length
    case neg =>
      obtain rfl : k = xs.length := by omega
      go_wp2
      go_ret
      exact ⟨ret_num (by simp), rfl⟩
    have hkl : k < (markTo k0 xs).length := by rw [markTo_len]; exact hlt
    obtain ⟨c1, f1⟩ := (unhide HO).cell k hkl
    have HRD := hide (own_reads ((unhide HO).rws.row k hkl))
    have hts := totR_step xs k hlt
    have htl := totR_le xs (k + 1)
    have HTS := hide (show k0 + totR (xs.take k) + (xs.getD k default).l.length = k0 + totR (xs.take (k + 1)) by omega)
    have hsm : k0 + totR (xs.take k) ≤ 100000000 := by omega
    have hll : (xs.getD k default).l.length ≤ 1048577 := by omega
    rw [marked_get xs k k0 hlt] at c1 HRD
    unfold RowV.val at c1
    simp only [marksI_len] at c1 HRD
    generalize k0 + totR (xs.take k) = t0 at HTS hsm c1 HRD ⊢
    generalize xs.getD k default = r at c1 HRD HTS hll
    clear hts htl
    go_wp2_with fail
    refine (heldIntS_any (some ⟨r.g, 0, none⟩) r.l.length r.cap t0 w (unhide HRD) hll hsm).mono ?_
    rintro e w2 ⟨rfl, hw⟩
    subst w2
    have hneg : ¬ ((t0 + r.l.length : Nat) : Int) < 0 := by omega
    have HTS2 := hide (congrArg (fun (n : Nat) => Value.int .i64 (n : Int)) (unhide HTS))
    go_wp2_with fail
    go_round
    case rel => exact ⟨k + 1, by omega, by go_num, unhide HTS2⟩
    case measure => simp [intOf]; omega
end Go.Proofs.YtdmaldjnjffnlaaGreatDoor
