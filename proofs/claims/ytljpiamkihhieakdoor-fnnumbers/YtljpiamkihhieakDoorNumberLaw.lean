/- The program's Number, its deferred function and all; and the law. -/
import Derived.Test.YtljpiamkihhieakDoorNumberImpl
namespace Go.Proofs.YtljpiamkihhieakDoor
open Go.RowKit

theorem cell_set {w : World} {b : Nat} {v : Value} (h : w.cell? ⟨b, 0, none⟩ = some v) (u : Value) : (w.setCell ⟨b, 0, none⟩ u).cell? ⟨b, 0, none⟩ = some u := World.cell?_setCell_same _ _ _ h

set_option maxHeartbeats 800000 in
theorem implNumber_yes (s : ByteArray) (m : Nat) (w : World) (hs : s.size ≤ 1048576) (hL : LibOk w) (hn : numOf s.data.toList = some m) :
    Calls Tryd.prog 7 #[.string s] w fun e w' => e = .returned (.tuple #[.int .i64 (m : Int), .bool true]) ∧ Below w.heap.size w w' := by
  have hmf : ∀ (fn : Fn) (first cap : Array Value) (w : World), (Instr.makeFunc fn first cap).run Tryd.prog w = .ok (.func fn first cap) w := fun _ _ _ _ => rfl
  have HB : Hid (Below w.heap.size w ((w.alloc (.cells #[.int .i64 0] 3)).alloc (.cells #[.bool false] 4))) := ((Below.refl _ _).alloc (Nat.le_refl _) _).alloc (by simp) _
  have HL : Hid (LibOk w) := hL
  have HN : Hid (numOf s.data.toList = some m) := hn
  clear hL hn
  go_enter_defers Tryd.func7, Tryd.ntmps7
  go_wp2_with fail
  refine (must_yes s m _ hs (HL.out.later HB.out) HN.out).mono ?_
  rintro e w1 ⟨rfl, hb1⟩
  have c1 : w1.cell? ⟨w.heap.size, 0, none⟩ = some (.int .i64 0) := (hb1.cell (by simp; omega)).trans (by simp [go_sem])
  have f1 : w1.frozen? ⟨w.heap.size, 0, none⟩ = false := (hb1.frozen (by simp; omega)).trans (by simp [go_sem])
  have c2 : w1.cell? ⟨w.heap.size + 1, 0, none⟩ = some (.bool false) := (hb1.cell (by simp)).trans (by simp [go_sem])
  have f2 : w1.frozen? ⟨w.heap.size + 1, 0, none⟩ = false := (hb1.frozen (by simp)).trans (by simp [go_sem])
  have HB1 := HB.out.trans (hb1.mono HB.out.size)
  have HB2 : Hid (Below w.heap.size w w1) := HB1
  clear HB1 hb1
  have r1 : ∀ (u : Value) (x : Value), ((w1.setCell ⟨w.heap.size, 0, none⟩ u).setCell ⟨w.heap.size + 1, 0, none⟩ x).cell? ⟨w.heap.size, 0, none⟩ = some u := fun u x => by
    rw [World.cell?_of_block (Below.heap_setCell _ _ _ _ (by simp))]
    exact cell_set c1 u
  have r2 : ∀ (u : Value) (x : Value), ((w1.setCell ⟨w.heap.size, 0, none⟩ u).setCell ⟨w.heap.size + 1, 0, none⟩ x).cell? ⟨w.heap.size + 1, 0, none⟩ = some x := fun u x =>
    cell_set ((World.cell?_of_block (Below.heap_setCell _ _ _ _ (by simp))).trans c2) x
  go_wp2
  refine leaves_cons (f := 17) (args := #[.pointer (some ⟨w.heap.size, 0, none⟩), .pointer (some ⟨w.heap.size + 1, 0, none⟩)]) (by simp) (by simp [go_sem]) ?_
  refine (catch_idle ⟨w.heap.size, 0, none⟩ ⟨w.heap.size + 1, 0, none⟩ _).mono ?_
  rintro e u' w'' ⟨rfl, rfl, rfl⟩
  have hb := (HB2.out.setCell (p := ⟨w.heap.size, 0, none⟩) (Nat.le_refl _) (.int .i64 (m : Int))).setCell (p := ⟨w.heap.size + 1, 0, none⟩) (Nat.le_succ _) (.bool true)
  simp [Leaves, settle, results, Tryd.results7, go_sem, r1, r2, hb]

set_option maxHeartbeats 800000 in
theorem implNumber_no (s : ByteArray) (w : World) (hs : s.size ≤ 1048576) (hL : LibOk w) (hn : numOf s.data.toList = none) :
    Calls Tryd.prog 7 #[.string s] w fun e w' => e = .returned (.tuple #[.int .i64 0, .bool false]) ∧ Below w.heap.size w w' := by
  have hmf : ∀ (fn : Fn) (first cap : Array Value) (w : World), (Instr.makeFunc fn first cap).run Tryd.prog w = .ok (.func fn first cap) w := fun _ _ _ _ => rfl
  have HB : Hid (Below w.heap.size w ((w.alloc (.cells #[.int .i64 0] 3)).alloc (.cells #[.bool false] 4))) := ((Below.refl _ _).alloc (Nat.le_refl _) _).alloc (by simp) _
  have HL : Hid (LibOk w) := hL
  have HN : Hid (numOf s.data.toList = none) := hn
  clear hL hn
  go_enter_defers Tryd.func7, Tryd.ntmps7
  go_wp2_with fail
  refine (must_no s _ hs (HL.out.later HB.out) HN.out).mono ?_
  rintro e w1 ⟨rfl, hb1⟩
  have c1 : w1.cell? ⟨w.heap.size, 0, none⟩ = some (.int .i64 0) := (hb1.cell (by simp; omega)).trans (by simp [go_sem])
  have f1 : w1.frozen? ⟨w.heap.size, 0, none⟩ = false := (hb1.frozen (by simp; omega)).trans (by simp [go_sem])
  have c2 : w1.cell? ⟨w.heap.size + 1, 0, none⟩ = some (.bool false) := (hb1.cell (by simp)).trans (by simp [go_sem])
  have f2 : w1.frozen? ⟨w.heap.size + 1, 0, none⟩ = false := (hb1.frozen (by simp)).trans (by simp [go_sem])
  have HB1 := HB.out.trans (hb1.mono HB.out.size)
  have HB2 : Hid (Below w.heap.size w w1) := HB1
  clear HB1 hb1
  have r1 : ∀ (u : Value) (x : Value), ((w1.setCell ⟨w.heap.size, 0, none⟩ u).setCell ⟨w.heap.size + 1, 0, none⟩ x).cell? ⟨w.heap.size, 0, none⟩ = some u := fun u x => by
    rw [World.cell?_of_block (Below.heap_setCell _ _ _ _ (by simp))]
    exact cell_set c1 u
  have r2 : ∀ (u : Value) (x : Value), ((w1.setCell ⟨w.heap.size, 0, none⟩ u).setCell ⟨w.heap.size + 1, 0, none⟩ x).cell? ⟨w.heap.size + 1, 0, none⟩ = some x := fun u x =>
    cell_set ((World.cell?_of_block (Below.heap_setCell _ _ _ _ (by simp))).trans c2) x
  go_wp2
  refine leaves_cons (f := 17) (args := #[.pointer (some ⟨w.heap.size, 0, none⟩), .pointer (some ⟨w.heap.size + 1, 0, none⟩)]) (by simp) (by simp [go_sem]) ?_
  refine (catch_panicking ⟨w.heap.size, 0, none⟩ ⟨w.heap.size + 1, 0, none⟩ 0 false _ _ [] _ c1 f1 c2 f2 (by simp)).mono ?_
  rintro e u' w'' ⟨rfl, rfl, rfl⟩
  have hb := (HB2.out.setCell (p := ⟨w.heap.size, 0, none⟩) (Nat.le_refl _) (.int .i64 0)).setCell (p := ⟨w.heap.size + 1, 0, none⟩) (Nat.le_succ _) (.bool false)
  simp [Leaves, settle, results, Tryd.results7, go_sem, r1, r2, hb]

/-- impl.Number at every text. -/
theorem implNumber_any (s : ByteArray) (w : World) (hs : s.size ≤ 1048576) (hL : LibOk w) :
    Calls Tryd.prog 7 #[.string s] w fun e w' => e = .returned (.tuple #[.int .i64 (numN s.data.toList), .bool (numB s.data.toList)]) ∧ Below w.heap.size w w' := by
  cases h : numOf s.data.toList with
  | none => rw [numN_no h, numB_no h]; exact implNumber_no s w hs hL h
  | some m => rw [numN_of h, numB_of h]; exact implNumber_yes s m w hs hL h

end Go.Proofs.YtljpiamkihhieakDoor
