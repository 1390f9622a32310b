/- The laws of chapter 2, walked: each returns true at every argument. -/
import Derived.Test.YtkojbamogndhcaaItemOk
import Derived.Test.YtkojbamogndhcaaTo
namespace Go.Proofs.Ytkojbamogndhcaa
open Go.RowKit
set_option linter.unusedVariables false

theorem law_volume (x y z : Int) (w : World) :
    Calls Try.prog 8 #[.int .i64 x, .int .i64 y, .int .i64 z] w fun e w' => e = .returned (.bool true) ∧ Below w.heap.size w w' := by
  have hne : (vol x y z != vol x y z) = false := by simp
  go_enter Try.func8, Try.ntmps8
  go_wp2_with (first | (go_at_call 27; refine (specVolume_any _ _ _ _).mono ?_; rintro e w' ⟨rfl, hw⟩; subst w') | (go_at_call 15; refine (volume_any _ _ _ _).mono ?_; rintro e w' ⟨rfl, hw⟩; subst w'))
  go_ret
  exact ⟨rfl, Below.refl _ _⟩
set_option maxHeartbeats 1000000 in
theorem law_item (a0 a1 a2 a3 a4 a5 a6 : Int) (w : World) :
    Calls Try.prog 4 #[.agg #[.int .i64 a0, .int .i64 a1, .int .i64 a2, .int .i64 a3, .int .i64 a4, .int .i64 a5, .int .i64 a6]] w fun e w' => e = .returned (.bool true) ∧ Below w.heap.size w w' := by
  have hne : (itemB a0 a1 a2 a3 a4 a5 a6 != itemB a0 a1 a2 a3 a4 a5 a6) = false := by simp
  go_enter Try.func4, Try.ntmps4
  go_wp2_with fail
  refine (toItem_any _ _ _ _ _ _ _ _).mono ?_
  rintro e w1 ⟨rfl, hb1⟩
  have H1 : Hid (Below w.heap.size w w1) := ((Below.refl w.heap.size w).alloc (Nat.le_refl _) _).trans (hb1.mono (by simp))
  have z1 : w.heap.size < w1.heap.size := by have := hb1.size; simp at this; omega
  have A1 := Blk.below hb1 (by simp) (Blk.allocAt [.int .i64 a0, .int .i64 a1, .int .i64 a2, .int .i64 a3, .int .i64 a4, .int .i64 a5, .int .i64 a6] rfl)
  have HA1 := hide A1
  clear hb1 A1
  go_wp2_with fail
  refine (specItemOk_any _ _ _ _ _ _ _ _).mono ?_
  rintro e w2 ⟨rfl, hb2⟩
  have H2 : Hid (Below w.heap.size w w2) := (unhide H1).trans (hb2.mono (unhide H1).size)
  have A2 := Blk.below hb2 z1 (unhide HA1)
  have c0 : w2.cell? ⟨w.heap.size, 0, none⟩ = some (.int .i64 a0) := (A2 0 (by simp)).1
  have c1 : w2.cell? ⟨w.heap.size, 1, none⟩ = some (.int .i64 a1) := (A2 1 (by simp)).1
  have c2 : w2.cell? ⟨w.heap.size, 2, none⟩ = some (.int .i64 a2) := (A2 2 (by simp)).1
  have c3 : w2.cell? ⟨w.heap.size, 3, none⟩ = some (.int .i64 a3) := (A2 3 (by simp)).1
  have c4 : w2.cell? ⟨w.heap.size, 4, none⟩ = some (.int .i64 a4) := (A2 4 (by simp)).1
  have c5 : w2.cell? ⟨w.heap.size, 5, none⟩ = some (.int .i64 a5) := (A2 5 (by simp)).1
  have c6 : w2.cell? ⟨w.heap.size, 6, none⟩ = some (.int .i64 a6) := (A2 6 (by simp)).1
  clear hb2 A2 HA1 H1
  go_wp2_with fail
  refine (toItem_any _ _ _ _ _ _ _ _).mono ?_
  rintro e w3 ⟨rfl, hb3⟩
  have H3 : Hid (Below w.heap.size w w3) := (unhide H2).trans (hb3.mono (unhide H2).size)
  clear hb3 H2
  go_wp2_with fail
  refine (itemOk_any _ _ _ _ _ _ _ _).mono ?_
  rintro e w4 ⟨rfl, hb4⟩
  have H4 : Hid (Below w.heap.size w w4) := (unhide H3).trans (hb4.mono (unhide H3).size)
  clear hb4 H3
  go_wp2_with fail
  go_ret
  exact ⟨rfl, unhide H4⟩
set_option maxHeartbeats 1000000 in
theorem law_type (a0 a1 a2 a3 a4 a5 a6 : Int) (w : World) :
    Calls Try.prog 5 #[.agg #[.int .i64 a0, .int .i64 a1, .int .i64 a2, .int .i64 a3, .int .i64 a4, .int .i64 a5, .int .i64 a6]] w fun e w' => e = .returned (.bool true) ∧ Below w.heap.size w w' := by
  have hne : (typeB a0 a1 a2 a3 a4 a5 a6 != typeB a0 a1 a2 a3 a4 a5 a6) = false := by simp
  go_enter Try.func5, Try.ntmps5
  go_wp2_with fail
  refine (toType_any _ _ _ _ _ _ _ _).mono ?_
  rintro e w1 ⟨rfl, hb1⟩
  have H1 : Hid (Below w.heap.size w w1) := ((Below.refl w.heap.size w).alloc (Nat.le_refl _) _).trans (hb1.mono (by simp))
  have z1 : w.heap.size < w1.heap.size := by have := hb1.size; simp at this; omega
  have A1 := Blk.below hb1 (by simp) (Blk.allocAt [.int .i64 a0, .int .i64 a1, .int .i64 a2, .int .i64 a3, .int .i64 a4, .int .i64 a5, .int .i64 a6] rfl)
  have HA1 := hide A1
  clear hb1 A1
  go_wp2_with fail
  refine (specTypeOk_any _ _ _ _ _ _ _ _).mono ?_
  rintro e w2 ⟨rfl, hb2⟩
  have H2 : Hid (Below w.heap.size w w2) := (unhide H1).trans (hb2.mono (unhide H1).size)
  have A2 := Blk.below hb2 z1 (unhide HA1)
  have c0 : w2.cell? ⟨w.heap.size, 0, none⟩ = some (.int .i64 a0) := (A2 0 (by simp)).1
  have c1 : w2.cell? ⟨w.heap.size, 1, none⟩ = some (.int .i64 a1) := (A2 1 (by simp)).1
  have c2 : w2.cell? ⟨w.heap.size, 2, none⟩ = some (.int .i64 a2) := (A2 2 (by simp)).1
  have c3 : w2.cell? ⟨w.heap.size, 3, none⟩ = some (.int .i64 a3) := (A2 3 (by simp)).1
  have c4 : w2.cell? ⟨w.heap.size, 4, none⟩ = some (.int .i64 a4) := (A2 4 (by simp)).1
  have c5 : w2.cell? ⟨w.heap.size, 5, none⟩ = some (.int .i64 a5) := (A2 5 (by simp)).1
  have c6 : w2.cell? ⟨w.heap.size, 6, none⟩ = some (.int .i64 a6) := (A2 6 (by simp)).1
  clear hb2 A2 HA1 H1
  go_wp2_with fail
  refine (toType_any _ _ _ _ _ _ _ _).mono ?_
  rintro e w3 ⟨rfl, hb3⟩
  have H3 : Hid (Below w.heap.size w w3) := (unhide H2).trans (hb3.mono (unhide H2).size)
  clear hb3 H2
  go_wp2_with fail
  refine (typeOk_any _ _ _ _ _ _ _ _).mono ?_
  rintro e w4 ⟨rfl, hb4⟩
  have H4 : Hid (Below w.heap.size w w4) := (unhide H3).trans (hb4.mono (unhide H3).size)
  clear hb4 H3
  go_wp2_with fail
  go_ret
  exact ⟨rfl, unhide H4⟩
set_option maxHeartbeats 1000000 in
theorem law_pallet (a0 a1 a2 a3 : Int) (w : World) :
    Calls Try.prog 6 #[.agg #[.int .i64 a0, .int .i64 a1, .int .i64 a2, .int .i64 a3]] w fun e w' => e = .returned (.bool true) ∧ Below w.heap.size w w' := by
  have hne : (palletB a0 a1 a2 a3 != palletB a0 a1 a2 a3) = false := by simp
  go_enter Try.func6, Try.ntmps6
  go_wp2_with fail
  refine (toPallet_any _ _ _ _ _).mono ?_
  rintro e w1 ⟨rfl, hb1⟩
  have H1 : Hid (Below w.heap.size w w1) := ((Below.refl w.heap.size w).alloc (Nat.le_refl _) _).trans (hb1.mono (by simp))
  have z1 : w.heap.size < w1.heap.size := by have := hb1.size; simp at this; omega
  have A1 := Blk.below hb1 (by simp) (Blk.allocAt [.int .i64 a0, .int .i64 a1, .int .i64 a2, .int .i64 a3] rfl)
  have HA1 := hide A1
  clear hb1 A1
  go_wp2_with fail
  refine (specPalletOk_any _ _ _ _ _).mono ?_
  rintro e w2 ⟨rfl, hb2⟩
  have H2 : Hid (Below w.heap.size w w2) := (unhide H1).trans (hb2.mono (unhide H1).size)
  have A2 := Blk.below hb2 z1 (unhide HA1)
  have c0 : w2.cell? ⟨w.heap.size, 0, none⟩ = some (.int .i64 a0) := (A2 0 (by simp)).1
  have c1 : w2.cell? ⟨w.heap.size, 1, none⟩ = some (.int .i64 a1) := (A2 1 (by simp)).1
  have c2 : w2.cell? ⟨w.heap.size, 2, none⟩ = some (.int .i64 a2) := (A2 2 (by simp)).1
  have c3 : w2.cell? ⟨w.heap.size, 3, none⟩ = some (.int .i64 a3) := (A2 3 (by simp)).1
  clear hb2 A2 HA1 H1
  go_wp2_with fail
  refine (toPallet_any _ _ _ _ _).mono ?_
  rintro e w3 ⟨rfl, hb3⟩
  have H3 : Hid (Below w.heap.size w w3) := (unhide H2).trans (hb3.mono (unhide H2).size)
  clear hb3 H2
  go_wp2_with fail
  refine (palletOk_any _ _ _ _ _).mono ?_
  rintro e w4 ⟨rfl, hb4⟩
  have H4 : Hid (Below w.heap.size w w4) := (unhide H3).trans (hb4.mono (unhide H3).size)
  clear hb4 H3
  go_wp2_with fail
  go_ret
  exact ⟨rfl, unhide H4⟩
end Go.Proofs.Ytkojbamogndhcaa
