/- The laws' own copies, sizes and comparisons of slices of structs of numbers. -/
import Derived.Test.YtlakbnpinennnaaGreatDoorTo
namespace Go.Proofs.YtlakbnpinennnaaGreatDoor
open Go.RowKit
set_option linter.unusedVariables false

theorem Tryz.infoItem : (Tryz.prog.info? 43).map (fun i => (i.zero, i.size, i.bytes)) = some (some (.agg #[.int .i64 0, .int .i64 0, .int .i64 0, .int .i64 0, .int .i64 0, .int .i64 0, .int .i64 0]), 7, 56) := by kernel_rfl
set_option maxHeartbeats 1000000 in
theorem toItemS_any (a : Option Addr) (n c : Nat) (xs : List ItemV) (w : World) (hr : RdR ItemV.cells 7 w a n xs) (hn : n ≤ 1048576) :
    Calls Tryz.prog 59 #[.slice a n c] w fun e w' => ∃ g, e = .returned (.slice (some ⟨g, 0, none⟩) n n) ∧
      RdR ItemV.cells 7 w' (some ⟨g, 0, none⟩) n xs ∧ Below w.heap.size w w' ∧ w.heap.size ≤ g ∧ g < w'.heap.size := by
  obtain ⟨i0, hi, hz0, hz1, hz2⟩ := info_parts Tryz.infoItem
  have hbb : i0.bytes * n ≤ 281474976710656 := by rw [hz2]; omega
  go_enter Tryz.func59, Tryz.ntmps59
  go_wp2_with (first
    | (at_make; refine wpList_make_full _ rfl _ _ 28 rfl w.heap.size 43 i0 (.agg #[.int .i64 0, .int .i64 0, .int .i64 0, .int .i64 0, .int .i64 0, .int .i64 0, .int .i64 0]) 7 Tryz.underlying28 hi hz0 hz1 .i64 .i64 n n n rfl rfl rfl rfl hbb (by unfold maxLen; omega) (Nat.le_refl _) ?_; intro w1 hown hgrow)
    | go_in)
  have hb1 : Below w.heap.size w w1 := (Below.refl _ _).grown hgrow (Nat.le_refl _) (by simp)
  have hs1 : w.heap.size < w1.heap.size := (hown.lt _ rfl).2
  clear hgrow
  go_loopw [4] (fun i wr => ∃ (k : Nat) (L : List Value), k ≤ n ∧ i = .int .i64 k ∧ wr.ownsRow w.heap.size 43 7 (.slice (some ⟨w.heap.size, 0, none⟩) n n) n L ∧
      (∀ i, i < k → ∀ j, j < 7 → L[i * 7 + j]? = (ItemV.cells (xs.getD i default))[j]?) ∧ Below w.heap.size w wr) (fun i _ => n - (intOf i).toNat)
  case atStart => exact ⟨0, _, Nat.zero_le _, rfl, hown, fun i hi => absurd hi (Nat.not_lt_zero _), hb1⟩
  case round =>
    obtain ⟨k, L, hk, rfl, hownL, hL, hbel⟩ := hrel
    by_cases hlt : k < n
    · obtain ⟨b, off, rfl, hc⟩ := hr.2 k hlt
      have HL := hide (rows_step (cells := ItemV.cells) (xs := xs) ItemV.len hownL.1 hlt hL)
      generalize xs.getD k default = q at hc HL
      have d0 : wr.cell? ⟨b, off + k * 7, none⟩ = some (.int .i64 q.id) := (hbel.cell (World.block_lt_of_cell? w _ (hc 0 (by omega)))).trans (hc 0 (by omega))
      have d1 : wr.cell? ⟨b, off + k * 7 + 1, none⟩ = some (.int .i64 q.wd) := (hbel.cell (World.block_lt_of_cell? w _ (hc 1 (by omega)))).trans (hc 1 (by omega))
      have d2 : wr.cell? ⟨b, off + k * 7 + 2, none⟩ = some (.int .i64 q.ht) := (hbel.cell (World.block_lt_of_cell? w _ (hc 2 (by omega)))).trans (hc 2 (by omega))
      have d3 : wr.cell? ⟨b, off + k * 7 + 3, none⟩ = some (.int .i64 q.dp) := (hbel.cell (World.block_lt_of_cell? w _ (hc 3 (by omega)))).trans (hc 3 (by omega))
      have d4 : wr.cell? ⟨b, off + k * 7 + 4, none⟩ = some (.int .i64 q.gram) := (hbel.cell (World.block_lt_of_cell? w _ (hc 4 (by omega)))).trans (hc 4 (by omega))
      have d5 : wr.cell? ⟨b, off + k * 7 + 5, none⟩ = some (.int .i64 q.cls) := (hbel.cell (World.block_lt_of_cell? w _ (hc 5 (by omega)))).trans (hc 5 (by omega))
      have d6 : wr.cell? ⟨b, off + k * 7 + 6, none⟩ = some (.int .i64 q.cnt) := (hbel.cell (World.block_lt_of_cell? w _ (hc 6 (by omega)))).trans (hc 6 (by omega))
      have HO := hide hownL
      have HB := hide hbel
      clear hc hr hown hbel hownL hL hb1
      go_wp2_with fail
      refine (toItem_any _ _ _ _ _ _ _ _).mono ?_
      rintro e w2 ⟨rfl, hb2⟩
      have hown2 := own_later (unhide HO) hb2
      obtain ⟨u0, e0, t0⟩ := row_at (j := 0) hown2.1 hlt (by omega)
      have f0 : w2.cell? ⟨w.heap.size, k * 7, none⟩ = some u0 := (hown2.cellAt _ t0).trans e0
      have z0 : w2.frozen? ⟨w.heap.size, k * 7, none⟩ = false := hown2.frozenAt (k * 7)
      obtain ⟨u1, e1, t1⟩ := row_at (j := 1) hown2.1 hlt (by omega)
      have f1 : w2.cell? ⟨w.heap.size, k * 7 + 1, none⟩ = some u1 := (hown2.cellAt _ t1).trans e1
      have z1 : w2.frozen? ⟨w.heap.size, k * 7 + 1, none⟩ = false := hown2.frozenAt (k * 7 + 1)
      obtain ⟨u2, e2, t2⟩ := row_at (j := 2) hown2.1 hlt (by omega)
      have f2 : w2.cell? ⟨w.heap.size, k * 7 + 2, none⟩ = some u2 := (hown2.cellAt _ t2).trans e2
      have z2 : w2.frozen? ⟨w.heap.size, k * 7 + 2, none⟩ = false := hown2.frozenAt (k * 7 + 2)
      obtain ⟨u3, e3, t3⟩ := row_at (j := 3) hown2.1 hlt (by omega)
      have f3 : w2.cell? ⟨w.heap.size, k * 7 + 3, none⟩ = some u3 := (hown2.cellAt _ t3).trans e3
      have z3 : w2.frozen? ⟨w.heap.size, k * 7 + 3, none⟩ = false := hown2.frozenAt (k * 7 + 3)
      obtain ⟨u4, e4, t4⟩ := row_at (j := 4) hown2.1 hlt (by omega)
      have f4 : w2.cell? ⟨w.heap.size, k * 7 + 4, none⟩ = some u4 := (hown2.cellAt _ t4).trans e4
      have z4 : w2.frozen? ⟨w.heap.size, k * 7 + 4, none⟩ = false := hown2.frozenAt (k * 7 + 4)
      obtain ⟨u5, e5, t5⟩ := row_at (j := 5) hown2.1 hlt (by omega)
      have f5 : w2.cell? ⟨w.heap.size, k * 7 + 5, none⟩ = some u5 := (hown2.cellAt _ t5).trans e5
      have z5 : w2.frozen? ⟨w.heap.size, k * 7 + 5, none⟩ = false := hown2.frozenAt (k * 7 + 5)
      obtain ⟨u6, e6, t6⟩ := row_at (j := 6) hown2.1 hlt (by omega)
      have f6 : w2.cell? ⟨w.heap.size, k * 7 + 6, none⟩ = some u6 := (hown2.cellAt _ t6).trans e6
      have z6 : w2.frozen? ⟨w.heap.size, k * 7 + 6, none⟩ = false := hown2.frozenAt (k * 7 + 6)
      have HO2 := hide (own_write (ItemV.cells q) _ _ (k * 7) hown2)
      have HB2 := hide (below_write (Nat.le_refl _) (ItemV.cells q) _ _ (k * 7) ((unhide HB).trans (hb2.mono (unhide HB).size)))
      clear hown2 HO HB hb2 e0 t0 e1 t1 e2 t2 e3 t3 e4 t4 e5 t5 e6 t6
      go_wp2
      go_roundw
      case rel => exact ⟨k + 1, _, by omega, by go_num, unhide HO2, unhide HL, unhide HB2⟩
      case measure => simp [intOf]; omega
    · obtain rfl : k = n := by omega
      have HO := hide hownL
      have HL := hide hL
      have HB := hide hbel
      clear hown hb1 hownL hL hbel
      go_wp2
      go_ret
      exact ⟨_, rfl, RdR.of_owns (unhide HO) hr.1 (unhide HL), unhide HB, Nat.le_refl _, ((unhide HO).lt _ rfl).2⟩
theorem Tryz.infoType : (Tryz.prog.info? 69).map (fun i => (i.zero, i.size, i.bytes)) = some (some (.agg #[.int .i64 0, .int .i64 0, .int .i64 0, .int .i64 0, .int .i64 0, .int .i64 0, .int .i64 0]), 7, 56) := by kernel_rfl
set_option maxHeartbeats 1000000 in
theorem toTypeS_any (a : Option Addr) (n c : Nat) (xs : List TypeV) (w : World) (hr : RdR TypeV.cells 7 w a n xs) (hn : n ≤ 1048576) :
    Calls Tryz.prog 58 #[.slice a n c] w fun e w' => ∃ g, e = .returned (.slice (some ⟨g, 0, none⟩) n n) ∧
      RdR TypeV.cells 7 w' (some ⟨g, 0, none⟩) n xs ∧ Below w.heap.size w w' ∧ w.heap.size ≤ g ∧ g < w'.heap.size := by
  obtain ⟨i0, hi, hz0, hz1, hz2⟩ := info_parts Tryz.infoType
  have hbb : i0.bytes * n ≤ 281474976710656 := by rw [hz2]; omega
  go_enter Tryz.func58, Tryz.ntmps58
  go_wp2_with (first
    | (at_make; refine wpList_make_full _ rfl _ _ 27 rfl w.heap.size 69 i0 (.agg #[.int .i64 0, .int .i64 0, .int .i64 0, .int .i64 0, .int .i64 0, .int .i64 0, .int .i64 0]) 7 Tryz.underlying27 hi hz0 hz1 .i64 .i64 n n n rfl rfl rfl rfl hbb (by unfold maxLen; omega) (Nat.le_refl _) ?_; intro w1 hown hgrow)
    | go_in)
  have hb1 : Below w.heap.size w w1 := (Below.refl _ _).grown hgrow (Nat.le_refl _) (by simp)
  have hs1 : w.heap.size < w1.heap.size := (hown.lt _ rfl).2
  clear hgrow
  go_loopw [4] (fun i wr => ∃ (k : Nat) (L : List Value), k ≤ n ∧ i = .int .i64 k ∧ wr.ownsRow w.heap.size 69 7 (.slice (some ⟨w.heap.size, 0, none⟩) n n) n L ∧
      (∀ i, i < k → ∀ j, j < 7 → L[i * 7 + j]? = (TypeV.cells (xs.getD i default))[j]?) ∧ Below w.heap.size w wr) (fun i _ => n - (intOf i).toNat)
  case atStart => exact ⟨0, _, Nat.zero_le _, rfl, hown, fun i hi => absurd hi (Nat.not_lt_zero _), hb1⟩
  case round =>
    obtain ⟨k, L, hk, rfl, hownL, hL, hbel⟩ := hrel
    by_cases hlt : k < n
    · obtain ⟨b, off, rfl, hc⟩ := hr.2 k hlt
      have HL := hide (rows_step (cells := TypeV.cells) (xs := xs) TypeV.len hownL.1 hlt hL)
      generalize xs.getD k default = q at hc HL
      have d0 : wr.cell? ⟨b, off + k * 7, none⟩ = some (.int .i64 q.id) := (hbel.cell (World.block_lt_of_cell? w _ (hc 0 (by omega)))).trans (hc 0 (by omega))
      have d1 : wr.cell? ⟨b, off + k * 7 + 1, none⟩ = some (.int .i64 q.wd) := (hbel.cell (World.block_lt_of_cell? w _ (hc 1 (by omega)))).trans (hc 1 (by omega))
      have d2 : wr.cell? ⟨b, off + k * 7 + 2, none⟩ = some (.int .i64 q.ht) := (hbel.cell (World.block_lt_of_cell? w _ (hc 2 (by omega)))).trans (hc 2 (by omega))
      have d3 : wr.cell? ⟨b, off + k * 7 + 3, none⟩ = some (.int .i64 q.dp) := (hbel.cell (World.block_lt_of_cell? w _ (hc 3 (by omega)))).trans (hc 3 (by omega))
      have d4 : wr.cell? ⟨b, off + k * 7 + 4, none⟩ = some (.int .i64 q.tare) := (hbel.cell (World.block_lt_of_cell? w _ (hc 4 (by omega)))).trans (hc 4 (by omega))
      have d5 : wr.cell? ⟨b, off + k * 7 + 5, none⟩ = some (.int .i64 q.gram) := (hbel.cell (World.block_lt_of_cell? w _ (hc 5 (by omega)))).trans (hc 5 (by omega))
      have d6 : wr.cell? ⟨b, off + k * 7 + 6, none⟩ = some (.int .i64 q.cost) := (hbel.cell (World.block_lt_of_cell? w _ (hc 6 (by omega)))).trans (hc 6 (by omega))
      have HO := hide hownL
      have HB := hide hbel
      clear hc hr hown hbel hownL hL hb1
      go_wp2_with fail
      refine (toType_any _ _ _ _ _ _ _ _).mono ?_
      rintro e w2 ⟨rfl, hb2⟩
      have hown2 := own_later (unhide HO) hb2
      obtain ⟨u0, e0, t0⟩ := row_at (j := 0) hown2.1 hlt (by omega)
      have f0 : w2.cell? ⟨w.heap.size, k * 7, none⟩ = some u0 := (hown2.cellAt _ t0).trans e0
      have z0 : w2.frozen? ⟨w.heap.size, k * 7, none⟩ = false := hown2.frozenAt (k * 7)
      obtain ⟨u1, e1, t1⟩ := row_at (j := 1) hown2.1 hlt (by omega)
      have f1 : w2.cell? ⟨w.heap.size, k * 7 + 1, none⟩ = some u1 := (hown2.cellAt _ t1).trans e1
      have z1 : w2.frozen? ⟨w.heap.size, k * 7 + 1, none⟩ = false := hown2.frozenAt (k * 7 + 1)
      obtain ⟨u2, e2, t2⟩ := row_at (j := 2) hown2.1 hlt (by omega)
      have f2 : w2.cell? ⟨w.heap.size, k * 7 + 2, none⟩ = some u2 := (hown2.cellAt _ t2).trans e2
      have z2 : w2.frozen? ⟨w.heap.size, k * 7 + 2, none⟩ = false := hown2.frozenAt (k * 7 + 2)
      obtain ⟨u3, e3, t3⟩ := row_at (j := 3) hown2.1 hlt (by omega)
      have f3 : w2.cell? ⟨w.heap.size, k * 7 + 3, none⟩ = some u3 := (hown2.cellAt _ t3).trans e3
      have z3 : w2.frozen? ⟨w.heap.size, k * 7 + 3, none⟩ = false := hown2.frozenAt (k * 7 + 3)
      obtain ⟨u4, e4, t4⟩ := row_at (j := 4) hown2.1 hlt (by omega)
      have f4 : w2.cell? ⟨w.heap.size, k * 7 + 4, none⟩ = some u4 := (hown2.cellAt _ t4).trans e4
      have z4 : w2.frozen? ⟨w.heap.size, k * 7 + 4, none⟩ = false := hown2.frozenAt (k * 7 + 4)
      obtain ⟨u5, e5, t5⟩ := row_at (j := 5) hown2.1 hlt (by omega)
      have f5 : w2.cell? ⟨w.heap.size, k * 7 + 5, none⟩ = some u5 := (hown2.cellAt _ t5).trans e5
      have z5 : w2.frozen? ⟨w.heap.size, k * 7 + 5, none⟩ = false := hown2.frozenAt (k * 7 + 5)
      obtain ⟨u6, e6, t6⟩ := row_at (j := 6) hown2.1 hlt (by omega)
      have f6 : w2.cell? ⟨w.heap.size, k * 7 + 6, none⟩ = some u6 := (hown2.cellAt _ t6).trans e6
      have z6 : w2.frozen? ⟨w.heap.size, k * 7 + 6, none⟩ = false := hown2.frozenAt (k * 7 + 6)
      have HO2 := hide (own_write (TypeV.cells q) _ _ (k * 7) hown2)
      have HB2 := hide (below_write (Nat.le_refl _) (TypeV.cells q) _ _ (k * 7) ((unhide HB).trans (hb2.mono (unhide HB).size)))
      clear hown2 HO HB hb2 e0 t0 e1 t1 e2 t2 e3 t3 e4 t4 e5 t5 e6 t6
      go_wp2
      go_roundw
      case rel => exact ⟨k + 1, _, by omega, by go_num, unhide HO2, unhide HL, unhide HB2⟩
      case measure => simp [intOf]; omega
    · obtain rfl : k = n := by omega
      have HO := hide hownL
      have HL := hide hL
      have HB := hide hbel
      clear hown hb1 hownL hL hbel
      go_wp2
      go_ret
      exact ⟨_, rfl, RdR.of_owns (unhide HO) hr.1 (unhide HL), unhide HB, Nat.le_refl _, ((unhide HO).lt _ rfl).2⟩
theorem Tryz.infoPair : (Tryz.prog.info? 98).map (fun i => (i.zero, i.size, i.bytes)) = some (some (.agg #[.int .i64 0, .int .i64 0]), 2, 16) := by kernel_rfl
set_option maxHeartbeats 1000000 in
theorem toPairS_any (a : Option Addr) (n c : Nat) (xs : List PairV) (w : World) (hr : RdR PairV.cells 2 w a n xs) (hn : n ≤ 1048576) :
    Calls Tryz.prog 57 #[.slice a n c] w fun e w' => ∃ g, e = .returned (.slice (some ⟨g, 0, none⟩) n n) ∧
      RdR PairV.cells 2 w' (some ⟨g, 0, none⟩) n xs ∧ Below w.heap.size w w' ∧ w.heap.size ≤ g ∧ g < w'.heap.size := by
  obtain ⟨i0, hi, hz0, hz1, hz2⟩ := info_parts Tryz.infoPair
  have hbb : i0.bytes * n ≤ 281474976710656 := by rw [hz2]; omega
  go_enter Tryz.func57, Tryz.ntmps57
  go_wp2_with (first
    | (at_make; refine wpList_make_full _ rfl _ _ 26 rfl w.heap.size 98 i0 (.agg #[.int .i64 0, .int .i64 0]) 2 Tryz.underlying26 hi hz0 hz1 .i64 .i64 n n n rfl rfl rfl rfl hbb (by unfold maxLen; omega) (Nat.le_refl _) ?_; intro w1 hown hgrow)
    | go_in)
  have hb1 : Below w.heap.size w w1 := (Below.refl _ _).grown hgrow (Nat.le_refl _) (by simp)
  have hs1 : w.heap.size < w1.heap.size := (hown.lt _ rfl).2
  clear hgrow
  go_loopw [4] (fun i wr => ∃ (k : Nat) (L : List Value), k ≤ n ∧ i = .int .i64 k ∧ wr.ownsRow w.heap.size 98 2 (.slice (some ⟨w.heap.size, 0, none⟩) n n) n L ∧
      (∀ i, i < k → ∀ j, j < 2 → L[i * 2 + j]? = (PairV.cells (xs.getD i default))[j]?) ∧ Below w.heap.size w wr) (fun i _ => n - (intOf i).toNat)
  case atStart => exact ⟨0, _, Nat.zero_le _, rfl, hown, fun i hi => absurd hi (Nat.not_lt_zero _), hb1⟩
  case round =>
    obtain ⟨k, L, hk, rfl, hownL, hL, hbel⟩ := hrel
    by_cases hlt : k < n
    · obtain ⟨b, off, rfl, hc⟩ := hr.2 k hlt
      have HL := hide (rows_step (cells := PairV.cells) (xs := xs) PairV.len hownL.1 hlt hL)
      generalize xs.getD k default = q at hc HL
      have d0 : wr.cell? ⟨b, off + k * 2, none⟩ = some (.int .i64 q.a) := (hbel.cell (World.block_lt_of_cell? w _ (hc 0 (by omega)))).trans (hc 0 (by omega))
      have d1 : wr.cell? ⟨b, off + k * 2 + 1, none⟩ = some (.int .i64 q.b) := (hbel.cell (World.block_lt_of_cell? w _ (hc 1 (by omega)))).trans (hc 1 (by omega))
      have HO := hide hownL
      have HB := hide hbel
      clear hc hr hown hbel hownL hL hb1
      go_wp2_with fail
      refine (toPair_any _ _ _).mono ?_
      rintro e w2 ⟨rfl, hb2⟩
      have hown2 := own_later (unhide HO) hb2
      obtain ⟨u0, e0, t0⟩ := row_at (j := 0) hown2.1 hlt (by omega)
      have f0 : w2.cell? ⟨w.heap.size, k * 2, none⟩ = some u0 := (hown2.cellAt _ t0).trans e0
      have z0 : w2.frozen? ⟨w.heap.size, k * 2, none⟩ = false := hown2.frozenAt (k * 2)
      obtain ⟨u1, e1, t1⟩ := row_at (j := 1) hown2.1 hlt (by omega)
      have f1 : w2.cell? ⟨w.heap.size, k * 2 + 1, none⟩ = some u1 := (hown2.cellAt _ t1).trans e1
      have z1 : w2.frozen? ⟨w.heap.size, k * 2 + 1, none⟩ = false := hown2.frozenAt (k * 2 + 1)
      have HO2 := hide (own_write (PairV.cells q) _ _ (k * 2) hown2)
      have HB2 := hide (below_write (Nat.le_refl _) (PairV.cells q) _ _ (k * 2) ((unhide HB).trans (hb2.mono (unhide HB).size)))
      clear hown2 HO HB hb2 e0 t0 e1 t1
      go_wp2
      go_roundw
      case rel => exact ⟨k + 1, _, by omega, by go_num, unhide HO2, unhide HL, unhide HB2⟩
      case measure => simp [intOf]; omega
    · obtain rfl : k = n := by omega
      have HO := hide hownL
      have HL := hide hL
      have HB := hide hbel
      clear hown hb1 hownL hL hbel
      go_wp2
      go_ret
      exact ⟨_, rfl, RdR.of_owns (unhide HO) hr.1 (unhide HL), unhide HB, Nat.le_refl _, ((unhide HO).lt _ rfl).2⟩
end Go.Proofs.YtlakbnpinennnaaGreatDoor
