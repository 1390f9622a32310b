/- The laws' own copies, sizes and comparisons of slices of structs of numbers. -/
import Derived.Test.YtcblpoeeembniaaTo
namespace Go.Proofs.Ytcblpoeeembniaa
open Go.RowKit
set_option linter.unusedVariables false

theorem Try.infoBox : (Try.prog.info? 52).map (fun i => (i.zero, i.size, i.bytes)) = some (some (.agg #[.int .i64 0, .int .i64 0, .int .i64 0, .int .i64 0]), 4, 32) := by kernel_rfl
set_option maxHeartbeats 1000000 in
theorem toBoxS_any (a : Option Addr) (n c : Nat) (xs : List BoxV) (w : World) (hr : RdR BoxV.cells 4 w a n xs) (hn : n ≤ 1048576) :
 Calls Try.prog 12 #[.slice a n c] w fun e w' => ∃ g, e = .returned (.slice (some ⟨g, 0, none⟩) n n) ∧
  RdR BoxV.cells 4 w' (some ⟨g, 0, none⟩) n xs ∧ Below w.heap.size w w' ∧ w.heap.size ≤ g ∧ g < w'.heap.size := by
 obtain ⟨i0, hi, hz0, hz1, hz2⟩ := info_parts Try.infoBox
 have hbb : i0.bytes * n ≤ 281474976710656 := by rw [hz2]; omega
 go_enter Try.func12, Try.ntmps12
 go_wp2_with (first
  | (at_make; refine wpList_make_full _ rfl _ _ 29 rfl w.heap.size 52 i0 (.agg #[.int .i64 0, .int .i64 0, .int .i64 0, .int .i64 0]) 4 Try.underlying29 hi hz0 hz1 .i64 .i64 n n n rfl rfl rfl rfl hbb (by unfold maxLen; omega) (Nat.le_refl _) ?_; intro w1 hown hgrow)
  | go_in)
 have hb1 : Below w.heap.size w w1 := (Below.refl _ _).grown hgrow (Nat.le_refl _) (by simp)
 have hs1 : w.heap.size < w1.heap.size := (hown.lt _ rfl).2
 clear hgrow
 go_loopw [4] (fun i wr => ∃ (k : Nat) (L : List Value), k ≤ n ∧ i = .int .i64 k ∧ wr.ownsRow w.heap.size 52 4 (.slice (some ⟨w.heap.size, 0, none⟩) n n) n L ∧
  (∀ i, i < k → ∀ j, j < 4 → L[i * 4 + j]? = (BoxV.cells (xs.getD i default))[j]?) ∧ Below w.heap.size w wr) (fun i _ => n - (intOf i).toNat)
 case atStart => exact ⟨0, _, Nat.zero_le _, rfl, hown, fun i hi => absurd hi (Nat.not_lt_zero _), hb1⟩
 case round =>
  obtain ⟨k, L, hk, rfl, hownL, hL, hbel⟩ := hrel
  by_cases hlt : k < n
  · obtain ⟨b, off, rfl, hc⟩ := hr.2 k hlt
    have HL := hide (rows_step (cells := BoxV.cells) (xs := xs) BoxV.len hownL.1 hlt hL)
    generalize xs.getD k default = q at hc HL
    have d0 : wr.cell? ⟨b, off + k * 4, none⟩ = some (.int .i64 q.wd) := (hbel.cell (World.block_lt_of_cell? w _ (hc 0 (by omega)))).trans (hc 0 (by omega))
    have d1 : wr.cell? ⟨b, off + k * 4 + 1, none⟩ = some (.int .i64 q.dp) := (hbel.cell (World.block_lt_of_cell? w _ (hc 1 (by omega)))).trans (hc 1 (by omega))
    have d2 : wr.cell? ⟨b, off + k * 4 + 2, none⟩ = some (.int .i64 q.ht) := (hbel.cell (World.block_lt_of_cell? w _ (hc 2 (by omega)))).trans (hc 2 (by omega))
    have d3 : wr.cell? ⟨b, off + k * 4 + 3, none⟩ = some (.int .i64 q.gram) := (hbel.cell (World.block_lt_of_cell? w _ (hc 3 (by omega)))).trans (hc 3 (by omega))
    have HO := hide hownL
    have HB := hide hbel
    clear hc hr hown hbel hownL hL hb1
    go_wp2_with fail
    refine (toBox_any _ _ _ _ _).mono ?_
    rintro e w2 ⟨rfl, hb2⟩
    have hown2 := own_later HO.out hb2
    obtain ⟨u0, e0, t0⟩ := row_at (j := 0) hown2.1 hlt (by omega)
    have f0 : w2.cell? ⟨w.heap.size, k * 4, none⟩ = some u0 := (hown2.cellAt _ t0).trans e0
    have z0 : w2.frozen? ⟨w.heap.size, k * 4, none⟩ = false := hown2.frozenAt (k * 4)
    obtain ⟨u1, e1, t1⟩ := row_at (j := 1) hown2.1 hlt (by omega)
    have f1 : w2.cell? ⟨w.heap.size, k * 4 + 1, none⟩ = some u1 := (hown2.cellAt _ t1).trans e1
    have z1 : w2.frozen? ⟨w.heap.size, k * 4 + 1, none⟩ = false := hown2.frozenAt (k * 4 + 1)
    obtain ⟨u2, e2, t2⟩ := row_at (j := 2) hown2.1 hlt (by omega)
    have f2 : w2.cell? ⟨w.heap.size, k * 4 + 2, none⟩ = some u2 := (hown2.cellAt _ t2).trans e2
    have z2 : w2.frozen? ⟨w.heap.size, k * 4 + 2, none⟩ = false := hown2.frozenAt (k * 4 + 2)
    obtain ⟨u3, e3, t3⟩ := row_at (j := 3) hown2.1 hlt (by omega)
    have f3 : w2.cell? ⟨w.heap.size, k * 4 + 3, none⟩ = some u3 := (hown2.cellAt _ t3).trans e3
    have z3 : w2.frozen? ⟨w.heap.size, k * 4 + 3, none⟩ = false := hown2.frozenAt (k * 4 + 3)
    have HO2 := hide (own_write (BoxV.cells q) _ _ (k * 4) hown2)
    have HB2 := hide (below_write (Nat.le_refl _) (BoxV.cells q) _ _ (k * 4) (HB.out.trans (hb2.mono HB.out.size)))
    clear hown2 HO HB hb2 e0 t0 e1 t1 e2 t2 e3 t3
    go_wp2
    go_roundw
    case rel => exact ⟨k + 1, _, by omega, by go_num, unhide HO2, unhide HL, unhide HB2⟩
    case measure => simp [intOf]; omega
  · obtain rfl : k = n := by omega
    have HO := hide hownL
    have HL := hide hL
    have HB := hide hbel
    clear hown hb1 hownL hL hbel
    go_wp2
    go_ret
    exact ⟨_, rfl, RdR.of_owns HO.out hr.1 HL.out, unhide HB, Nat.le_refl _, (HO.out.lt _ rfl).2⟩
end Go.Proofs.Ytcblpoeeembniaa
