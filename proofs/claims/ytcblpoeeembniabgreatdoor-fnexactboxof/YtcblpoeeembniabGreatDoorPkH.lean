/- ToOwn, MarkReq, Open: one text. -/
import Derived.Test.YtcblpoeeembniabGreatDoorPkA
import Derived.Deep.Onto
import Derived.OpenShut
import Derived.ChangeOld
import Derived.Deep.Slices
/- The laws' own copy of an order: its lists are owned, each in a block of its own. -/
namespace Go.Proofs.YtcblpoeeembniabGreatDoor
open Go.RowKit
set_option linter.unusedVariables false

theorem own_other {w : World} {B e k g n cap : Nat} {L : List Value} (h : w.ownsRow B e k (.slice (some ⟨g, 0, none⟩) n cap) n L) {g' j : Nat} {v : Value} (hne : g ≠ g') : (w.setCell ⟨g', j, none⟩ v).ownsRow B e k (.slice (some ⟨g, 0, none⟩) n cap) n L :=
 h.kept (gb_set (World.grownBy.refl _ _) j v) (Or.inr (by intro e; simp [Value.ownBlock] at e; exact hne e))
/-- An order whose lists are owned, in three blocks from B on. -/
def OwnReq (w : World) (B : Nat) (r : ReqV) (h : ReqH) (gp gt gi : Nat) : Prop :=
 h = ⟨some ⟨gp, 0, none⟩, some ⟨gt, 0, none⟩, some ⟨gi, 0, none⟩, r.pairs.length, r.types.length, r.items.length⟩ ∧ B ≤ gp ∧ gp < gt ∧ gt < gi ∧ gi < w.heap.size ∧
 (∃ L, w.ownsRow 0 92 2 (.slice (some ⟨gp, 0, none⟩) r.pairs.length r.pairs.length) r.pairs.length L) ∧
 (∃ L, w.ownsRow 0 54 7 (.slice (some ⟨gt, 0, none⟩) r.types.length r.types.length) r.types.length L) ∧
 (∃ L, w.ownsRow 0 89 7 (.slice (some ⟨gi, 0, none⟩) r.items.length r.items.length) r.items.length L)
theorem OwnReq.later {w w' : World} {B : Nat} {r : ReqV} {h : ReqH} {gp gt gi : Nat} (o : OwnReq w B r h gp gt gi) (hb : Below w.heap.size w w') : OwnReq w' B r h gp gt gi := by
 obtain ⟨e, h1, h2, h3, h4, ⟨L1, o1⟩, ⟨L2, o2⟩, ⟨L3, o3⟩⟩ := o
 exact ⟨e, h1, h2, h3, Nat.lt_of_lt_of_le h4 hb.size, ⟨L1, own_later o1 hb⟩, ⟨L2, own_later o2 hb⟩, ⟨L3, own_later o3 hb⟩⟩

set_option maxHeartbeats 1000000 in
theorem toPairS_owned (a : Option Addr) (n c : Nat) (xs : List PairV) (w : World) (hr : RdR PairV.cells 2 w a n xs) (hn : n ≤ 1048576) :
 Calls Tryz.prog 28 #[.slice a n c] w fun e w' => ∃ g, e = .returned (.slice (some ⟨g, 0, none⟩) n n) ∧
  RdR PairV.cells 2 w' (some ⟨g, 0, none⟩) n xs ∧ Below w.heap.size w w' ∧ w.heap.size ≤ g ∧ g < w'.heap.size ∧ ∃ L, w'.ownsRow 0 92 2 (.slice (some ⟨g, 0, none⟩) n n) n L := by
 obtain ⟨i0, hi, hz0, hz1, hz2⟩ := info_parts Tryz.infoPair
 have hbb : i0.bytes * n ≤ 281474976710656 := by rw [hz2]; omega
 go_enter Tryz.func28, Tryz.ntmps28
 go_wp2_with (first
  | (at_make; refine wpList_make_full _ rfl _ _ 37 rfl w.heap.size 92 i0 (.agg #[.int .i64 0, .int .i64 0]) 2 Tryz.underlying37 hi hz0 hz1 .i64 .i64 n n n rfl rfl rfl rfl hbb (by unfold maxLen; omega) (Nat.le_refl _) ?_; intro w1 hown hgrow)
  | go_in)
 have hb1 : Below w.heap.size w w1 := (Below.refl _ _).grown hgrow (Nat.le_refl _) (by simp)
 have hs1 : w.heap.size < w1.heap.size := (hown.lt _ rfl).2
 clear hgrow
 go_loopw [4] (fun i wr => ∃ (k : Nat) (L : List Value), k ≤ n ∧ i = .int .i64 k ∧ wr.ownsRow w.heap.size 92 2 (.slice (some ⟨w.heap.size, 0, none⟩) n n) n L ∧
  (∀ i, i < k → ∀ j, j < 2 → L[i * 2 + j]? = (PairV.cells (xs.getD i default))[j]?) ∧ Below w.heap.size w wr) (fun i _ => n - (intOf i).toNat)
 case atStart => exact ⟨0, _, Nat.zero_le _, rfl, hown, fun i hi => absurd hi (Nat.not_lt_zero _), hb1⟩
 case round =>
  obtain ⟨k, L, hk, rfl, hownL, hL, hbel⟩ := hrel
  by_cases hlt : k < n
  · obtain ⟨b, off, rfl, hc⟩ := hr.2 k hlt
    have HL := hide (rows_step (cells := PairV.cells) (xs := xs) PairV.len hownL.1 hlt hL)
    generalize xs.getD k default = q at hc HL
    have d0 : wr.cell? ⟨b, off + k * 2, none⟩ = some (.int .i64 q.a) := (hbel.cell (World.block_lt_of_cell? w _ (hc 0 (by omega)))).trans (hc 0 (by omega))
    have d1 : wr.cell? ⟨b, off + k * 2 + 1, none⟩ = some (.int .i64 q.b) := (hbel.cell (World.block_lt_of_cell? w _ (hc 1 (by omega)))).trans (hc 1 (by omega))
    have HO := hide hownL
    have HB := hide hbel
    clear hc hr hown hbel hownL hL hb1
    go_wp2_with fail
    refine (toPair_any _ _ _).mono ?_
    rintro e w2 ⟨rfl, hb2⟩
    have hown2 := own_later HO.out hb2
    obtain ⟨u0, e0, t0⟩ := row_at (j := 0) hown2.1 hlt (by omega)
    have f0 : w2.cell? ⟨w.heap.size, k * 2, none⟩ = some u0 := (hown2.cellAt _ t0).trans e0
    have z0 : w2.frozen? ⟨w.heap.size, k * 2, none⟩ = false := hown2.frozenAt (k * 2)
    obtain ⟨u1, e1, t1⟩ := row_at (j := 1) hown2.1 hlt (by omega)
    have f1 : w2.cell? ⟨w.heap.size, k * 2 + 1, none⟩ = some u1 := (hown2.cellAt _ t1).trans e1
    have z1 : w2.frozen? ⟨w.heap.size, k * 2 + 1, none⟩ = false := hown2.frozenAt (k * 2 + 1)
    have HO2 := hide (own_write (PairV.cells q) _ _ (k * 2) hown2)
    have HB2 := hide (below_write (Nat.le_refl _) (PairV.cells q) _ _ (k * 2) (HB.out.trans (hb2.mono HB.out.size)))
    clear hown2 HO HB hb2 e0 t0 e1 t1
    go_wp2
    go_roundw
    case rel => exact ⟨k + 1, _, by omega, by go_num, unhide HO2, unhide HL, unhide HB2⟩
    case measure => simp [intOf]; omega
  · obtain rfl : k = n := by omega
    have HO := hide hownL
    have HL := hide hL
    have HB := hide hbel
    clear hown hb1 hownL hL hbel
    go_wp2
    go_ret
    exact ⟨_, rfl, RdR.of_owns HO.out hr.1 HL.out, unhide HB, Nat.le_refl _, (HO.out.lt _ rfl).2, _, World.ownsRow.mono HO.out (Nat.zero_le _)⟩

set_option maxHeartbeats 1000000 in
theorem toTypeS_owned (a : Option Addr) (n c : Nat) (xs : List TypeV) (w : World) (hr : RdR TypeV.cells 7 w a n xs) (hn : n ≤ 1048576) :
 Calls Tryz.prog 29 #[.slice a n c] w fun e w' => ∃ g, e = .returned (.slice (some ⟨g, 0, none⟩) n n) ∧
  RdR TypeV.cells 7 w' (some ⟨g, 0, none⟩) n xs ∧ Below w.heap.size w w' ∧ w.heap.size ≤ g ∧ g < w'.heap.size ∧ ∃ L, w'.ownsRow 0 54 7 (.slice (some ⟨g, 0, none⟩) n n) n L := by
 obtain ⟨i0, hi, hz0, hz1, hz2⟩ := info_parts Tryz.infoType
 have hbb : i0.bytes * n ≤ 281474976710656 := by rw [hz2]; omega
 go_enter Tryz.func29, Tryz.ntmps29
 go_wp2_with (first
  | (at_make; refine wpList_make_full _ rfl _ _ 38 rfl w.heap.size 54 i0 (.agg #[.int .i64 0, .int .i64 0, .int .i64 0, .int .i64 0, .int .i64 0, .int .i64 0, .int .i64 0]) 7 Tryz.underlying38 hi hz0 hz1 .i64 .i64 n n n rfl rfl rfl rfl hbb (by unfold maxLen; omega) (Nat.le_refl _) ?_; intro w1 hown hgrow)
  | go_in)
 have hb1 : Below w.heap.size w w1 := (Below.refl _ _).grown hgrow (Nat.le_refl _) (by simp)
 have hs1 : w.heap.size < w1.heap.size := (hown.lt _ rfl).2
 clear hgrow
 go_loopw [4] (fun i wr => ∃ (k : Nat) (L : List Value), k ≤ n ∧ i = .int .i64 k ∧ wr.ownsRow w.heap.size 54 7 (.slice (some ⟨w.heap.size, 0, none⟩) n n) n L ∧
  (∀ i, i < k → ∀ j, j < 7 → L[i * 7 + j]? = (TypeV.cells (xs.getD i default))[j]?) ∧ Below w.heap.size w wr) (fun i _ => n - (intOf i).toNat)
 case atStart => exact ⟨0, _, Nat.zero_le _, rfl, hown, fun i hi => absurd hi (Nat.not_lt_zero _), hb1⟩
 case round =>
  obtain ⟨k, L, hk, rfl, hownL, hL, hbel⟩ := hrel
  by_cases hlt : k < n
  · obtain ⟨b, off, rfl, hc⟩ := hr.2 k hlt
    have HL := hide (rows_step (cells := TypeV.cells) (xs := xs) TypeV.len hownL.1 hlt hL)
    generalize xs.getD k default = q at hc HL
    have d0 : wr.cell? ⟨b, off + k * 7, none⟩ = some (.int .i64 q.id) := (hbel.cell (World.block_lt_of_cell? w _ (hc 0 (by omega)))).trans (hc 0 (by omega))
    have d1 : wr.cell? ⟨b, off + k * 7 + 1, none⟩ = some (.int .i64 q.wd) := (hbel.cell (World.block_lt_of_cell? w _ (hc 1 (by omega)))).trans (hc 1 (by omega))
    have d2 : wr.cell? ⟨b, off + k * 7 + 2, none⟩ = some (.int .i64 q.ht) := (hbel.cell (World.block_lt_of_cell? w _ (hc 2 (by omega)))).trans (hc 2 (by omega))
    have d3 : wr.cell? ⟨b, off + k * 7 + 3, none⟩ = some (.int .i64 q.dp) := (hbel.cell (World.block_lt_of_cell? w _ (hc 3 (by omega)))).trans (hc 3 (by omega))
    have d4 : wr.cell? ⟨b, off + k * 7 + 4, none⟩ = some (.int .i64 q.tare) := (hbel.cell (World.block_lt_of_cell? w _ (hc 4 (by omega)))).trans (hc 4 (by omega))
    have d5 : wr.cell? ⟨b, off + k * 7 + 5, none⟩ = some (.int .i64 q.gram) := (hbel.cell (World.block_lt_of_cell? w _ (hc 5 (by omega)))).trans (hc 5 (by omega))
    have d6 : wr.cell? ⟨b, off + k * 7 + 6, none⟩ = some (.int .i64 q.cost) := (hbel.cell (World.block_lt_of_cell? w _ (hc 6 (by omega)))).trans (hc 6 (by omega))
    have HO := hide hownL
    have HB := hide hbel
    clear hc hr hown hbel hownL hL hb1
    go_wp2_with fail
    refine (toType_any _ _ _ _ _ _ _ _).mono ?_
    rintro e w2 ⟨rfl, hb2⟩
    have hown2 := own_later HO.out hb2
    obtain ⟨u0, e0, t0⟩ := row_at (j := 0) hown2.1 hlt (by omega)
    have f0 : w2.cell? ⟨w.heap.size, k * 7, none⟩ = some u0 := (hown2.cellAt _ t0).trans e0
    have z0 : w2.frozen? ⟨w.heap.size, k * 7, none⟩ = false := hown2.frozenAt (k * 7)
    obtain ⟨u1, e1, t1⟩ := row_at (j := 1) hown2.1 hlt (by omega)
    have f1 : w2.cell? ⟨w.heap.size, k * 7 + 1, none⟩ = some u1 := (hown2.cellAt _ t1).trans e1
    have z1 : w2.frozen? ⟨w.heap.size, k * 7 + 1, none⟩ = false := hown2.frozenAt (k * 7 + 1)
    obtain ⟨u2, e2, t2⟩ := row_at (j := 2) hown2.1 hlt (by omega)
    have f2 : w2.cell? ⟨w.heap.size, k * 7 + 2, none⟩ = some u2 := (hown2.cellAt _ t2).trans e2
    have z2 : w2.frozen? ⟨w.heap.size, k * 7 + 2, none⟩ = false := hown2.frozenAt (k * 7 + 2)
    obtain ⟨u3, e3, t3⟩ := row_at (j := 3) hown2.1 hlt (by omega)
    have f3 : w2.cell? ⟨w.heap.size, k * 7 + 3, none⟩ = some u3 := (hown2.cellAt _ t3).trans e3
    have z3 : w2.frozen? ⟨w.heap.size, k * 7 + 3, none⟩ = false := hown2.frozenAt (k * 7 + 3)
    obtain ⟨u4, e4, t4⟩ := row_at (j := 4) hown2.1 hlt (by omega)
    have f4 : w2.cell? ⟨w.heap.size, k * 7 + 4, none⟩ = some u4 := (hown2.cellAt _ t4).trans e4
    have z4 : w2.frozen? ⟨w.heap.size, k * 7 + 4, none⟩ = false := hown2.frozenAt (k * 7 + 4)
    obtain ⟨u5, e5, t5⟩ := row_at (j := 5) hown2.1 hlt (by omega)
    have f5 : w2.cell? ⟨w.heap.size, k * 7 + 5, none⟩ = some u5 := (hown2.cellAt _ t5).trans e5
    have z5 : w2.frozen? ⟨w.heap.size, k * 7 + 5, none⟩ = false := hown2.frozenAt (k * 7 + 5)
    obtain ⟨u6, e6, t6⟩ := row_at (j := 6) hown2.1 hlt (by omega)
    have f6 : w2.cell? ⟨w.heap.size, k * 7 + 6, none⟩ = some u6 := (hown2.cellAt _ t6).trans e6
    have z6 : w2.frozen? ⟨w.heap.size, k * 7 + 6, none⟩ = false := hown2.frozenAt (k * 7 + 6)
    have HO2 := hide (own_write (TypeV.cells q) _ _ (k * 7) hown2)
    have HB2 := hide (below_write (Nat.le_refl _) (TypeV.cells q) _ _ (k * 7) (HB.out.trans (hb2.mono HB.out.size)))
    clear hown2 HO HB hb2 e0 t0 e1 t1 e2 t2 e3 t3 e4 t4 e5 t5 e6 t6
    go_wp2
    go_roundw
    case rel => exact ⟨k + 1, _, by omega, by go_num, unhide HO2, unhide HL, unhide HB2⟩
    case measure => simp [intOf]; omega
  · obtain rfl : k = n := by omega
    have HO := hide hownL
    have HL := hide hL
    have HB := hide hbel
    clear hown hb1 hownL hL hbel
    go_wp2
    go_ret
    exact ⟨_, rfl, RdR.of_owns HO.out hr.1 HL.out, unhide HB, Nat.le_refl _, (HO.out.lt _ rfl).2, _, World.ownsRow.mono HO.out (Nat.zero_le _)⟩

set_option maxHeartbeats 1000000 in
theorem toItemS_owned (a : Option Addr) (n c : Nat) (xs : List ItemV) (w : World) (hr : RdR ItemV.cells 7 w a n xs) (hn : n ≤ 1048576) :
 Calls Tryz.prog 30 #[.slice a n c] w fun e w' => ∃ g, e = .returned (.slice (some ⟨g, 0, none⟩) n n) ∧
  RdR ItemV.cells 7 w' (some ⟨g, 0, none⟩) n xs ∧ Below w.heap.size w w' ∧ w.heap.size ≤ g ∧ g < w'.heap.size ∧ ∃ L, w'.ownsRow 0 89 7 (.slice (some ⟨g, 0, none⟩) n n) n L := by
 obtain ⟨i0, hi, hz0, hz1, hz2⟩ := info_parts Tryz.infoItem
 have hbb : i0.bytes * n ≤ 281474976710656 := by rw [hz2]; omega
 go_enter Tryz.func30, Tryz.ntmps30
 go_wp2_with (first
  | (at_make; refine wpList_make_full _ rfl _ _ 39 rfl w.heap.size 89 i0 (.agg #[.int .i64 0, .int .i64 0, .int .i64 0, .int .i64 0, .int .i64 0, .int .i64 0, .int .i64 0]) 7 Tryz.underlying39 hi hz0 hz1 .i64 .i64 n n n rfl rfl rfl rfl hbb (by unfold maxLen; omega) (Nat.le_refl _) ?_; intro w1 hown hgrow)
  | go_in)
 have hb1 : Below w.heap.size w w1 := (Below.refl _ _).grown hgrow (Nat.le_refl _) (by simp)
 have hs1 : w.heap.size < w1.heap.size := (hown.lt _ rfl).2
 clear hgrow
 go_loopw [4] (fun i wr => ∃ (k : Nat) (L : List Value), k ≤ n ∧ i = .int .i64 k ∧ wr.ownsRow w.heap.size 89 7 (.slice (some ⟨w.heap.size, 0, none⟩) n n) n L ∧
  (∀ i, i < k → ∀ j, j < 7 → L[i * 7 + j]? = (ItemV.cells (xs.getD i default))[j]?) ∧ Below w.heap.size w wr) (fun i _ => n - (intOf i).toNat)
 case atStart => exact ⟨0, _, Nat.zero_le _, rfl, hown, fun i hi => absurd hi (Nat.not_lt_zero _), hb1⟩
 case round =>
  obtain ⟨k, L, hk, rfl, hownL, hL, hbel⟩ := hrel
  by_cases hlt : k < n
  · obtain ⟨b, off, rfl, hc⟩ := hr.2 k hlt
    have HL := hide (rows_step (cells := ItemV.cells) (xs := xs) ItemV.len hownL.1 hlt hL)
    generalize xs.getD k default = q at hc HL
    have d0 : wr.cell? ⟨b, off + k * 7, none⟩ = some (.int .i64 q.id) := (hbel.cell (World.block_lt_of_cell? w _ (hc 0 (by omega)))).trans (hc 0 (by omega))
    have d1 : wr.cell? ⟨b, off + k * 7 + 1, none⟩ = some (.int .i64 q.wd) := (hbel.cell (World.block_lt_of_cell? w _ (hc 1 (by omega)))).trans (hc 1 (by omega))
    have d2 : wr.cell? ⟨b, off + k * 7 + 2, none⟩ = some (.int .i64 q.ht) := (hbel.cell (World.block_lt_of_cell? w _ (hc 2 (by omega)))).trans (hc 2 (by omega))
    have d3 : wr.cell? ⟨b, off + k * 7 + 3, none⟩ = some (.int .i64 q.dp) := (hbel.cell (World.block_lt_of_cell? w _ (hc 3 (by omega)))).trans (hc 3 (by omega))
    have d4 : wr.cell? ⟨b, off + k * 7 + 4, none⟩ = some (.int .i64 q.gram) := (hbel.cell (World.block_lt_of_cell? w _ (hc 4 (by omega)))).trans (hc 4 (by omega))
    have d5 : wr.cell? ⟨b, off + k * 7 + 5, none⟩ = some (.int .i64 q.cls) := (hbel.cell (World.block_lt_of_cell? w _ (hc 5 (by omega)))).trans (hc 5 (by omega))
    have d6 : wr.cell? ⟨b, off + k * 7 + 6, none⟩ = some (.int .i64 q.cnt) := (hbel.cell (World.block_lt_of_cell? w _ (hc 6 (by omega)))).trans (hc 6 (by omega))
    have HO := hide hownL
    have HB := hide hbel
    clear hc hr hown hbel hownL hL hb1
    go_wp2_with fail
    refine (toItem_any _ _ _ _ _ _ _ _).mono ?_
    rintro e w2 ⟨rfl, hb2⟩
    have hown2 := own_later HO.out hb2
    obtain ⟨u0, e0, t0⟩ := row_at (j := 0) hown2.1 hlt (by omega)
    have f0 : w2.cell? ⟨w.heap.size, k * 7, none⟩ = some u0 := (hown2.cellAt _ t0).trans e0
    have z0 : w2.frozen? ⟨w.heap.size, k * 7, none⟩ = false := hown2.frozenAt (k * 7)
    obtain ⟨u1, e1, t1⟩ := row_at (j := 1) hown2.1 hlt (by omega)
    have f1 : w2.cell? ⟨w.heap.size, k * 7 + 1, none⟩ = some u1 := (hown2.cellAt _ t1).trans e1
    have z1 : w2.frozen? ⟨w.heap.size, k * 7 + 1, none⟩ = false := hown2.frozenAt (k * 7 + 1)
    obtain ⟨u2, e2, t2⟩ := row_at (j := 2) hown2.1 hlt (by omega)
    have f2 : w2.cell? ⟨w.heap.size, k * 7 + 2, none⟩ = some u2 := (hown2.cellAt _ t2).trans e2
    have z2 : w2.frozen? ⟨w.heap.size, k * 7 + 2, none⟩ = false := hown2.frozenAt (k * 7 + 2)
    obtain ⟨u3, e3, t3⟩ := row_at (j := 3) hown2.1 hlt (by omega)
    have f3 : w2.cell? ⟨w.heap.size, k * 7 + 3, none⟩ = some u3 := (hown2.cellAt _ t3).trans e3
    have z3 : w2.frozen? ⟨w.heap.size, k * 7 + 3, none⟩ = false := hown2.frozenAt (k * 7 + 3)
    obtain ⟨u4, e4, t4⟩ := row_at (j := 4) hown2.1 hlt (by omega)
    have f4 : w2.cell? ⟨w.heap.size, k * 7 + 4, none⟩ = some u4 := (hown2.cellAt _ t4).trans e4
    have z4 : w2.frozen? ⟨w.heap.size, k * 7 + 4, none⟩ = false := hown2.frozenAt (k * 7 + 4)
    obtain ⟨u5, e5, t5⟩ := row_at (j := 5) hown2.1 hlt (by omega)
    have f5 : w2.cell? ⟨w.heap.size, k * 7 + 5, none⟩ = some u5 := (hown2.cellAt _ t5).trans e5
    have z5 : w2.frozen? ⟨w.heap.size, k * 7 + 5, none⟩ = false := hown2.frozenAt (k * 7 + 5)
    obtain ⟨u6, e6, t6⟩ := row_at (j := 6) hown2.1 hlt (by omega)
    have f6 : w2.cell? ⟨w.heap.size, k * 7 + 6, none⟩ = some u6 := (hown2.cellAt _ t6).trans e6
    have z6 : w2.frozen? ⟨w.heap.size, k * 7 + 6, none⟩ = false := hown2.frozenAt (k * 7 + 6)
    have HO2 := hide (own_write (ItemV.cells q) _ _ (k * 7) hown2)
    have HB2 := hide (below_write (Nat.le_refl _) (ItemV.cells q) _ _ (k * 7) (HB.out.trans (hb2.mono HB.out.size)))
    clear hown2 HO HB hb2 e0 t0 e1 t1 e2 t2 e3 t3 e4 t4 e5 t5 e6 t6
    go_wp2
    go_roundw
    case rel => exact ⟨k + 1, _, by omega, by go_num, unhide HO2, unhide HL, unhide HB2⟩
    case measure => simp [intOf]; omega
  · obtain rfl : k = n := by omega
    have HO := hide hownL
    have HL := hide hL
    have HB := hide hbel
    clear hown hb1 hownL hL hbel
    go_wp2
    go_ret
    exact ⟨_, rfl, RdR.of_owns HO.out hr.1 HL.out, unhide HB, Nat.le_refl _, (HO.out.lt _ rfl).2, _, World.ownsRow.mono HO.out (Nat.zero_le _)⟩

set_option maxHeartbeats 2000000 in
theorem toRequest_owned (r : ReqV) (h : ReqH) (w : World) (hr : RdReq w r h) (hs : r.small) :
 Calls Tryz.prog 8 #[reqVal r h] w fun e w' => ∃ h', e = .returned (reqVal r h') ∧ RdReq w' r h' ∧ h'.fresh w.heap.size ∧ Below w.heap.size w w' ∧ ∃ gp gt gi, OwnReq w' w.heap.size r h' gp gt gi := by
 unfold ReqV.small at hs
 unfold reqVal
 obtain ⟨hp, ht, hi⟩ := hr
 go_enter Tryz.func8, Tryz.ntmps8
 go_wp2_with fail
 refine (toPallet_any _ _ _ _ _).mono ?_
 rintro e w1 ⟨rfl, hb1⟩
 have H1 : Hid (Below w.heap.size w w1) := ((((Below.refl w.heap.size w).alloc (Nat.le_refl _) _).alloc (by simp) _).alloc (by simp; omega) _).trans (hb1.mono (by simp; omega))
 have z1 : w.heap.size + 1 + 1 < w1.heap.size := by have := hb1.size; simp at this; omega
 have A1 : Blk w1 w.heap.size [.int .i64 r.way, .int .i64 r.pal.wd, .int .i64 r.pal.dp, .int .i64 r.pal.ht, .int .i64 r.pal.gram, .int .i64 r.classes, .slice h.ap r.pairs.length h.cp, .slice h.at' r.types.length h.ct, .int .i64 r.master, .slice h.ai r.items.length h.ci] := Blk.below hb1 (by simp; omega) (((Blk.allocAt [.int .i64 r.way, .int .i64 r.pal.wd, .int .i64 r.pal.dp, .int .i64 r.pal.ht, .int .i64 r.pal.gram, .int .i64 r.classes, .slice h.ap r.pairs.length h.cp, .slice h.at' r.types.length h.ct, .int .i64 r.master, .slice h.ai r.items.length h.ci] (by simp)).allocOld (by simp) _).allocOld (by simp; omega) _)
 have R1 : Blk w1 (w.heap.size + 1) [.int .i64 0, .int .i64 0, .int .i64 0, .int .i64 0, .int .i64 0, .int .i64 0, .slice none 0 0, .slice none 0 0, .int .i64 0, .slice none 0 0] := Blk.below hb1 (by simp) ((Blk.allocAt [.int .i64 0, .int .i64 0, .int .i64 0, .int .i64 0, .int .i64 0, .int .i64 0, .slice none 0 0, .slice none 0 0, .int .i64 0, .slice none 0 0] (by simp)).allocOld (by simp) _)
 have O1 : Blk w1 (w.heap.size + 1 + 1) [.int .i64 r.way, .int .i64 0, .int .i64 0, .int .i64 0, .int .i64 0, .int .i64 0, .slice none 0 0, .slice none 0 0, .int .i64 0, .slice none 0 0] := Blk.below hb1 (by simp) (Blk.allocAt [.int .i64 r.way, .int .i64 0, .int .i64 0, .int .i64 0, .int .i64 0, .int .i64 0, .slice none 0 0, .slice none 0 0, .int .i64 0, .slice none 0 0] (by simp))
 have a1_1 : w1.cell? ⟨w.heap.size, 1, none⟩ = some (.int .i64 r.pal.wd) := (A1 1 (by simp)).1
 have a1_5 : w1.cell? ⟨w.heap.size, 5, none⟩ = some (.int .i64 r.classes) := (A1 5 (by simp)).1
 have a1_6 : w1.cell? ⟨w.heap.size, 6, none⟩ = some (.slice h.ap r.pairs.length h.cp) := (A1 6 (by simp)).1
 have o1_0 := (O1 0 (by simp)).1
 have f1_0 := (O1 0 (by simp)).2
 have o1_1 := (O1 1 (by simp)).1
 have f1_1 := (O1 1 (by simp)).2
 have o1_2 := (O1 2 (by simp)).1
 have f1_2 := (O1 2 (by simp)).2
 have o1_3 := (O1 3 (by simp)).1
 have f1_3 := (O1 3 (by simp)).2
 have o1_4 := (O1 4 (by simp)).1
 have f1_4 := (O1 4 (by simp)).2
 have o1_5 := (O1 5 (by simp)).1
 have f1_5 := (O1 5 (by simp)).2
 have o1_6 := (O1 6 (by simp)).1
 have f1_6 := (O1 6 (by simp)).2
 have o1_7 := (O1 7 (by simp)).1
 have f1_7 := (O1 7 (by simp)).2
 have o1_8 := (O1 8 (by simp)).1
 have f1_8 := (O1 8 (by simp)).2
 have o1_9 := (O1 9 (by simp)).1
 have f1_9 := (O1 9 (by simp)).2
 have HA1 := hide A1
 have HO1 := hide O1
 have HR1 := hide R1
 clear hb1 A1 O1 R1
 go_wp2_with fail
 refine (toPairS_owned _ _ _ r.pairs _ ?hr2 (by omega)).mono ?_
 case hr2 => exact hp.mono (by omega) PairV.len (by repeat' (first | refine Below.setCell ?_ (by (try dsimp only); omega) _ | exact unhide H1))
 rintro e w2 ⟨g2, rfl, hq2, hb2, hg2, hs2, L2, hw2⟩
 clear a1_1 a1_5 a1_6 o1_0 f1_0 o1_1 f1_1 o1_2 f1_2 o1_3 f1_3 o1_4 f1_4 o1_5 f1_5 o1_6 f1_6 o1_7 f1_7 o1_8 f1_8 o1_9 f1_9
 have H2 : Hid (Below w.heap.size w w2) := Below.trans (by repeat' (first | refine Below.setCell ?_ (by (try dsimp only); omega) _ | exact unhide H1)) (hb2.mono (by simp; omega))
 have z2 : w1.heap.size ≤ g2 := by simpa using hg2
 have A2 := Blk.below hb2 (by simp; omega) (((((HA1.out.other (by omega)).other (by omega)).other (by omega)).other (by omega)).other (by omega))
 have R2 := Blk.below hb2 (by simp; omega) (((((HR1.out.other (by omega)).other (by omega)).other (by omega)).other (by omega)).other (by omega))
 have O2 : Blk w2 (w.heap.size + 1 + 1) [.int .i64 r.way, .int .i64 r.pal.wd, .int .i64 r.pal.dp, .int .i64 r.pal.ht, .int .i64 r.pal.gram, .int .i64 r.classes, .slice none 0 0, .slice none 0 0, .int .i64 0, .slice none 0 0] := Blk.below hb2 (by simp; omega) (((((HO1.out.set (by simp)).set (by simp)).set (by simp)).set (by simp)).set (by simp))
 have a2_7 : w2.cell? ⟨w.heap.size, 7, none⟩ = some (.slice h.at' r.types.length h.ct) := (A2 7 (by simp)).1
 have o2_0 := (O2 0 (by simp)).1
 have f2_0 := (O2 0 (by simp)).2
 have o2_1 := (O2 1 (by simp)).1
 have f2_1 := (O2 1 (by simp)).2
 have o2_2 := (O2 2 (by simp)).1
 have f2_2 := (O2 2 (by simp)).2
 have o2_3 := (O2 3 (by simp)).1
 have f2_3 := (O2 3 (by simp)).2
 have o2_4 := (O2 4 (by simp)).1
 have f2_4 := (O2 4 (by simp)).2
 have o2_5 := (O2 5 (by simp)).1
 have f2_5 := (O2 5 (by simp)).2
 have o2_6 := (O2 6 (by simp)).1
 have f2_6 := (O2 6 (by simp)).2
 have o2_7 := (O2 7 (by simp)).1
 have f2_7 := (O2 7 (by simp)).2
 have o2_8 := (O2 8 (by simp)).1
 have f2_8 := (O2 8 (by simp)).2
 have o2_9 := (O2 9 (by simp)).1
 have f2_9 := (O2 9 (by simp)).2
 have HA2 := hide A2
 have HO2 := hide O2
 have HR2 := hide R2
 have G2 := hide hq2
 have W2 := hide hw2
 clear hb2 hg2 hq2 hw2 A2 O2 R2 H1 HA1 HO1 HR1
 go_wp2_with fail
 refine (toTypeS_owned _ _ _ r.types _ ?hr3 (by omega)).mono ?_
 case hr3 => exact ht.mono (by omega) TypeV.len (by repeat' (first | refine Below.setCell ?_ (by (try dsimp only); omega) _ | exact unhide H2))
 rintro e w3 ⟨g3, rfl, hq3, hb3, hg3, hs3, L3, hw3⟩
 clear a2_7 o2_0 f2_0 o2_1 f2_1 o2_2 f2_2 o2_3 f2_3 o2_4 f2_4 o2_5 f2_5 o2_6 f2_6 o2_7 f2_7 o2_8 f2_8 o2_9 f2_9
 have H3 : Hid (Below w.heap.size w w3) := Below.trans (by repeat' (first | refine Below.setCell ?_ (by (try dsimp only); omega) _ | exact unhide H2)) (hb3.mono (by simp; omega))
 have z3 : w2.heap.size ≤ g3 := by simpa using hg3
 have A3 := Blk.below hb3 (by simp; omega) (HA2.out.other (by omega))
 have R3 := Blk.below hb3 (by simp; omega) (HR2.out.other (by omega))
 have O3 : Blk w3 (w.heap.size + 1 + 1) [.int .i64 r.way, .int .i64 r.pal.wd, .int .i64 r.pal.dp, .int .i64 r.pal.ht, .int .i64 r.pal.gram, .int .i64 r.classes, .slice (some ⟨g2, 0, none⟩) r.pairs.length r.pairs.length, .slice none 0 0, .int .i64 0, .slice none 0 0] := Blk.below hb3 (by simp; omega) (HO2.out.set (by simp))
 have a3_8 : w3.cell? ⟨w.heap.size, 8, none⟩ = some (.int .i64 r.master) := (A3 8 (by simp)).1
 have a3_9 : w3.cell? ⟨w.heap.size, 9, none⟩ = some (.slice h.ai r.items.length h.ci) := (A3 9 (by simp)).1
 have o3_0 := (O3 0 (by simp)).1
 have f3_0 := (O3 0 (by simp)).2
 have o3_1 := (O3 1 (by simp)).1
 have f3_1 := (O3 1 (by simp)).2
 have o3_2 := (O3 2 (by simp)).1
 have f3_2 := (O3 2 (by simp)).2
 have o3_3 := (O3 3 (by simp)).1
 have f3_3 := (O3 3 (by simp)).2
 have o3_4 := (O3 4 (by simp)).1
 have f3_4 := (O3 4 (by simp)).2
 have o3_5 := (O3 5 (by simp)).1
 have f3_5 := (O3 5 (by simp)).2
 have o3_6 := (O3 6 (by simp)).1
 have f3_6 := (O3 6 (by simp)).2
 have o3_7 := (O3 7 (by simp)).1
 have f3_7 := (O3 7 (by simp)).2
 have o3_8 := (O3 8 (by simp)).1
 have f3_8 := (O3 8 (by simp)).2
 have o3_9 := (O3 9 (by simp)).1
 have f3_9 := (O3 9 (by simp)).2
 have HA3 := hide A3
 have HO3 := hide O3
 have HR3 := hide R3
 have G3 := hide hq3
 have W3 := hide hw3
 have W2b := hide (own_later (own_other W2.out (show g2 ≠ _ by omega)) hb3)
 have G2b := hide ((G2.out.other (fun x hx => by simp only [Option.some.injEq] at hx; subst hx; show g2 ≠ _; omega)).mono (by omega) PairV.len hb3)
 clear hb3 hg3 hq3 hw3 W2 A3 O3 R3 H2 HA2 HO2 HR2
 go_wp2_with fail
 refine (toItemS_owned _ _ _ r.items _ ?hr4 (by omega)).mono ?_
 case hr4 => exact hi.mono (by omega) ItemV.len (by repeat' (first | refine Below.setCell ?_ (by (try dsimp only); omega) _ | exact unhide H3))
 rintro e w4 ⟨g4, rfl, hq4, hb4, hg4, hs4, L4, hw4⟩
 clear a3_8 a3_9 o3_0 f3_0 o3_1 f3_1 o3_2 f3_2 o3_3 f3_3 o3_4 f3_4 o3_5 f3_5 o3_6 f3_6 o3_7 f3_7 o3_8 f3_8 o3_9 f3_9
 have H4 : Hid (Below w.heap.size w w4) := Below.trans (by repeat' (first | refine Below.setCell ?_ (by (try dsimp only); omega) _ | exact unhide H3)) (hb4.mono (by simp; omega))
 have z4 : w3.heap.size ≤ g4 := by simpa using hg4
 have R4 := Blk.below hb4 (by simp; omega) ((HR3.out.other (by omega)).other (by omega))
 have O4 : Blk w4 (w.heap.size + 1 + 1) [.int .i64 r.way, .int .i64 r.pal.wd, .int .i64 r.pal.dp, .int .i64 r.pal.ht, .int .i64 r.pal.gram, .int .i64 r.classes, .slice (some ⟨g2, 0, none⟩) r.pairs.length r.pairs.length, .slice (some ⟨g3, 0, none⟩) r.types.length r.types.length, .int .i64 r.master, .slice none 0 0] := Blk.below hb4 (by simp; omega) ((HO3.out.set (by simp)).set (by simp))
 have o4_0 := (O4 0 (by simp)).1
 have f4_0 := (O4 0 (by simp)).2
 have q4_0 := (R4 0 (by simp)).1
 have t4_0 := (R4 0 (by simp)).2
 have o4_1 := (O4 1 (by simp)).1
 have f4_1 := (O4 1 (by simp)).2
 have q4_1 := (R4 1 (by simp)).1
 have t4_1 := (R4 1 (by simp)).2
 have o4_2 := (O4 2 (by simp)).1
 have f4_2 := (O4 2 (by simp)).2
 have q4_2 := (R4 2 (by simp)).1
 have t4_2 := (R4 2 (by simp)).2
 have o4_3 := (O4 3 (by simp)).1
 have f4_3 := (O4 3 (by simp)).2
 have q4_3 := (R4 3 (by simp)).1
 have t4_3 := (R4 3 (by simp)).2
 have o4_4 := (O4 4 (by simp)).1
 have f4_4 := (O4 4 (by simp)).2
 have q4_4 := (R4 4 (by simp)).1
 have t4_4 := (R4 4 (by simp)).2
 have o4_5 := (O4 5 (by simp)).1
 have f4_5 := (O4 5 (by simp)).2
 have q4_5 := (R4 5 (by simp)).1
 have t4_5 := (R4 5 (by simp)).2
 have o4_6 := (O4 6 (by simp)).1
 have f4_6 := (O4 6 (by simp)).2
 have q4_6 := (R4 6 (by simp)).1
 have t4_6 := (R4 6 (by simp)).2
 have o4_7 := (O4 7 (by simp)).1
 have f4_7 := (O4 7 (by simp)).2
 have q4_7 := (R4 7 (by simp)).1
 have t4_7 := (R4 7 (by simp)).2
 have o4_8 := (O4 8 (by simp)).1
 have f4_8 := (O4 8 (by simp)).2
 have q4_8 := (R4 8 (by simp)).1
 have t4_8 := (R4 8 (by simp)).2
 have o4_9 := (O4 9 (by simp)).1
 have f4_9 := (O4 9 (by simp)).2
 have q4_9 := (R4 9 (by simp)).1
 have t4_9 := (R4 9 (by simp)).2
 have G2c := hide (((G2b.out.other (fun x hx => by simp only [Option.some.injEq] at hx; subst hx; show g2 ≠ _; omega)).other (fun x hx => by simp only [Option.some.injEq] at hx; subst hx; show g2 ≠ _; omega)).mono (by omega) PairV.len hb4)
 have G3c := hide (((G3.out.other (fun x hx => by simp only [Option.some.injEq] at hx; subst hx; show g3 ≠ _; omega)).other (fun x hx => by simp only [Option.some.injEq] at hx; subst hx; show g3 ≠ _; omega)).mono (by omega) TypeV.len hb4)
 have G4c := hide hq4
 have W4 := hide hw4
 have W2c := hide (own_later (own_other (own_other W2b.out (show g2 ≠ _ by omega)) (show g2 ≠ _ by omega)) hb4)
 have W3c := hide (own_later (own_other (own_other W3.out (show g3 ≠ _ by omega)) (show g3 ≠ _ by omega)) hb4)
 clear hb4 hg4 hq4 hw4 W2b W3 R4 O4 HR3 HO3 HA3 H3 G2 G2b G3
 go_wp2_with fail
 refine bodyPost_ret (v := .agg #[.int .i64 r.way, .int .i64 r.pal.wd, .int .i64 r.pal.dp, .int .i64 r.pal.ht, .int .i64 r.pal.gram, .int .i64 r.classes, .slice (some ⟨g2, 0, none⟩) r.pairs.length r.pairs.length, .slice (some ⟨g3, 0, none⟩) r.types.length r.types.length, .int .i64 r.master, .slice (some ⟨g4, 0, none⟩) r.items.length r.items.length]) (by simp [results, Tryz.results8, go_sem, q4_0, q4_1, q4_2, q4_3, q4_4, q4_5, q4_6, q4_7, q4_8, q4_9]) rfl ?_
 clear o4_0 f4_0 q4_0 t4_0 o4_1 f4_1 q4_1 t4_1 o4_2 f4_2 q4_2 t4_2 o4_3 f4_3 q4_3 t4_3 o4_4 f4_4 q4_4 t4_4 o4_5 f4_5 q4_5 t4_5 o4_6 f4_6 q4_6 t4_6 o4_7 f4_7 q4_7 t4_7 o4_8 f4_8 q4_8 t4_8 o4_9 f4_9 q4_9 t4_9
 refine ⟨⟨some ⟨g2, 0, none⟩, some ⟨g3, 0, none⟩, some ⟨g4, 0, none⟩, r.pairs.length, r.types.length, r.items.length⟩, rfl, ⟨?_, ?_, ?_⟩, ⟨⟨_, rfl, by omega⟩, ⟨_, rfl, by omega⟩, ⟨_, rfl, by omega⟩⟩, ?_, g2, g3, g4, rfl, by omega, by omega, by omega, ?_, ⟨L2, ?_⟩, ⟨L3, ?_⟩, ⟨L4, ?_⟩⟩
 · repeat' (first | refine RdR.other ?_ (fun x hx => by simp only [Option.some.injEq] at hx; subst hx; show g2 ≠ _; omega) | exact unhide G2c)
 · repeat' (first | refine RdR.other ?_ (fun x hx => by simp only [Option.some.injEq] at hx; subst hx; show g3 ≠ _; omega) | exact unhide G3c)
 · repeat' (first | refine RdR.other ?_ (fun x hx => by simp only [Option.some.injEq] at hx; subst hx; show g4 ≠ _; omega) | exact unhide G4c)
 · exact (by repeat' (first | refine Below.setCell ?_ (by (try dsimp only); omega) _ | exact unhide H4))
 · simp only [World.size_setCell]; omega
 · repeat' (first | refine own_other ?_ (show g2 ≠ _ by omega) | exact unhide W2c)
 · repeat' (first | refine own_other ?_ (show g3 ≠ _ by omega) | exact unhide W3c)
 · repeat' (first | refine own_other ?_ (show g4 ≠ _ by omega) | exact unhide W4)

theorem toRequest_own3 (r : ReqV) (h : ReqH) (w : World) (hr : RdReq w r h) (hs : r.small) :
 Calls Tryz.prog 8 #[reqVal r h] w fun e w' => ∃ h' gp gt gi, e = .returned (reqVal r h') ∧ RdReq w' r h' ∧ OwnReq w' w.heap.size r h' gp gt gi ∧ Below w.heap.size w w' :=
 (toRequest_owned r h w hr hs).mono fun e w' ⟨h', e1, e2, _, e4, gp, gt, gi, e5⟩ => ⟨h', gp, gt, gi, e1, e2, e5, e4⟩

end Go.Proofs.YtcblpoeeembniabGreatDoor

/- The laws' marks over an order: three blocks turn, nothing else. -/
namespace Go.Proofs.YtcblpoeeembniabGreatDoor
open Go.RowKit
set_option linter.unusedVariables false

/-- Three blocks have turned, one after the other. -/
def Turn3 (w w' : World) (a b c : Nat) : Prop := ∃ w1 w2, w.grownBy w1 (some a) ∧ w1.grownBy w2 (some b) ∧ w2.grownBy w' (some c)
theorem Turn3.size {w w' : World} {a b c : Nat} (h : Turn3 w w' a b c) : w.heap.size ≤ w'.heap.size := by
 obtain ⟨w1, w2, h1, h2, h3⟩ := h
 exact Nat.le_trans h1.size (Nat.le_trans h2.size h3.size)
theorem Turn3.below {W w w' : World} {a b c B : Nat} (h : Turn3 w w' a b c) (hb : Below B W w) (hB : B ≤ W.heap.size) (ha : B ≤ a) (hb' : B ≤ b) (hc : B ≤ c) : Below B W w' := by
 obtain ⟨w1, w2, h1, h2, h3⟩ := h
 have s := hb.size
 have k1 := hb.grown h1 (by omega) (fun k e => by injection e with e; omega)
 have k2 := k1.grown h2 (by have := h1.size; omega) (fun k e => by injection e with e; omega)
 exact k2.grown h3 (by have := h1.size; have := h2.size; omega) (fun k e => by injection e with e; omega)
theorem Turn3.own {w w' : World} {a b c : Nat} (h : Turn3 w w' a b c) {B e k g n cap : Nat} {L : List Value} (ho : w.ownsRow B e k (.slice (some ⟨g, 0, none⟩) n cap) n L) (ha : g ≠ a) (hb : g ≠ b) (hc : g ≠ c) : w'.ownsRow B e k (.slice (some ⟨g, 0, none⟩) n cap) n L := by
 obtain ⟨w1, w2, h1, h2, h3⟩ := h
 have f : ∀ x, g ≠ x → (some x ≠ (Value.slice (some ⟨g, 0, none⟩) n cap).ownBlock) := fun x hx e => by simp [Value.ownBlock] at e; exact hx e.symm
 exact ((ho.kept h1 (Or.inr (f a ha).symm)).kept h2 (Or.inr (f b hb).symm)).kept h3 (Or.inr (f c hc).symm)
theorem Turn3.blk {w w' : World} {a b c g : Nat} {cs : List Value} (h : Turn3 w w' a b c) (hB : Blk w g cs) (hg : g < w.heap.size) (ha : g ≠ a) (hb : g ≠ b) (hc : g ≠ c) : Blk w' g cs := by
 obtain ⟨w1, w2, h1, h2, h3⟩ := h
 have f : ∀ {u u' : World} {x : Nat}, u.grownBy u' (some x) → g < u.heap.size → g ≠ x → Blk u g cs → Blk u' g cs := fun hg' hl hx hB i hi =>
  ⟨(World.cell?_of_block (hg'.block g hl (by intro e; cases e; exact hx rfl))).trans (hB i hi).1, (World.frozen?_of_block (hg'.block g hl (by intro e; cases e; exact hx rfl))).trans (hB i hi).2⟩
 exact f h3 (Nat.lt_of_lt_of_le hg (Nat.le_trans h1.size h2.size)) hc (f h2 (Nat.lt_of_lt_of_le hg h1.size) hb (f h1 hg ha hB))

end Go.Proofs.YtcblpoeeembniabGreatDoor

/- What the row hands in, opened: structs of numbers, slices of them, an order. -/
namespace Go.Proofs.YtcblpoeeembniabGreatDoor
open Go.RowKit Go.ChangeShapes Go.WideShapes
set_option linter.unusedVariables false
set_option maxRecDepth 100000

section
variable {H : Type} {enc : TypeId × Value → H} {P : Program} {w : World} {base : Nat} {spare : Nat → Bool} {held : Bool}

theorem field_cut {cs : List Value} {c : Value} {off : Nat} (h : cs[off]? = some c) : (cs.drop off).take 1 = [c] := by
 obtain ⟨hl, rfl⟩ := List.getElem?_eq_some_iff.1 h
 show List.take (0 + 1) _ = _
 rw [List.drop_eq_getElem_cons hl, List.take_succ_cons, List.take_zero]
theorem field_int {fs : Array Field} {n : Nat} {cs : List Value} {xs : List (DataW H × List MemPlace)} (hf : ∀ (i : Nat) (f : Field), fs[i]? = some f → DataW.trod enc P w base spare held n f.type ((cs.drop f.offset).take (P.cellsOf f.type)) = xs[i]?)
 (hx : xs.length = fs.size) (i : Nat) (f : Field) (h : fs[i]? = some f) (hc : P.cellsOf f.type = 1) (ht : P.underlying f.type = some (.int .i64)) {c : Value} (hg : cs[f.offset]? = some c) : ∃ n : Int, c = .int .i64 n ∧ (Lit.int .i64 n).wf = true := by
 have h1 := hf i f h
 rw [hc, field_cut hg] at h1
 have hi : i < xs.length := by rw [hx]; exact (Array.getElem?_eq_some_iff.1 h).1
 rw [List.getElem?_eq_getElem hi] at h1
 obtain ⟨n, e, _, hw⟩ := DataW.trod_int ht h1
 simp only [List.cons.injEq, and_true] at e
 exact ⟨n, e, hw⟩
theorem field_one {fs : Array Field} {n : Nat} {cs : List Value} {xs : List (DataW H × List MemPlace)} (hf : ∀ (i : Nat) (f : Field), fs[i]? = some f → DataW.trod enc P w base spare held n f.type ((cs.drop f.offset).take (P.cellsOf f.type)) = xs[i]?)
 (hx : xs.length = fs.size) (i : Nat) (f : Field) (h : fs[i]? = some f) (hc : P.cellsOf f.type = 1) {c : Value} (hg : cs[f.offset]? = some c) : ∃ x, DataW.trod enc P w base spare held n f.type [c] = some x := by
 have h1 := hf i f h
 rw [hc, field_cut hg] at h1
 have hi : i < xs.length := by rw [hx]; exact (Array.getElem?_eq_some_iff.1 h).1
 rw [List.getElem?_eq_getElem hi] at h1
 exact ⟨_, h1⟩
theorem field_any {fs : Array Field} {n : Nat} {cs : List Value} {xs : List (DataW H × List MemPlace)} (hf : ∀ (i : Nat) (f : Field), fs[i]? = some f → DataW.trod enc P w base spare held n f.type ((cs.drop f.offset).take (P.cellsOf f.type)) = xs[i]?)
 (hx : xs.length = fs.size) (i : Nat) (f : Field) (h : fs[i]? = some f) {k : Nat} (hc : P.cellsOf f.type = k) {l : List Value} (hg : (cs.drop f.offset).take k = l) : ∃ x, DataW.trod enc P w base spare held n f.type l = some x := by
 have h1 := hf i f h
 rw [hc, hg] at h1
 have hi : i < xs.length := by rw [hx]; exact (Array.getElem?_eq_some_iff.1 h).1
 rw [List.getElem?_eq_getElem hi] at h1
 exact ⟨_, h1⟩

/-- A slice of rows. -/
theorem open_rows {α : Type} [Inhabited α] {cells : α → List Value} {k : Nat} {t e : TypeId} (ht : P.underlying t = some (.slice e)) (hk : P.cellsOf e = k) (hkp : 0 < k)
 (hlen : ∀ q, (cells q).length = k)
 (hel : ∀ (n : Nat) (cs : List Value) (x : DataW H × List MemPlace), DataW.trod enc P w base spare held n e cs = some x → ∃ q : α, cs = cells q) {fuel : Nat} {c : Value} {x : DataW H × List MemPlace}
 (h : DataW.trod enc P w base spare held fuel t [c] = some x) : ∃ (a : Option Addr) (cap : Nat) (xs : List α), c = .slice a xs.length cap ∧ xs.length ≤ maxLen ∧ RdR cells k w a xs.length xs := by
 rcases Deep.open_slice ht h with ⟨e0, _⟩ | ⟨a, len, cap, m, n, D, Pl, e0, hb, hl, hm, hmm, _, hx⟩
 · simp only [List.cons.injEq, and_true] at e0
   exact ⟨none, 0, [], e0, Nat.zero_le _, rfl, fun i hi => absurd hi (Nat.not_lt_zero _)⟩
 · simp only [List.cons.injEq, and_true] at e0
   have hlm : len ≤ m := by rw [hmm]; split <;> omega
   obtain ⟨q, hq⟩ := Deep.choose_lt (n := len) (p := fun i (q : α) => w.cells? base (a.add (i * k)) k = some (cells q)) (fun i hi => by
    obtain ⟨cs', h1, h2⟩ := hx i (by omega)
    obtain ⟨q, rfl⟩ := hel _ _ _ h2
    rw [hk] at h1
    exact ⟨q, h1⟩)
   have hlq : ((List.range len).map q).length = len := by simp
   refine ⟨some a, cap, (List.range len).map q, by rw [hlq]; exact e0, by rw [hlq]; omega, by rw [hlq], fun i hi => ?_⟩
   rw [hlq] at hi
   obtain ⟨_, hl1, hcell⟩ := World.cells?_some (hq i hi)
   have e1 : ((List.range len).map q).getD i default = q i := by simp [List.getD_eq_getElem?_getD, hi]
   rw [e1]
   have hs : a.spot = none := by
    have h0 := (World.cells?_some (hq 0 (by omega))).2.2 0 hkp
    rw [List.getElem?_eq_getElem (by rw [hlen]; exact hkp)] at h0
    simpa [Addr.add] using World.cell?_spot h0
   obtain ⟨b, off, spot⟩ := a
   simp only at hs
   subst hs
   refine ⟨b, off, rfl, fun j hj => ?_⟩
   have := hcell j hj
   rw [Deep.add_add] at this
   rw [← this]
   congr 1
   unfold Addr.add
   split
   · next h0 => simp only [Addr.mk.injEq, true_and, and_true]; omega
   · simp only [Addr.mk.injEq, true_and, and_true]; omega
end

theorem cells_Item_laws {H : Type} {enc : TypeId × Value → H} {w : World} {base : Nat} {spare : Nat → Bool} {held : Bool} (n : Nat) (cs : List Value) (x : DataW H × List MemPlace)
 (h : DataW.trod enc Tryz.prog w base spare held n 98 cs = some x) : ∃ q : ItemV, cs = q.cells := by
 obtain ⟨xs, m, _, _, hl, hx, hf⟩ := DataW.trod_struct Tryz.underlying98 h
 rw [show Tryz.prog.cellsOf 98 = 7 from by kernel_rfl] at hl
 match cs, hl with
 | [c0, c1, c2, c3, c4, c5, c6], _ =>
  obtain ⟨n0, rfl, _⟩ := field_int hf hx 0 _ rfl (by kernel_rfl) Tryz.underlying3 (c := c0) rfl
  obtain ⟨n1, rfl, _⟩ := field_int hf hx 1 _ rfl (by kernel_rfl) Tryz.underlying3 (c := c1) rfl
  obtain ⟨n2, rfl, _⟩ := field_int hf hx 2 _ rfl (by kernel_rfl) Tryz.underlying3 (c := c2) rfl
  obtain ⟨n3, rfl, _⟩ := field_int hf hx 3 _ rfl (by kernel_rfl) Tryz.underlying3 (c := c3) rfl
  obtain ⟨n4, rfl, _⟩ := field_int hf hx 4 _ rfl (by kernel_rfl) Tryz.underlying3 (c := c4) rfl
  obtain ⟨n5, rfl, _⟩ := field_int hf hx 5 _ rfl (by kernel_rfl) Tryz.underlying3 (c := c5) rfl
  obtain ⟨n6, rfl, _⟩ := field_int hf hx 6 _ rfl (by kernel_rfl) Tryz.underlying3 (c := c6) rfl
  exact ⟨⟨n0, n1, n2, n3, n4, n5, n6⟩, rfl⟩
theorem cells_Item_impl {H : Type} {enc : TypeId × Value → H} {w : World} {base : Nat} {spare : Nat → Bool} {held : Bool} (n : Nat) (cs : List Value) (x : DataW H × List MemPlace)
 (h : DataW.trod enc Tryz.prog w base spare held n 89 cs = some x) : ∃ q : ItemV, cs = q.cells := by
 obtain ⟨xs, m, _, _, hl, hx, hf⟩ := DataW.trod_struct Tryz.underlying89 h
 rw [show Tryz.prog.cellsOf 89 = 7 from by kernel_rfl] at hl
 match cs, hl with
 | [c0, c1, c2, c3, c4, c5, c6], _ =>
  obtain ⟨n0, rfl, _⟩ := field_int hf hx 0 _ rfl (by kernel_rfl) Tryz.underlying3 (c := c0) rfl
  obtain ⟨n1, rfl, _⟩ := field_int hf hx 1 _ rfl (by kernel_rfl) Tryz.underlying3 (c := c1) rfl
  obtain ⟨n2, rfl, _⟩ := field_int hf hx 2 _ rfl (by kernel_rfl) Tryz.underlying3 (c := c2) rfl
  obtain ⟨n3, rfl, _⟩ := field_int hf hx 3 _ rfl (by kernel_rfl) Tryz.underlying3 (c := c3) rfl
  obtain ⟨n4, rfl, _⟩ := field_int hf hx 4 _ rfl (by kernel_rfl) Tryz.underlying3 (c := c4) rfl
  obtain ⟨n5, rfl, _⟩ := field_int hf hx 5 _ rfl (by kernel_rfl) Tryz.underlying3 (c := c5) rfl
  obtain ⟨n6, rfl, _⟩ := field_int hf hx 6 _ rfl (by kernel_rfl) Tryz.underlying3 (c := c6) rfl
  exact ⟨⟨n0, n1, n2, n3, n4, n5, n6⟩, rfl⟩
theorem open_Item {H : Type} {enc : TypeId × Value → H} {w : World} {r : Reach} {b0 base : Nat} {spare : Nat → Bool} {held : Bool} {v : Value} {d : DataW H} {p : List MemPlace}
 (hv : Value.okWide Tryz.prog w r b0 98 v) (h : DataW.Trod enc Tryz.prog w base spare held 98 v d p) : ∃ q : ItemV, v = .agg #[.int .i64 q.id, .int .i64 q.wd, .int .i64 q.ht, .int .i64 q.dp, .int .i64 q.gram, .int .i64 q.cls, .int .i64 q.cnt] := by
 obtain ⟨cs, rfl, hsz⟩ := okWide_struct Tryz.underlying98 hv
 obtain ⟨fuel, hf⟩ := h
 obtain ⟨q, hq⟩ := cells_Item_laws _ _ _ hf
 refine ⟨q, ?_⟩
 have hq' : cs.toList = q.cells := hq
 congr 1
 rw [← Array.toArray_toList (xs := cs), hq']
 rfl
theorem cells_Type_laws {H : Type} {enc : TypeId × Value → H} {w : World} {base : Nat} {spare : Nat → Bool} {held : Bool} (n : Nat) (cs : List Value) (x : DataW H × List MemPlace)
 (h : DataW.trod enc Tryz.prog w base spare held n 96 cs = some x) : ∃ q : TypeV, cs = q.cells := by
 obtain ⟨xs, m, _, _, hl, hx, hf⟩ := DataW.trod_struct Tryz.underlying96 h
 rw [show Tryz.prog.cellsOf 96 = 7 from by kernel_rfl] at hl
 match cs, hl with
 | [c0, c1, c2, c3, c4, c5, c6], _ =>
  obtain ⟨n0, rfl, _⟩ := field_int hf hx 0 _ rfl (by kernel_rfl) Tryz.underlying3 (c := c0) rfl
  obtain ⟨n1, rfl, _⟩ := field_int hf hx 1 _ rfl (by kernel_rfl) Tryz.underlying3 (c := c1) rfl
  obtain ⟨n2, rfl, _⟩ := field_int hf hx 2 _ rfl (by kernel_rfl) Tryz.underlying3 (c := c2) rfl
  obtain ⟨n3, rfl, _⟩ := field_int hf hx 3 _ rfl (by kernel_rfl) Tryz.underlying3 (c := c3) rfl
  obtain ⟨n4, rfl, _⟩ := field_int hf hx 4 _ rfl (by kernel_rfl) Tryz.underlying3 (c := c4) rfl
  obtain ⟨n5, rfl, _⟩ := field_int hf hx 5 _ rfl (by kernel_rfl) Tryz.underlying3 (c := c5) rfl
  obtain ⟨n6, rfl, _⟩ := field_int hf hx 6 _ rfl (by kernel_rfl) Tryz.underlying3 (c := c6) rfl
  exact ⟨⟨n0, n1, n2, n3, n4, n5, n6⟩, rfl⟩
theorem cells_Type_impl {H : Type} {enc : TypeId × Value → H} {w : World} {base : Nat} {spare : Nat → Bool} {held : Bool} (n : Nat) (cs : List Value) (x : DataW H × List MemPlace)
 (h : DataW.trod enc Tryz.prog w base spare held n 54 cs = some x) : ∃ q : TypeV, cs = q.cells := by
 obtain ⟨xs, m, _, _, hl, hx, hf⟩ := DataW.trod_struct Tryz.underlying54 h
 rw [show Tryz.prog.cellsOf 54 = 7 from by kernel_rfl] at hl
 match cs, hl with
 | [c0, c1, c2, c3, c4, c5, c6], _ =>
  obtain ⟨n0, rfl, _⟩ := field_int hf hx 0 _ rfl (by kernel_rfl) Tryz.underlying3 (c := c0) rfl
  obtain ⟨n1, rfl, _⟩ := field_int hf hx 1 _ rfl (by kernel_rfl) Tryz.underlying3 (c := c1) rfl
  obtain ⟨n2, rfl, _⟩ := field_int hf hx 2 _ rfl (by kernel_rfl) Tryz.underlying3 (c := c2) rfl
  obtain ⟨n3, rfl, _⟩ := field_int hf hx 3 _ rfl (by kernel_rfl) Tryz.underlying3 (c := c3) rfl
  obtain ⟨n4, rfl, _⟩ := field_int hf hx 4 _ rfl (by kernel_rfl) Tryz.underlying3 (c := c4) rfl
  obtain ⟨n5, rfl, _⟩ := field_int hf hx 5 _ rfl (by kernel_rfl) Tryz.underlying3 (c := c5) rfl
  obtain ⟨n6, rfl, _⟩ := field_int hf hx 6 _ rfl (by kernel_rfl) Tryz.underlying3 (c := c6) rfl
  exact ⟨⟨n0, n1, n2, n3, n4, n5, n6⟩, rfl⟩
theorem open_Type {H : Type} {enc : TypeId × Value → H} {w : World} {r : Reach} {b0 base : Nat} {spare : Nat → Bool} {held : Bool} {v : Value} {d : DataW H} {p : List MemPlace}
 (hv : Value.okWide Tryz.prog w r b0 96 v) (h : DataW.Trod enc Tryz.prog w base spare held 96 v d p) : ∃ q : TypeV, v = .agg #[.int .i64 q.id, .int .i64 q.wd, .int .i64 q.ht, .int .i64 q.dp, .int .i64 q.tare, .int .i64 q.gram, .int .i64 q.cost] := by
 obtain ⟨cs, rfl, hsz⟩ := okWide_struct Tryz.underlying96 hv
 obtain ⟨fuel, hf⟩ := h
 obtain ⟨q, hq⟩ := cells_Type_laws _ _ _ hf
 refine ⟨q, ?_⟩
 have hq' : cs.toList = q.cells := hq
 congr 1
 rw [← Array.toArray_toList (xs := cs), hq']
 rfl
theorem cells_Pallet_laws {H : Type} {enc : TypeId × Value → H} {w : World} {base : Nat} {spare : Nat → Bool} {held : Bool} (n : Nat) (cs : List Value) (x : DataW H × List MemPlace)
 (h : DataW.trod enc Tryz.prog w base spare held n 23 cs = some x) : ∃ q : PalletV, cs = q.cells := by
 obtain ⟨xs, m, _, _, hl, hx, hf⟩ := DataW.trod_struct Tryz.underlying23 h
 rw [show Tryz.prog.cellsOf 23 = 4 from by kernel_rfl] at hl
 match cs, hl with
 | [c0, c1, c2, c3], _ =>
  obtain ⟨n0, rfl, _⟩ := field_int hf hx 0 _ rfl (by kernel_rfl) Tryz.underlying3 (c := c0) rfl
  obtain ⟨n1, rfl, _⟩ := field_int hf hx 1 _ rfl (by kernel_rfl) Tryz.underlying3 (c := c1) rfl
  obtain ⟨n2, rfl, _⟩ := field_int hf hx 2 _ rfl (by kernel_rfl) Tryz.underlying3 (c := c2) rfl
  obtain ⟨n3, rfl, _⟩ := field_int hf hx 3 _ rfl (by kernel_rfl) Tryz.underlying3 (c := c3) rfl
  exact ⟨⟨n0, n1, n2, n3⟩, rfl⟩
theorem cells_Pallet_impl {H : Type} {enc : TypeId × Value → H} {w : World} {base : Nat} {spare : Nat → Bool} {held : Bool} (n : Nat) (cs : List Value) (x : DataW H × List MemPlace)
 (h : DataW.trod enc Tryz.prog w base spare held n 36 cs = some x) : ∃ q : PalletV, cs = q.cells := by
 obtain ⟨xs, m, _, _, hl, hx, hf⟩ := DataW.trod_struct Tryz.underlying36 h
 rw [show Tryz.prog.cellsOf 36 = 4 from by kernel_rfl] at hl
 match cs, hl with
 | [c0, c1, c2, c3], _ =>
  obtain ⟨n0, rfl, _⟩ := field_int hf hx 0 _ rfl (by kernel_rfl) Tryz.underlying3 (c := c0) rfl
  obtain ⟨n1, rfl, _⟩ := field_int hf hx 1 _ rfl (by kernel_rfl) Tryz.underlying3 (c := c1) rfl
  obtain ⟨n2, rfl, _⟩ := field_int hf hx 2 _ rfl (by kernel_rfl) Tryz.underlying3 (c := c2) rfl
  obtain ⟨n3, rfl, _⟩ := field_int hf hx 3 _ rfl (by kernel_rfl) Tryz.underlying3 (c := c3) rfl
  exact ⟨⟨n0, n1, n2, n3⟩, rfl⟩
theorem open_Pallet {H : Type} {enc : TypeId × Value → H} {w : World} {r : Reach} {b0 base : Nat} {spare : Nat → Bool} {held : Bool} {v : Value} {d : DataW H} {p : List MemPlace}
 (hv : Value.okWide Tryz.prog w r b0 23 v) (h : DataW.Trod enc Tryz.prog w base spare held 23 v d p) : ∃ q : PalletV, v = .agg #[.int .i64 q.wd, .int .i64 q.dp, .int .i64 q.ht, .int .i64 q.gram] := by
 obtain ⟨cs, rfl, hsz⟩ := okWide_struct Tryz.underlying23 hv
 obtain ⟨fuel, hf⟩ := h
 obtain ⟨q, hq⟩ := cells_Pallet_laws _ _ _ hf
 refine ⟨q, ?_⟩
 have hq' : cs.toList = q.cells := hq
 congr 1
 rw [← Array.toArray_toList (xs := cs), hq']
 rfl
theorem cells_Pair_laws {H : Type} {enc : TypeId × Value → H} {w : World} {base : Nat} {spare : Nat → Bool} {held : Bool} (n : Nat) (cs : List Value) (x : DataW H × List MemPlace)
 (h : DataW.trod enc Tryz.prog w base spare held n 94 cs = some x) : ∃ q : PairV, cs = q.cells := by
 obtain ⟨xs, m, _, _, hl, hx, hf⟩ := DataW.trod_struct Tryz.underlying94 h
 rw [show Tryz.prog.cellsOf 94 = 2 from by kernel_rfl] at hl
 match cs, hl with
 | [c0, c1], _ =>
  obtain ⟨n0, rfl, _⟩ := field_int hf hx 0 _ rfl (by kernel_rfl) Tryz.underlying3 (c := c0) rfl
  obtain ⟨n1, rfl, _⟩ := field_int hf hx 1 _ rfl (by kernel_rfl) Tryz.underlying3 (c := c1) rfl
  exact ⟨⟨n0, n1⟩, rfl⟩
theorem cells_Pair_impl {H : Type} {enc : TypeId × Value → H} {w : World} {base : Nat} {spare : Nat → Bool} {held : Bool} (n : Nat) (cs : List Value) (x : DataW H × List MemPlace)
 (h : DataW.trod enc Tryz.prog w base spare held n 92 cs = some x) : ∃ q : PairV, cs = q.cells := by
 obtain ⟨xs, m, _, _, hl, hx, hf⟩ := DataW.trod_struct Tryz.underlying92 h
 rw [show Tryz.prog.cellsOf 92 = 2 from by kernel_rfl] at hl
 match cs, hl with
 | [c0, c1], _ =>
  obtain ⟨n0, rfl, _⟩ := field_int hf hx 0 _ rfl (by kernel_rfl) Tryz.underlying3 (c := c0) rfl
  obtain ⟨n1, rfl, _⟩ := field_int hf hx 1 _ rfl (by kernel_rfl) Tryz.underlying3 (c := c1) rfl
  exact ⟨⟨n0, n1⟩, rfl⟩
theorem open_Pair {H : Type} {enc : TypeId × Value → H} {w : World} {r : Reach} {b0 base : Nat} {spare : Nat → Bool} {held : Bool} {v : Value} {d : DataW H} {p : List MemPlace}
 (hv : Value.okWide Tryz.prog w r b0 94 v) (h : DataW.Trod enc Tryz.prog w base spare held 94 v d p) : ∃ q : PairV, v = .agg #[.int .i64 q.a, .int .i64 q.b] := by
 obtain ⟨cs, rfl, hsz⟩ := okWide_struct Tryz.underlying94 hv
 obtain ⟨fuel, hf⟩ := h
 obtain ⟨q, hq⟩ := cells_Pair_laws _ _ _ hf
 refine ⟨q, ?_⟩
 have hq' : cs.toList = q.cells := hq
 congr 1
 rw [← Array.toArray_toList (xs := cs), hq']
 rfl
theorem cells_Box_impl {H : Type} {enc : TypeId × Value → H} {w : World} {base : Nat} {spare : Nat → Bool} {held : Bool} (n : Nat) (cs : List Value) (x : DataW H × List MemPlace)
 (h : DataW.trod enc Tryz.prog w base spare held n 34 cs = some x) : ∃ q : BoxV, cs = q.cells := by
 obtain ⟨xs, m, _, _, hl, hx, hf⟩ := DataW.trod_struct Tryz.underlying34 h
 rw [show Tryz.prog.cellsOf 34 = 4 from by kernel_rfl] at hl
 match cs, hl with
 | [c0, c1, c2, c3], _ =>
  obtain ⟨n0, rfl, _⟩ := field_int hf hx 0 _ rfl (by kernel_rfl) Tryz.underlying3 (c := c0) rfl
  obtain ⟨n1, rfl, _⟩ := field_int hf hx 1 _ rfl (by kernel_rfl) Tryz.underlying3 (c := c1) rfl
  obtain ⟨n2, rfl, _⟩ := field_int hf hx 2 _ rfl (by kernel_rfl) Tryz.underlying3 (c := c2) rfl
  obtain ⟨n3, rfl, _⟩ := field_int hf hx 3 _ rfl (by kernel_rfl) Tryz.underlying3 (c := c3) rfl
  exact ⟨⟨n0, n1, n2, n3⟩, rfl⟩
theorem cells_Request {H : Type} {enc : TypeId × Value → H} {w : World} {base : Nat} {spare : Nat → Bool} {held : Bool} (n : Nat) (cs : List Value) (x : DataW H × List MemPlace)
 (h : DataW.trod enc Tryz.prog w base spare held n 28 cs = some x) :
 ∃ (r : ReqV) (hd : ReqH), .agg cs.toArray = reqVal r hd ∧ RdReq w r hd ∧ r.pairs.length ≤ maxLen ∧ r.types.length ≤ maxLen ∧ r.items.length ≤ maxLen := by
 obtain ⟨xs, m, _, _, hl, hx, hf⟩ := DataW.trod_struct Tryz.underlying28 h
 rw [show Tryz.prog.cellsOf 28 = 10 from by kernel_rfl] at hl
 match cs, hl with
 | [c0, c1, c2, c3, c4, c5, c6, c7, c8, c9], _ =>
  obtain ⟨n0, rfl, _⟩ := field_int hf hx 0 _ rfl (by kernel_rfl) Tryz.underlying3 (c := c0) rfl
  obtain ⟨n2, rfl, _⟩ := field_int hf hx 2 _ rfl (by kernel_rfl) Tryz.underlying3 (c := c5) rfl
  obtain ⟨n5, rfl, _⟩ := field_int hf hx 5 _ rfl (by kernel_rfl) Tryz.underlying3 (c := c8) rfl
  obtain ⟨y1, h1⟩ := field_any hf hx 1 _ rfl (k := 4) (by kernel_rfl) (l := [c1, c2, c3, c4]) rfl
  obtain ⟨pq, hpq⟩ := cells_Pallet_laws _ _ _ h1
  simp only [PalletV.cells, List.cons.injEq, and_true] at hpq
  obtain ⟨rfl, rfl, rfl, rfl⟩ := hpq
  obtain ⟨y3, h3⟩ := field_one hf hx 3 _ rfl (by kernel_rfl) (c := c6) rfl
  obtain ⟨y4, h4⟩ := field_one hf hx 4 _ rfl (by kernel_rfl) (c := c7) rfl
  obtain ⟨y6, h6⟩ := field_one hf hx 6 _ rfl (by kernel_rfl) (c := c9) rfl
  obtain ⟨a3, p3, x3, rfl, l3, r3⟩ := open_rows (cells := PairV.cells) (k := 2) Tryz.underlying24 (by kernel_rfl) (by omega) PairV.len (fun n cs x h => cells_Pair_laws n cs x h) h3
  obtain ⟨a4, p4, x4, rfl, l4, r4⟩ := open_rows (cells := TypeV.cells) (k := 7) Tryz.underlying25 (by kernel_rfl) (by omega) TypeV.len (fun n cs x h => cells_Type_laws n cs x h) h4
  obtain ⟨a6, p6, x6, rfl, l6, r6⟩ := open_rows (cells := ItemV.cells) (k := 7) Tryz.underlying26 (by kernel_rfl) (by omega) ItemV.len (fun n cs x h => cells_Item_laws n cs x h) h6
  exact ⟨⟨n0, pq, n2, x3, x4, n5, x6⟩, ⟨a3, a4, a6, p3, p4, p6⟩, rfl, ⟨r3, r4, r6⟩, l3, l4, l6⟩
theorem open_Request {H : Type} {enc : TypeId × Value → H} {w : World} {r : Reach} {b0 base : Nat} {spare : Nat → Bool} {held : Bool} {v : Value} {d : DataW H} {p : List MemPlace}
 (hv : Value.okWide Tryz.prog w r b0 28 v) (h : DataW.Trod enc Tryz.prog w base spare held 28 v d p) :
 ∃ (q : ReqV) (hd : ReqH), v = reqVal q hd ∧ RdReq w q hd ∧ q.pairs.length ≤ maxLen ∧ q.types.length ≤ maxLen ∧ q.items.length ≤ maxLen := by
 obtain ⟨cs, rfl, hsz⟩ := okWide_struct Tryz.underlying28 hv
 obtain ⟨fuel, hf⟩ := h
 have := cells_Request _ _ _ hf
 simpa [Value.cells] using this
end Go.Proofs.YtcblpoeeembniabGreatDoor
