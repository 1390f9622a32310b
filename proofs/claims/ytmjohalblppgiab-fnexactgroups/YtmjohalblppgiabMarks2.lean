/- The laws' marks over pairs and over rows of rows. -/
import Derived.Test.YtmjohalblppgiabToS
import Derived.Test.YtmjohalblppgiabIntMarks
import Derived.Test.YtmjohalblppgiabIntSS
namespace Go.Proofs.Ytmjohalblppgiab
open Go.RowKit
set_option linter.unusedVariables false

set_option maxHeartbeats 1000000 in
theorem toPairS_own (a : Option Addr) (n c : Nat) (xs : List PairV) (w : World) (hr : RdR PairV.cells 2 w a n xs) (hn : n ≤ 1048576) :
    Calls Try.prog 7 #[.slice a n c] w fun e w' => ∃ L, e = .returned (.slice (some ⟨w.heap.size, 0, none⟩) n n) ∧ w'.ownsRow w.heap.size 42 2 (.slice (some ⟨w.heap.size, 0, none⟩) n n) n L ∧
      RdR PairV.cells 2 w' (some ⟨w.heap.size, 0, none⟩) n xs ∧ Below w.heap.size w w' := by
  obtain ⟨i0, hi, hz0, hz1, hz2⟩ := info_parts Try.infoPair
  have hbb : i0.bytes * n ≤ 281474976710656 := by rw [hz2]; omega
  go_enter Try.func7, Try.ntmps7
  go_wp2_with (first
    | (at_make; refine wpList_make_full _ rfl _ _ 27 rfl w.heap.size 42 i0 (.agg #[.int .i64 0, .int .i64 0]) 2 Try.underlying27 hi hz0 hz1 .i64 .i64 n n n rfl rfl rfl rfl hbb (by unfold maxLen; omega) (Nat.le_refl _) ?_; intro w1 hown hgrow)
    | go_in)
  have hb1 : Below w.heap.size w w1 := (Below.refl _ _).grown hgrow (Nat.le_refl _) (by simp)
  have hs1 : w.heap.size < w1.heap.size := (hown.lt _ rfl).2
  clear hgrow
  go_loopw [4] (fun i wr => ∃ (k : Nat) (L : List Value), k ≤ n ∧ i = .int .i64 k ∧ wr.ownsRow w.heap.size 42 2 (.slice (some ⟨w.heap.size, 0, none⟩) n n) n L ∧
      (∀ i, i < k → ∀ j, j < 2 → L[i * 2 + j]? = (PairV.cells (xs.getD i default))[j]?) ∧ Below w.heap.size w wr) (fun i _ => n - (intOf i).toNat)
  case atStart => exact ⟨0, _, Nat.zero_le _, rfl, hown, fun i hi => absurd hi (Nat.not_lt_zero _), hb1⟩
  case round =>
    obtain ⟨k, L, hk, rfl, hownL, hL, hbel⟩ := hrel
    by_cases hlt : k < n
    · obtain ⟨b, off, rfl, hc⟩ := hr.2 k hlt
      have HL := hide (rows_step (cells := PairV.cells) (xs := xs) PairV.len hownL.1 hlt hL)
      generalize xs.getD k default = q at hc HL
      have d0 : wr.cell? ⟨b, off + k * 2, none⟩ = some (.int .i64 q.a) := (hbel.cell (World.block_lt_of_cell? w _ (hc 0 (by omega)))).trans (hc 0 (by omega))
      have d1 : wr.cell? ⟨b, off + k * 2 + 1, none⟩ = some (.int .i64 q.b) := (hbel.cell (World.block_lt_of_cell? w _ (hc 1 (by omega)))).trans (hc 1 (by omega))
      have HO := hide hownL
      have HB := hide hbel
      clear hc hr hown hbel hownL hL hb1
      go_wp2_with fail
      refine (toPair_any _ _ _).mono ?_
      rintro e w2 ⟨rfl, hb2⟩
      have hown2 := own_later (unhide HO) hb2
      obtain ⟨u0, e0, t0⟩ := row_at (j := 0) hown2.1 hlt (by omega)
      have f0 : w2.cell? ⟨w.heap.size, k * 2, none⟩ = some u0 := (hown2.cellAt _ t0).trans e0
      have z0 : w2.frozen? ⟨w.heap.size, k * 2, none⟩ = false := hown2.frozenAt (k * 2)
      obtain ⟨u1, e1, t1⟩ := row_at (j := 1) hown2.1 hlt (by omega)
      have f1 : w2.cell? ⟨w.heap.size, k * 2 + 1, none⟩ = some u1 := (hown2.cellAt _ t1).trans e1
      have z1 : w2.frozen? ⟨w.heap.size, k * 2 + 1, none⟩ = false := hown2.frozenAt (k * 2 + 1)
      have HO2 := hide (own_write (PairV.cells q) _ _ (k * 2) hown2)
      have HB2 := hide (below_write (Nat.le_refl _) (PairV.cells q) _ _ (k * 2) ((unhide HB).trans (hb2.mono (unhide HB).size)))
      clear hown2 HO HB hb2 e0 t0 e1 t1
      go_wp2
      go_roundw
      case rel => exact ⟨k + 1, _, by omega, by go_num, unhide HO2, unhide HL, unhide HB2⟩
      case measure => simp [intOf]; omega
    · obtain rfl : k = n := by omega
      have HO := hide hownL
      have HL := hide hL
      have HB := hide hbel
      clear hown hb1 hownL hL hbel
      go_wp2
      go_ret
      exact ⟨L, rfl, unhide HO, RdR.of_owns (unhide HO) hr.1 (unhide HL), unhide HB⟩
set_option maxHeartbeats 1000000 in
theorem markPairS_any (base g n cap k0 : Nat) (L : List Value) (w : World) (hown : w.ownsRow base 42 2 (.slice (some ⟨g, 0, none⟩) n cap) n L) (hn : n ≤ 1048577) (hk1 : k0 ≤ 100000000) :
    Calls Try.prog 13 #[.slice (some ⟨g, 0, none⟩) n cap, .int .i64 (k0 : Int)] w fun e w' => e = .returned (.int .i64 ((k0 + 2 * n : Nat) : Int)) ∧ w.grownBy w' (some g) := by
  go_enter Try.func13, Try.ntmps13
  go_wp2
  go_loopw [1, 5] (fun t i wr => ∃ (k : Nat) (L : List Value), k ≤ n ∧ i = .int .i64 (k : Int) ∧ t = .int .i64 ((k0 : Int) + 2 * k) ∧ wr.ownsRow base 42 2 (.slice (some ⟨g, 0, none⟩) n cap) n L ∧ w.grownBy wr (some g)) (fun _ i _ => n - (intOf i).toNat)
  case atStart => exact ⟨0, L, Nat.zero_le _, rfl, by go_num, hown, World.grownBy.refl _ _⟩
  case round =>
    obtain ⟨k, L, hk, rfl, rfl, how, hgb⟩ := hrel
    by_cases hlt : k < n
    · obtain ⟨u0, e0, t0⟩ := row_at (j := 0) how.1 hlt (by omega)
      have f0 : wr.cell? ⟨g, k * 2, none⟩ = some u0 := (how.cellAt _ t0).trans e0
      have z0 : wr.frozen? ⟨g, k * 2, none⟩ = false := how.frozenAt (k * 2)
      obtain ⟨u1, e1, t1⟩ := row_at (j := 1) how.1 hlt (by omega)
      have f1 : wr.cell? ⟨g, k * 2 + 1, none⟩ = some u1 := (how.cellAt _ t1).trans e1
      have z1 : wr.frozen? ⟨g, k * 2 + 1, none⟩ = false := how.frozenAt (k * 2 + 1)
      have HO := hide (((how.stored (k * 2) (.int .i64 ((k0 : Int) + 2 * k))).1.stored (k * 2 + 1) (.int .i64 ((k0 : Int) + 2 * k + 1))).1)
      have HG := hide (gb_set (gb_set hgb (k * 2) (.int .i64 ((k0 : Int) + 2 * k))) (k * 2 + 1) (.int .i64 ((k0 : Int) + 2 * k + 1)))
      clear how hgb hown e0 t0 e1 t1
      go_wp2
      go_roundw
      case rel => exact ⟨k + 1, _, by omega, by go_num, by go_num, unhide HO, unhide HG⟩
      case measure => simp [intOf]; omega
    · obtain rfl : k = n := by omega
      have HG := hide hgb
      clear hown how hgb
      go_wp2
      go_ret
      exact ⟨ret_num (by omega), unhide HG⟩
/-- Each row with its marks. -/
def markTo (k0 : Nat) : List RowV → List RowV
  | [] => []
  | r :: xs => ⟨r.g, r.cap, marksI k0 r.l.length⟩ :: markTo (k0 + r.l.length) xs
theorem marksI_len (k0 n : Nat) : (marksI k0 n).length = n := by simp [marksI]
theorem markTo_len : ∀ (xs : List RowV) (k0 : Nat), (markTo k0 xs).length = xs.length
  | [], _ => rfl
  | r :: xs, k0 => by simp [markTo, markTo_len xs]
def totR (xs : List RowV) : Nat := (xs.map fun r => r.l.length).sum
theorem totR_step (xs : List RowV) (k : Nat) (h : k < xs.length) : totR (xs.take (k + 1)) = totR (xs.take k) + (xs.getD k default).l.length := by
  unfold totR
  rw [List.take_succ_eq_append_getElem h, List.map_append, List.sum_append]
  congr 1
  simp [h]
theorem totR_le (xs : List RowV) (k : Nat) : totR (xs.take k) ≤ totR xs := by
  unfold totR
  conv => rhs; rw [← List.take_append_drop k xs, List.map_append, List.sum_append]
  omega
/-- Marked up to place k. -/
def markK (k0 : Nat) (xs : List RowV) (k : Nat) : List RowV := markTo k0 (xs.take k) ++ xs.drop k
theorem markK_step : ∀ (xs : List RowV) (k k0 : Nat), k < xs.length → markK k0 xs (k + 1) = (markK k0 xs k).set k ⟨(xs.getD k default).g, (xs.getD k default).cap, marksI (k0 + totR (xs.take k)) (xs.getD k default).l.length⟩
  | [], k, _, h => absurd h (Nat.not_lt_zero _)
  | r :: xs, 0, k0, h => by simp [markK, markTo, totR]
  | r :: xs, k + 1, k0, h => by
    have ih := markK_step xs k (k0 + r.l.length) (by simpa using h)
    unfold markK at ih ⊢
    have e : k0 + totR ((r :: xs).take (k + 1)) = k0 + r.l.length + totR (xs.take k) := by simp [totR]; omega
    rw [e]
    simp only [List.take_succ_cons, markTo, List.drop_succ_cons, List.cons_append, List.set_cons_succ, List.getD_cons_succ]
    rw [ih]
theorem markK_len (k0 : Nat) (xs : List RowV) (k : Nat) (h : k ≤ xs.length) : (markK k0 xs k).length = xs.length := by
  simp [markK, markTo_len]
  omega
theorem markK_get (k0 : Nat) (xs : List RowV) (k : Nat) (h : k < xs.length) : (markK k0 xs k).getD k default = xs.getD k default := by
  have hl : (markTo k0 (xs.take k)).length = k := by rw [markTo_len, List.length_take]; omega
  simp only [markK, List.getD_eq_getElem?_getD]
  rw [List.getElem?_append_right (by omega), hl, Nat.sub_self, List.getElem?_drop, Nat.add_zero]
theorem marked_get : ∀ (xs : List RowV) (k k0 : Nat), k < xs.length → (markTo k0 xs).getD k default = ⟨(xs.getD k default).g, (xs.getD k default).cap, marksI (k0 + totR (xs.take k)) (xs.getD k default).l.length⟩
  | [], k, _, h => absurd h (Nat.not_lt_zero _)
  | r :: xs, 0, k0, h => by simp [markTo, totR]
  | r :: xs, k + 1, k0, h => by
    have ih := marked_get xs k (k0 + r.l.length) (by simpa using h)
    have e : k0 + totR ((r :: xs).take (k + 1)) = k0 + r.l.length + totR (xs.take k) := by simp [totR]; omega
    rw [e]
    simp only [markTo, List.getD_cons_succ]
    exact ih
/-- One row's numbers are others. -/
theorem Own2.reset {w w3 : World} {B g cap k : Nat} {xs : List RowV} {r : RowV} (h : Own2 w B g cap xs) (hk : k < xs.length) (hg : w.grownBy w3 (some (xs.getD k default).g)) (ho : RowV.own w3 B r) (h1 : r.g = (xs.getD k default).g) (h2 : r.val = (xs.getD k default).val) : Own2 w3 B g cap (xs.set k r) := by
  have e : (xs.set k r).map RowV.val = xs.map RowV.val := by
    rw [List.map_set, h2]
    refine List.ext_getElem? fun i => ?_
    by_cases hi : i = k
    · subst hi
      rw [List.getElem?_set_self (by simpa using hk)]
      simp [hk]
    · rw [List.getElem?_set_ne (by omega)]
  refine ⟨?_, ?_⟩
  · rw [List.length_set, e]
    exact h.out.kept hg (Or.inr (fun e => h.rws.far k hk (by injection e with e; exact e.symm)))
  · refine Rws.put (fun i hi hik => (h.rws.row i hi).kept hg (fun e => hik (h.rws.apart i k hi hk (by injection e)))) h.rws.apart h.rws.far ho (fun i hi hik e => hik (h.rws.apart i k hi hk (e.trans h1))) (by rw [h1]; exact h.rws.far k hk)
set_option maxHeartbeats 1000000 in
theorem markIntSS_any (B g cap k0 : Nat) (xs : List RowV) (w : World) (ho : Own2 w B g cap xs) (hn : xs.length ≤ 1048576) (ht : totR xs ≤ 1048576) (hk1 : k0 ≤ 1000000) (hB : B ≤ w.heap.size) :
    Calls Try.prog 15 #[.slice (some ⟨g, 0, none⟩) xs.length cap, .int .i64 (k0 : Int)] w fun e w' => e = .returned (.int .i64 ((k0 + totR xs : Nat) : Int)) ∧ Own2 w' B g cap (markTo k0 xs) ∧ Below B w w' := by
  have HO := hide ho
  clear ho
  go_enter Try.func15, Try.ntmps15
  go_wp2
  go_loopw [1, 5] (fun t i wr => ∃ k : Nat, k ≤ xs.length ∧ i = .int .i64 (k : Int) ∧ t = .int .i64 ((k0 + totR (xs.take k) : Nat) : Int) ∧ Own2 wr B g cap (markK k0 xs k) ∧ Below B w wr) (fun _ i _ => xs.length - (intOf i).toNat)
  case atStart => exact ⟨0, Nat.zero_le _, rfl, rfl, unhide HO, Below.refl _ _⟩
  case round =>
    clear HO
    obtain ⟨k, hk, rfl, rfl, ho, hbel⟩ := hrel
    have HO := hide ho
    have HB := hide hbel
    clear ho hbel
    by_cases hlt : k < xs.length
    case neg =>
      obtain rfl : k = xs.length := by omega
      have e1 : markK k0 xs xs.length = markTo k0 xs := by simp [markK]
      have e2 : xs.take xs.length = xs := List.take_length
      have HE1 := hide e1
      have HE2 := hide e2
      clear e1 e2
      go_wp2
      go_ret
      exact ⟨ret_num (by rw [unhide HE2]), by rw [← unhide HE1]; exact unhide HO, unhide HB⟩
    have hkl : k < (markK k0 xs k).length := by rw [markK_len k0 xs k (by omega)]; exact hlt
    obtain ⟨c1, f1⟩ := (unhide HO).cell k hkl
    have HRW := hide ((unhide HO).rws.row k hkl)
    have HRS := hide (fun (w3 : World) (r : RowV) => (unhide HO).reset (w3 := w3) (r := r) hkl)
    have HST := hide (markK_step xs k k0 hlt)
    have hts := totR_step xs k hlt
    have htl := totR_le xs (k + 1)
    have HTS := hide (show k0 + totR (xs.take k) + (xs.getD k default).l.length = k0 + totR (xs.take (k + 1)) by omega)
    have hsm : k0 + totR (xs.take k) ≤ 100000000 := by omega
    have hll : (xs.getD k default).l.length ≤ 1048577 := by omega
    rw [markK_get k0 xs k hlt] at c1 HRW HRS
    unfold RowV.val at c1
    generalize k0 + totR (xs.take k) = t0 at HTS hsm HST ⊢
    generalize xs.getD k default = r at c1 HRW HRS HST HTS hll
    clear hts htl
    go_wp2_with fail
    refine (markIntS_any B r.g r.l.length r.cap t0 r.l wr (unhide HRW) hll hsm).mono ?_
    rintro e w2 ⟨rfl, ho2, hg2⟩
    have RN : RowV.own w2 B ⟨r.g, r.cap, marksI t0 r.l.length⟩ := by unfold RowV.own; rw [marksI_len]; exact ho2
    have O3 := (unhide HRS) w2 ⟨r.g, r.cap, marksI t0 r.l.length⟩ hg2 RN rfl (by unfold RowV.val; rw [marksI_len])
    rw [← unhide HST] at O3
    have HO3 := hide O3
    have HB3 : Hid (Below B w w2) := (unhide HB).grown hg2 (Nat.le_trans hB (unhide HB).size) (fun b hb => by have := (unhide HRW).lt.1; injection hb with hb; omega)
    clear O3 RN ho2 hg2 HRS HRW c1 f1
    rw [unhide HTS]
    go_wp2_with fail
    go_roundw
    case rel => exact ⟨k + 1, by omega, by go_num, rfl, unhide HO3, unhide HB3⟩
    case measure => simp [intOf]; omega
set_option maxHeartbeats 1000000 in
theorem heldIntSS_any (B g cap k0 : Nat) (xs : List RowV) (w : World) (ho : Own2 w B g cap (markTo k0 xs)) (hn : xs.length ≤ 1048576) (ht : totR xs ≤ 1048576) (hk1 : k0 ≤ 1000000) :
    Calls Try.prog 16 #[.slice (some ⟨g, 0, none⟩) xs.length cap, .int .i64 (k0 : Int)] w fun e w' => e = .returned (.int .i64 ((k0 + totR xs : Nat) : Int)) ∧ w' = w := by
  have HO := hide ho
  clear ho
  go_enter Try.func16, Try.ntmps16
  go_wp2
  go_loop [1, 5] (fun t i => ∃ k : Nat, k ≤ xs.length ∧ i = .int .i64 (k : Int) ∧ t = .int .i64 ((k0 + totR (xs.take k) : Nat) : Int)) (fun _ i => xs.length - (intOf i).toNat)
  case atStart => exact ⟨0, Nat.zero_le _, rfl, rfl⟩
  case round =>
    obtain ⟨k, hk, rfl, rfl⟩ := hrel
    by_cases hlt : k < xs.length
    case neg =>
      obtain rfl : k = xs.length := by omega
      go_wp2
      go_ret
      exact ⟨ret_num (by simp), rfl⟩
    have hkl : k < (markTo k0 xs).length := by rw [markTo_len]; exact hlt
    obtain ⟨c1, f1⟩ := (unhide HO).cell k hkl
    have HRD := hide (own_reads ((unhide HO).rws.row k hkl))
    have hts := totR_step xs k hlt
    have htl := totR_le xs (k + 1)
    have HTS := hide (show k0 + totR (xs.take k) + (xs.getD k default).l.length = k0 + totR (xs.take (k + 1)) by omega)
    have hsm : k0 + totR (xs.take k) ≤ 100000000 := by omega
    have hll : (xs.getD k default).l.length ≤ 1048577 := by omega
    rw [marked_get xs k k0 hlt] at c1 HRD
    unfold RowV.val at c1
    simp only [marksI_len] at c1 HRD
    generalize k0 + totR (xs.take k) = t0 at HTS hsm c1 HRD ⊢
    generalize xs.getD k default = r at c1 HRD HTS hll
    clear hts htl
    go_wp2_with fail
    refine (heldIntS_any (some ⟨r.g, 0, none⟩) r.l.length r.cap t0 w (unhide HRD) hll hsm).mono ?_
    rintro e w2 ⟨rfl, hw⟩
    subst w2
    have hneg : ¬ ((t0 + r.l.length : Nat) : Int) < 0 := by omega
    have HTS2 := hide (congrArg (fun (n : Nat) => Value.int .i64 (n : Int)) (unhide HTS))
    go_wp2_with fail
    go_round
    case rel => exact ⟨k + 1, by omega, by go_num, unhide HTS2⟩
    case measure => simp [intOf]; omega
end Go.Proofs.Ytmjohalblppgiab
