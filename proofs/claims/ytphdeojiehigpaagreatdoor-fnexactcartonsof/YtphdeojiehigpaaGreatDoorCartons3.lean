/- The laws' marks over rows of cartons. -/
import Derived.Test.YtphdeojiehigpaaGreatDoorPkK
import Derived.Test.YtphdeojiehigpaaGreatDoorPkE
namespace Go.Proofs.YtphdeojiehigpaaGreatDoor
open Go.RowKit
set_option linter.unusedVariables false

/-- Each carton with its marks. -/
def markC (k0 : Nat) : List CRow → List CRow
  | [] => []
  | r :: xs => ⟨(k0 : Nat), ((k0 + 1 : Nat) : Int), r.g, r.cap, marksI (k0 + 2) r.l.length⟩ :: markC (k0 + 2 + r.l.length) xs
theorem markC_len : ∀ (xs : List CRow) (k0 : Nat), (markC k0 xs).length = xs.length
  | [], _ => rfl
  | r :: xs, k0 => by simp [markC, markC_len xs]
def totX (xs : List CRow) : Nat := (xs.map fun r => r.l.length + 2).sum
theorem totX_step (xs : List CRow) (k : Nat) (h : k < xs.length) : totX (xs.take (k + 1)) = totX (xs.take k) + ((xs.getD k default).l.length + 2) := by
  unfold totX
  rw [List.take_succ_eq_append_getElem h, List.map_append, List.sum_append]
  congr 1
  simp [h]
theorem totX_le (xs : List CRow) (k : Nat) : totX (xs.take k) ≤ totX xs := by
  unfold totX
  conv => rhs; rw [← List.take_append_drop k xs, List.map_append, List.sum_append]
  omega
def markCK (k0 : Nat) (xs : List CRow) (k : Nat) : List CRow := markC k0 (xs.take k) ++ xs.drop k
theorem markCK_step : ∀ (xs : List CRow) (k k0 : Nat), k < xs.length → markCK k0 xs (k + 1) = (markCK k0 xs k).set k ⟨((k0 + totX (xs.take k) : Nat) : Int), ((k0 + totX (xs.take k) + 1 : Nat) : Int), (xs.getD k default).g, (xs.getD k default).cap, marksI (k0 + totX (xs.take k) + 2) (xs.getD k default).l.length⟩
  | [], k, _, h => absurd h (Nat.not_lt_zero _)
  | r :: xs, 0, k0, h => by simp [markCK, markC, totX]
  | r :: xs, k + 1, k0, h => by
    have ih := markCK_step xs k (k0 + 2 + r.l.length) (by simpa using h)
    unfold markCK at ih ⊢
    have e : k0 + totX ((r :: xs).take (k + 1)) = k0 + 2 + r.l.length + totX (xs.take k) := by simp [totX]; omega
    rw [e]
    simp only [List.take_succ_cons, markC, List.drop_succ_cons, List.cons_append, List.set_cons_succ, List.getD_cons_succ]
    rw [ih]
theorem markCK_len (k0 : Nat) (xs : List CRow) (k : Nat) (h : k ≤ xs.length) : (markCK k0 xs k).length = xs.length := by
  simp [markCK, markC_len]
  omega
theorem markCK_get (k0 : Nat) (xs : List CRow) (k : Nat) (h : k < xs.length) : (markCK k0 xs k).getD k default = xs.getD k default := by
  have hl : (markC k0 (xs.take k)).length = k := by rw [markC_len, List.length_take]; omega
  simp only [markCK, List.getD_eq_getElem?_getD]
  rw [List.getElem?_append_right (by omega), hl, Nat.sub_self, List.getElem?_drop, Nat.add_zero]
theorem markedC_get : ∀ (xs : List CRow) (k k0 : Nat), k < xs.length → (markC k0 xs).getD k default = ⟨((k0 + totX (xs.take k) : Nat) : Int), ((k0 + totX (xs.take k) + 1 : Nat) : Int), (xs.getD k default).g, (xs.getD k default).cap, marksI (k0 + totX (xs.take k) + 2) (xs.getD k default).l.length⟩
  | [], k, _, h => absurd h (Nat.not_lt_zero _)
  | r :: xs, 0, k0, h => by simp [markC, totX]
  | r :: xs, k + 1, k0, h => by
    have ih := markedC_get xs k (k0 + 2 + r.l.length) (by simpa using h)
    have e : k0 + totX ((r :: xs).take (k + 1)) = k0 + 2 + r.l.length + totX (xs.take k) := by simp [totX]; omega
    rw [e]
    simp only [markC, List.getD_cons_succ]
    exact ih
theorem map_row_set (xs : List CRow) (k : Nat) (r : CRow) (hk : k < xs.length) (h1 : r.row = (xs.getD k default).row) : (xs.set k r).map CRow.row = xs.map CRow.row := by
  rw [List.map_set, h1]
  refine List.ext_getElem? fun i => ?_
  by_cases hi : i = k
  · subst hi
    rw [List.getElem?_set_self (by simpa using hk)]
    simp [hk]
  · rw [List.getElem?_set_ne (by omega)]
/-- A carton's two numbers are others. -/
theorem OwnC.nums {w : World} {B g cap k : Nat} {xs : List CRow} {t p : Int} (h : OwnC w B g cap xs) (hk : k < xs.length) :
    OwnC ((w.setCell ⟨g, k * 3, none⟩ (.int .i64 t)).setCell ⟨g, k * 3 + 1, none⟩ (.int .i64 p)) B g cap (xs.set k ⟨t, p, (xs.getD k default).g, (xs.getD k default).cap, (xs.getD k default).l⟩) := by
  obtain ⟨r', hr'⟩ : ∃ r' : CRow, r' = ⟨t, p, (xs.getD k default).g, (xs.getD k default).cap, (xs.getD k default).l⟩ := ⟨_, rfl⟩
  have hrow : r'.row = (xs.getD k default).row := by rw [hr']; rfl
  have h0 : r'.cells[0]? = some (.int .i64 t) := by rw [hr']; rfl
  have h1 : r'.cells[1]? = some (.int .i64 p) := by rw [hr']; rfl
  have h2 : r'.cells[2]? = ((xs.getD k default).cells)[2]? := by rw [hr']; rfl
  rw [← hr']
  have hout := ((h.out.stored (k * 3) (.int .i64 t)).1.stored (k * 3 + 1) (.int .i64 p)).1
  have hL : ((cellsC xs).set (k * 3) (Value.int .i64 t)).set (k * 3 + 1) (.int .i64 p) = cellsC (xs.set k r') := by
    refine rowsC_all (n := xs.length) (by simp) (by simp [cellsC_len]) fun i hi j hj => ?_
    have hlen := cellsC_len xs
    have h3 : (k + 1) * 3 ≤ xs.length * 3 := Nat.mul_le_mul_right 3 hk
    by_cases e : i = k
    · subst e
      rw [getD_put_eq hi]
      obtain rfl | rfl | rfl : j = 0 ∨ j = 1 ∨ j = 2 := by omega
      · rw [List.getElem?_set_ne (by omega), Nat.add_zero, List.getElem?_set_self (by omega), h0]
      · rw [List.getElem?_set_self (by rw [List.length_set]; omega), h1]
      · rw [List.getElem?_set_ne (by omega), List.getElem?_set_ne (by omega), cellsC_at xs i 2 hi (by omega), h2]
    · rw [getD_put_ne (fun x => e x.symm), List.getElem?_set_ne (by omega), List.getElem?_set_ne (by omega), cellsC_at xs i j hi hj]
  refine ⟨?_, ?_⟩
  · rw [List.length_set, ← hL]
    exact hout
  · rw [map_row_set xs k r' hk hrow]
    exact h.rws.kept (gb_set (gb_set (World.grownBy.refl _ (some g)) _ _) _ _) (fun i hi e => h.rws.far i hi (by injection e))
/-- A carton's units are others. -/
theorem OwnC.reset {w w3 : World} {B g cap k : Nat} {xs : List CRow} {M : List Int} (h : OwnC w B g cap xs) (hk : k < xs.length) (hg : w.grownBy w3 (some (xs.getD k default).g)) (ho : RowV.own w3 B ⟨(xs.getD k default).g, (xs.getD k default).cap, M⟩) (hM : M.length = (xs.getD k default).l.length) :
    OwnC w3 B g cap (xs.set k ⟨(xs.getD k default).ty, (xs.getD k default).grp, (xs.getD k default).g, (xs.getD k default).cap, M⟩) := by
  obtain ⟨r', hr'⟩ : ∃ r' : CRow, r' = ⟨(xs.getD k default).ty, (xs.getD k default).grp, (xs.getD k default).g, (xs.getD k default).cap, M⟩ := ⟨_, rfl⟩
  have hc : r'.cells = (xs.getD k default).cells := by rw [hr']; simp [CRow.cells, hM]
  have hr2 : r'.row = ⟨(xs.getD k default).g, (xs.getD k default).cap, M⟩ := by rw [hr']; rfl
  rw [← hr2] at ho
  have hgr : r'.row.g = (xs.getD k default).g := by rw [hr2]
  rw [← hr']
  have hfar := h.rws.far k (by simpa using hk)
  rw [getD_map_row xs k hk] at hfar
  have hL : cellsC xs = cellsC (xs.set k r') := by
    refine rowsC_all (n := xs.length) (by simp) (cellsC_len xs) fun i hi j hj => ?_
    rw [cellsC_at xs i j hi hj]
    by_cases e : i = k
    · subst e; rw [getD_put_eq hi, hc]
    · rw [getD_put_ne (fun x => e x.symm)]
  have hap : ∀ i, i < (xs.map CRow.row).length → i ≠ k → ((xs.map CRow.row).getD i default).g ≠ (xs.getD k default).g := fun i hi hne x => hne (h.rws.apart i k hi (by simpa using hk) (by rw [getD_map_row xs k hk]; exact x))
  refine ⟨?_, ?_⟩
  · rw [List.length_set, ← hL]
    exact h.out.kept hg (Or.inr (fun e => hfar (by injection e with e; exact e.symm)))
  · rw [List.map_set]
    exact Rws.put (fun i hi hik => (h.rws.row i hi).kept hg (fun e => hap i hi hik (by injection e))) h.rws.apart h.rws.far ho (fun i hi hik e => hap i hi hik (e.trans hgr)) (by rw [hgr]; exact hfar)
set_option maxHeartbeats 1000000 in
theorem markCartonS_any (B g cap k0 : Nat) (xs : List CRow) (w : World) (ho : OwnC w B g cap xs) (hn : xs.length ≤ 1048576) (ht : totX xs ≤ 1048576) (hk1 : k0 ≤ 1000000) (hB : B ≤ w.heap.size) :
    Calls Tryz.prog 29 #[.slice (some ⟨g, 0, none⟩) xs.length cap, .int .i64 (k0 : Int)] w fun e w' => e = .returned (.int .i64 ((k0 + totX xs : Nat) : Int)) ∧ OwnC w' B g cap (markC k0 xs) ∧ Below B w w' := by
  have HO := hide ho
  clear ho
  go_enter Tryz.func29, Tryz.ntmps29
  go_wp2
  go_loopw [1, 5] (fun t i wr => ∃ k : Nat, k ≤ xs.length ∧ i = .int .i64 (k : Int) ∧ t = .int .i64 ((k0 + totX (xs.take k) : Nat) : Int) ∧ OwnC wr B g cap (markCK k0 xs k) ∧ Below B w wr) (fun _ i _ => xs.length - (intOf i).toNat)
  case atStart => exact ⟨0, Nat.zero_le _, rfl, rfl, unhide HO, Below.refl _ _⟩
  case round =>
    clear HO
    obtain ⟨k, hk, rfl, rfl, ho, hbel⟩ := hrel
    have HO := hide ho
    have HB := hide hbel
    clear ho hbel
    by_cases hlt : k < xs.length
    case neg =>
      obtain rfl : k = xs.length := by omega
      have HE1 : Hid (markCK k0 xs xs.length = markC k0 xs) := by simp [Hid, markCK]
      have HE2 : Hid (xs.take xs.length = xs) := List.take_length
      go_wp2
      go_ret
      exact ⟨ret_num (by rw [unhide HE2]), by rw [← unhide HE1]; exact unhide HO, unhide HB⟩
    have hkl : k < (markCK k0 xs k).length := by rw [markCK_len k0 xs k (by omega)]; exact hlt
    have hc0 := HO.out.cell k hkl 0 (by omega)
    have hc1 := HO.out.cell k hkl 1 (by omega)
    have hc2 := HO.out.cell k hkl 2 (by omega)
    have HST := hide (markCK_step xs k k0 hlt)
    have HGT := hide (markCK_get k0 xs k hlt)
    have hts := totX_step xs k hlt
    have htl := totX_le xs (k + 1)
    have HTS := hide (show k0 + totX (xs.take k) + 2 + (xs.getD k default).l.length = k0 + totX (xs.take (k + 1)) by omega)
    have hsm : k0 + totX (xs.take k) ≤ 90000000 := by omega
    have hll : (xs.getD k default).l.length ≤ 1048577 := by omega
    have hrow := HO.out.rowAt k hkl
    rw [unhide HGT] at hrow
    rw [unhide HGT] at hc0 hc1 hc2
    have HNU := hide (HO.out.nums (t := ((k0 + totX (xs.take k) : Nat) : Int)) (p := ((k0 + totX (xs.take k) + 1 : Nat) : Int)) hkl)
    rw [unhide HGT] at HNU
    generalize k0 + totX (xs.take k) = t0 at HTS hsm HST HNU ⊢
    generalize xs.getD k default = r at hc0 hc1 hc2 HST HTS hll HNU hrow
    have hrB : B ≤ r.g := hrow.lt.1
    have d0 : wr.cell? ⟨g, k * 3, none⟩ = some (.int .i64 r.ty) := hc0.1
    have z0 : wr.frozen? ⟨g, k * 3, none⟩ = false := hc0.2
    have d1 : wr.cell? ⟨g, k * 3 + 1, none⟩ = some (.int .i64 r.grp) := hc1.1
    have z1 : wr.frozen? ⟨g, k * 3 + 1, none⟩ = false := hc1.2
    have d2 : wr.cell? ⟨g, k * 3 + 2, none⟩ = some (.slice (some ⟨r.g, 0, none⟩) r.l.length r.cap) := hc2.1
    have hBg : B ≤ g := own_base HO.out.out
    have hkl2 : k < ((markCK k0 xs k).set k ⟨((t0 : Nat) : Int), ((t0 + 1 : Nat) : Int), r.g, r.cap, r.l⟩).length := by rw [List.length_set]; exact hkl
    have HKL := hide hkl2
    have HGQ := hide (getD_put_eq (d := (default : CRow)) (r := (⟨((t0 : Nat) : Int), ((t0 + 1 : Nat) : Int), r.g, r.cap, r.l⟩ : CRow)) hkl)
    have HSS : Hid (((markCK k0 xs k).set k ⟨((t0 : Nat) : Int), ((t0 + 1 : Nat) : Int), r.g, r.cap, r.l⟩).set k ⟨((t0 : Nat) : Int), ((t0 + 1 : Nat) : Int), r.g, r.cap, marksI (t0 + 2) r.l.length⟩ = markCK k0 xs (k + 1)) := by rw [Hid, List.set_set, unhide HST]
    have HB1 : Hid (Below B w ((wr.setCell ⟨g, k * 3, none⟩ (.int .i64 ((t0 : Nat) : Int))).setCell ⟨g, k * 3 + 1, none⟩ (.int .i64 ((t0 + 1 : Nat) : Int)))) := (HB.out.setCell hBg _).setCell hBg _
    have hE1 : ((t0 + 1 : Nat) : Int) = (t0 : Int) + 1 := by omega
    have hE2 : ((t0 + 2 : Nat) : Int) = (t0 : Int) + 1 + 1 := by omega
    rw [hE1] at HNU HB1 HKL HGQ HSS
    have HE2 := hide hE2
    have HUR := hide (HNU.out.rowAt k HKL.out)
    rw [unhide HGQ] at HUR
    clear hts htl hkl hkl2 hc0 hc1 hc2 HO HB HST HGT hE1 hE2 hrow
    go_wp2_with fail
    rw [← unhide HE2]
    refine (markIntS_any B r.g r.l.length r.cap (t0 + 2) r.l _ HUR.out hll (by omega)).mono ?_
    rintro e w2 ⟨rfl, ho2, hg2⟩
    have RN : RowV.own w2 B ⟨r.g, r.cap, marksI (t0 + 2) r.l.length⟩ := by unfold RowV.own; rw [marksI_len]; exact ho2
    have O3 := fun (w3 : World) (M : List Int) => OwnC.reset (w3 := w3) (M := M) HNU.out HKL.out
    simp only [unhide HGQ] at O3
    have O4 := O3 w2 _ hg2 RN (marksI_len _ _)
    rw [unhide HSS] at O4
    have HO4 := hide O4
    have HB4 : Hid (Below B w w2) := HB1.out.grown hg2 (Nat.le_trans hB HB1.out.size) (fun b hb => by injection hb with hb; omega)
    clear O3 O4 RN ho2 hg2 HNU HUR HB1 d0 d1 d2 z0 z1
    rw [unhide HTS]
    go_wp2_with fail
    go_roundw
    case rel => exact ⟨k + 1, by omega, by go_num, rfl, unhide HO4, unhide HB4⟩
    case measure => simp [intOf]; omega
set_option maxHeartbeats 1000000 in
theorem heldCartonS_any (B g cap k0 : Nat) (xs : List CRow) (w : World) (ho : OwnC w B g cap (markC k0 xs)) (hn : xs.length ≤ 1048576) (ht : totX xs ≤ 1048576) (hk1 : k0 ≤ 1000000) :
    Calls Tryz.prog 30 #[.slice (some ⟨g, 0, none⟩) xs.length cap, .int .i64 (k0 : Int)] w fun e w' => e = .returned (.int .i64 ((k0 + totX xs : Nat) : Int)) ∧ w' = w := by
  have HO := hide ho
  clear ho
  go_enter Tryz.func30, Tryz.ntmps30
  go_wp2
  go_loop [1, 5] (fun t i => ∃ k : Nat, k ≤ xs.length ∧ i = .int .i64 (k : Int) ∧ t = .int .i64 ((k0 + totX (xs.take k) : Nat) : Int)) (fun _ i => xs.length - (intOf i).toNat)
  case atStart => exact ⟨0, Nat.zero_le _, rfl, rfl⟩
  case round =>
    obtain ⟨k, hk, rfl, rfl⟩ := hrel
    by_cases hlt : k < xs.length
    case neg =>
      obtain rfl : k = xs.length := by omega
      go_wp2
      go_ret
      exact ⟨ret_num (by simp), rfl⟩
    have hkl : k < (markC k0 xs).length := by rw [markC_len]; exact hlt
    have hc0 := HO.out.cell k hkl 0 (by omega)
    have hc1 := HO.out.cell k hkl 1 (by omega)
    have hc2 := HO.out.cell k hkl 2 (by omega)
    have HRD := hide (own_reads (HO.out.rowAt k hkl))
    have hts := totX_step xs k hlt
    have htl := totX_le xs (k + 1)
    have HTS := hide (show k0 + totX (xs.take k) + 2 + (xs.getD k default).l.length = k0 + totX (xs.take (k + 1)) by omega)
    have hsm : k0 + totX (xs.take k) ≤ 90000000 := by omega
    have hll : (xs.getD k default).l.length ≤ 1048577 := by omega
    rw [markedC_get xs k k0 hlt] at hc0 hc1 hc2 HRD
    generalize k0 + totX (xs.take k) = t0 at HTS hsm hc0 hc1 hc2 HRD ⊢
    generalize xs.getD k default = r at hc0 hc1 hc2 HRD HTS hll
    have hE1 : ((t0 + 1 : Nat) : Int) = (t0 : Int) + 1 := by omega
    have d0 : w.cell? ⟨g, k * 3, none⟩ = some (.int .i64 (t0 : Int)) := hc0.1
    have d1 : w.cell? ⟨g, k * 3 + 1, none⟩ = some (.int .i64 ((t0 : Int) + 1)) := by rw [← hE1]; exact hc1.1
    have d2 : w.cell? ⟨g, k * 3 + 2, none⟩ = some (.slice (some ⟨r.g, 0, none⟩) r.l.length r.cap) := by have := hc2.1; simpa [CRow.cells, marksI_len] using this
    have HRE : Hid (Rd w (some ⟨r.g, 0, none⟩) r.l.length (marksI (t0 + 2) r.l.length)) := by have := unhide HRD; unfold Hid; simpa [CRow.row, marksI_len] using this
    have HE2 : Hid (((t0 + 2 : Nat) : Int) = (t0 : Int) + 1 + 1) := by unfold Hid; omega
    have hne : ((t0 : Int) != (t0 : Int)) = false := by simp
    have hne2 : ((t0 : Int) + 1 != (t0 : Int) + 1) = false := by simp
    clear hts htl hc0 hc1 hc2 HRD hE1 hkl
    go_wp2_with fail
    rw [← unhide HE2]
    refine (heldIntS_any (some ⟨r.g, 0, none⟩) r.l.length r.cap (t0 + 2) w HRE.out hll (by omega)).mono ?_
    rintro e w2 ⟨rfl, hw⟩
    subst w2
    rw [unhide HTS]
    have hneg : ¬ ((k0 + totX (xs.take (k + 1)) : Nat) : Int) < 0 := by omega
    generalize HQ : k0 + totX (xs.take (k + 1)) = t1 at hneg ⊢
    have HQ2 := hide HQ
    clear HQ HTS
    go_wp2_with fail
    go_round
    case rel => exact ⟨k + 1, by omega, by go_num, by rw [unhide HQ2]⟩
    case measure => simp [intOf]; omega
end Go.Proofs.YtphdeojiehigpaaGreatDoor
