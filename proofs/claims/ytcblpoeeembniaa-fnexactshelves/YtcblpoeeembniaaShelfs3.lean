/- The laws' marks over rows of them. -/
import Derived.Test.YtcblpoeeembniaaShelfs2
import Derived.Test.YtcblpoeeembniaaMarks2
namespace Go.Proofs.Ytcblpoeeembniaa
open Go.RowKit
set_option linter.unusedVariables false

/-- Each with its marks. -/
def markShelf (k0 : Nat) : List ShelfW → List ShelfW
 | [] => []
 | r :: xs => ⟨r.g, r.cap, marksI k0 r.l.length, ((k0 + r.l.length + 0 : Nat) : Int), ((k0 + r.l.length + 1 : Nat) : Int), ((k0 + r.l.length + 2 : Nat) : Int), ((k0 + r.l.length + 3 : Nat) : Int)⟩ :: markShelf (k0 + r.l.length + 4) xs
theorem markShelf_len : ∀ (xs : List ShelfW) (k0 : Nat), (markShelf k0 xs).length = xs.length
 | [], _ => rfl
 | r :: xs, k0 => by simp [markShelf, markShelf_len xs]
def totXShelf (xs : List ShelfW) : Nat := (xs.map fun r => r.l.length + 4).sum
theorem totXShelf_step (xs : List ShelfW) (k : Nat) (h : k < xs.length) : totXShelf (xs.take (k + 1)) = totXShelf (xs.take k) + ((xs.getD k default).l.length + 4) := by
 unfold totXShelf
 rw [List.take_succ_eq_append_getElem h, List.map_append, List.sum_append]
 congr 1
 simp [h]
theorem totXShelf_le (xs : List ShelfW) (k : Nat) : totXShelf (xs.take k) ≤ totXShelf xs := by
 unfold totXShelf
 conv => rhs; rw [← List.take_append_drop k xs, List.map_append, List.sum_append]
 omega
def markKShelf (k0 : Nat) (xs : List ShelfW) (k : Nat) : List ShelfW := markShelf k0 (xs.take k) ++ xs.drop k
theorem markKShelf_step : ∀ (xs : List ShelfW) (k k0 : Nat), k < xs.length → markKShelf k0 xs (k + 1) = (markKShelf k0 xs k).set k ⟨(xs.getD k default).g, (xs.getD k default).cap, marksI (k0 + totXShelf (xs.take k)) (xs.getD k default).l.length, ((k0 + totXShelf (xs.take k) + (xs.getD k default).l.length + 0 : Nat) : Int), ((k0 + totXShelf (xs.take k) + (xs.getD k default).l.length + 1 : Nat) : Int), ((k0 + totXShelf (xs.take k) + (xs.getD k default).l.length + 2 : Nat) : Int), ((k0 + totXShelf (xs.take k) + (xs.getD k default).l.length + 3 : Nat) : Int)⟩
 | [], k, _, h => absurd h (Nat.not_lt_zero _)
 | r :: xs, 0, k0, h => by simp [markKShelf, markShelf, totXShelf]
 | r :: xs, k + 1, k0, h => by
  have ih := markKShelf_step xs k (k0 + r.l.length + 4) (by simpa using h)
  unfold markKShelf at ih ⊢
  have e : k0 + totXShelf ((r :: xs).take (k + 1)) = k0 + r.l.length + 4 + totXShelf (xs.take k) := by simp [totXShelf]; omega
  rw [e]
  simp only [List.take_succ_cons, markShelf, List.drop_succ_cons, List.cons_append, List.set_cons_succ, List.getD_cons_succ]
  rw [ih]
theorem markKShelf_len (k0 : Nat) (xs : List ShelfW) (k : Nat) (h : k ≤ xs.length) : (markKShelf k0 xs k).length = xs.length := by
 simp [markKShelf, markShelf_len]
 omega
theorem markKShelf_get (k0 : Nat) (xs : List ShelfW) (k : Nat) (h : k < xs.length) : (markKShelf k0 xs k).getD k default = xs.getD k default := by
 have hl : (markShelf k0 (xs.take k)).length = k := by rw [markShelf_len, List.length_take]; omega
 simp only [markKShelf, List.getD_eq_getElem?_getD]
 rw [List.getElem?_append_right (by omega), hl, Nat.sub_self, List.getElem?_drop, Nat.add_zero]
theorem markShelf_get : ∀ (xs : List ShelfW) (k k0 : Nat), k < xs.length → (markShelf k0 xs).getD k default = ⟨(xs.getD k default).g, (xs.getD k default).cap, marksI (k0 + totXShelf (xs.take k)) (xs.getD k default).l.length, ((k0 + totXShelf (xs.take k) + (xs.getD k default).l.length + 0 : Nat) : Int), ((k0 + totXShelf (xs.take k) + (xs.getD k default).l.length + 1 : Nat) : Int), ((k0 + totXShelf (xs.take k) + (xs.getD k default).l.length + 2 : Nat) : Int), ((k0 + totXShelf (xs.take k) + (xs.getD k default).l.length + 3 : Nat) : Int)⟩
 | [], k, _, h => absurd h (Nat.not_lt_zero _)
 | r :: xs, 0, k0, h => by simp [markShelf, totXShelf]
 | r :: xs, k + 1, k0, h => by
  have ih := markShelf_get xs k (k0 + r.l.length + 4) (by simpa using h)
  have e : k0 + totXShelf ((r :: xs).take (k + 1)) = k0 + r.l.length + 4 + totXShelf (xs.take k) := by simp [totXShelf]; omega
  rw [e]
  simp only [markShelf, List.getD_cons_succ]
  exact ih
theorem ShelfW.map_row_set (xs : List ShelfW) (k : Nat) (r : ShelfW) (hk : k < xs.length) (h1 : r.row = (xs.getD k default).row) : (xs.set k r).map ShelfW.row = xs.map ShelfW.row := by
 rw [List.map_set, h1]
 refine List.ext_getElem? fun i => ?_
 by_cases hi : i = k
 · subst hi
   rw [List.getElem?_set_self (by simpa using hk)]
   simp [hk]
 · rw [List.getElem?_set_ne (by omega)]
/-- Its numbers are others. -/
theorem OwnShelf.nums {w : World} {B g cap k : Nat} {xs : List ShelfW} {p0 p1 p2 p3 : Int} (h : OwnShelf w B g cap xs) (hk : k < xs.length) :
 OwnShelf ((((w.setCell ⟨g, k * 5 + 1, none⟩ (.int .i64 p0)).setCell ⟨g, k * 5 + 2, none⟩ (.int .i64 p1)).setCell ⟨g, k * 5 + 3, none⟩ (.int .i64 p2)).setCell ⟨g, k * 5 + 4, none⟩ (.int .i64 p3)) B g cap (xs.set k ⟨(xs.getD k default).g, (xs.getD k default).cap, (xs.getD k default).l, p0, p1, p2, p3⟩) := by
 obtain ⟨r', hr'⟩ : ∃ r' : ShelfW, r' = ⟨(xs.getD k default).g, (xs.getD k default).cap, (xs.getD k default).l, p0, p1, p2, p3⟩ := ⟨_, rfl⟩
 have hrow : r'.row = (xs.getD k default).row := by rw [hr']; rfl
 have h0 : r'.cells[0]? = ((xs.getD k default).cells)[0]? := by rw [hr']; rfl
 have h1 : r'.cells[1]? = some (.int .i64 p0) := by rw [hr']; rfl
 have h2 : r'.cells[2]? = some (.int .i64 p1) := by rw [hr']; rfl
 have h3 : r'.cells[3]? = some (.int .i64 p2) := by rw [hr']; rfl
 have h4 : r'.cells[4]? = some (.int .i64 p3) := by rw [hr']; rfl
 rw [← hr']
 have hout := ((((h.out.stored (k * 5 + 1) (.int .i64 p0)).1.stored (k * 5 + 2) (.int .i64 p1)).1.stored (k * 5 + 3) (.int .i64 p2)).1.stored (k * 5 + 4) (.int .i64 p3)).1
 have hL : (((((cellsShelf xs).set (k * 5 + 1) (Value.int .i64 p0)).set (k * 5 + 2) (Value.int .i64 p1)).set (k * 5 + 3) (Value.int .i64 p2)).set (k * 5 + 4) (Value.int .i64 p3)) = cellsShelf (xs.set k r') := by
  refine rowsShelf_all (n := xs.length) (by simp) (by simp [cellsShelf_len]) fun i hi j hj => ?_
  have hlen := cellsShelf_len xs
  have hle3 : (k + 1) * 5 ≤ xs.length * 5 := Nat.mul_le_mul_right 5 hk
  by_cases e : i = k
  · subst e
    rw [getD_put_eq hi]
    obtain rfl | rfl | rfl | rfl | rfl : j = 0 ∨ j = 1 ∨ j = 2 ∨ j = 3 ∨ j = 4 := by omega
    · rw [List.getElem?_set_ne (by omega), List.getElem?_set_ne (by omega), List.getElem?_set_ne (by omega), List.getElem?_set_ne (by omega), cellsShelf_at xs i 0 hi (by omega), h0]
    · rw [List.getElem?_set_ne (by omega), List.getElem?_set_ne (by omega), List.getElem?_set_ne (by omega), List.getElem?_set_self (by (try simp only [List.length_set]); omega), h1]
    · rw [List.getElem?_set_ne (by omega), List.getElem?_set_ne (by omega), List.getElem?_set_self (by (try simp only [List.length_set]); omega), h2]
    · rw [List.getElem?_set_ne (by omega), List.getElem?_set_self (by (try simp only [List.length_set]); omega), h3]
    · rw [List.getElem?_set_self (by (try simp only [List.length_set]); omega), h4]
  · rw [getD_put_ne (fun x => e x.symm), List.getElem?_set_ne (by omega), List.getElem?_set_ne (by omega), List.getElem?_set_ne (by omega), List.getElem?_set_ne (by omega), cellsShelf_at xs i j hi hj]
 refine ⟨?_, ?_⟩
 · rw [List.length_set, ← hL]
   exact hout
 · rw [ShelfW.map_row_set xs k r' hk hrow]
   exact h.rws.kept (gb_set (gb_set (gb_set (gb_set (World.grownBy.refl _ (some g)) _ _) _ _) _ _) _ _) (fun i hi e => h.rws.far i hi (by injection e))
/-- Its list has turned. -/
theorem OwnShelf.reset {w w3 : World} {B g cap k : Nat} {xs : List ShelfW} {M : List Int} (h : OwnShelf w B g cap xs) (hk : k < xs.length) (hg : w.grownBy w3 (some (xs.getD k default).g)) (ho : RowV.own w3 B ⟨(xs.getD k default).g, (xs.getD k default).cap, M⟩) (hM : M.length = (xs.getD k default).l.length) :
 OwnShelf w3 B g cap (xs.set k ⟨(xs.getD k default).g, (xs.getD k default).cap, M, (xs.getD k default).wd, (xs.getD k default).dp, (xs.getD k default).ht, (xs.getD k default).gram⟩) := by
 obtain ⟨r', hr'⟩ : ∃ r' : ShelfW, r' = ⟨(xs.getD k default).g, (xs.getD k default).cap, M, (xs.getD k default).wd, (xs.getD k default).dp, (xs.getD k default).ht, (xs.getD k default).gram⟩ := ⟨_, rfl⟩
 have hc : r'.cells = (xs.getD k default).cells := by rw [hr']; simp [ShelfW.cells, hM]
 have ho : RowV.own w3 B r'.row := by rw [hr']; exact ho
 have hgr : r'.row.g = (xs.getD k default).g := by rw [hr']; rfl
 rw [← hr']
 have hfar := h.rws.far k (by simpa using hk)
 rw [ShelfW.getD_row xs k hk] at hfar
 have hL : cellsShelf xs = cellsShelf (xs.set k r') := by
  refine rowsShelf_all (n := xs.length) (by simp) (cellsShelf_len xs) fun i hi j hj => ?_
  rw [cellsShelf_at xs i j hi hj]
  by_cases e : i = k
  · subst e; rw [getD_put_eq hi, hc]
  · rw [getD_put_ne (fun x => e x.symm)]
 have hap : ∀ i, i < (xs.map ShelfW.row).length → i ≠ k → ((xs.map ShelfW.row).getD i default).g ≠ (xs.getD k default).g := fun i hi hne x => hne (h.rws.apart i k hi (by simpa using hk) (by rw [ShelfW.getD_row xs k hk]; exact x))
 refine ⟨?_, ?_⟩
 · rw [List.length_set, ← hL]
   exact h.out.kept hg (Or.inr (fun e => hfar (by injection e with e; exact e.symm)))
 · rw [List.map_set]
   exact Rws.put (fun i hi hik => (h.rws.row i hi).kept hg (fun e => hap i hi hik (by injection e))) h.rws.apart h.rws.far ho (fun i hi hik e => hap i hi hik (e.trans hgr)) (by rw [hgr]; exact hfar)
set_option maxHeartbeats 1000000 in
theorem markShelfS_any (B g cap k0 : Nat) (xs : List ShelfW) (w : World) (ho : OwnShelf w B g cap xs) (hn : xs.length ≤ 1048576) (ht : totXShelf xs ≤ 8000000) (hk1 : k0 ≤ 1000000) (hB : B ≤ w.heap.size) (hll : ∀ k, k < xs.length → (xs.getD k default).l.length ≤ 1048577) :
 Calls Try.prog 25 #[.slice (some ⟨g, 0, none⟩) xs.length cap, .int .i64 (k0 : Int)] w fun e w' => e = .returned (.int .i64 ((k0 + totXShelf xs : Nat) : Int)) ∧ OwnShelf w' B g cap (markShelf k0 xs) ∧ Below B w w' := by
 have HO := hide ho
 have HLL : Hid (∀ k, k < xs.length → (xs.getD k default).l.length ≤ 1048577) := hll
 clear ho hll
 go_enter Try.func25, Try.ntmps25
 go_wp2
 go_loopw [1, 5] (fun t i wr => ∃ k : Nat, k ≤ xs.length ∧ i = .int .i64 (k : Int) ∧ t = .int .i64 ((k0 + totXShelf (xs.take k) : Nat) : Int) ∧ OwnShelf wr B g cap (markKShelf k0 xs k) ∧ Below B w wr) (fun _ i _ => xs.length - (intOf i).toNat)
 case atStart => exact ⟨0, Nat.zero_le _, rfl, rfl, unhide HO, Below.refl _ _⟩
 case round =>
  clear HO
  obtain ⟨k, hk, rfl, rfl, ho, hbel⟩ := hrel
  have HO := hide ho
  have HB := hide hbel
  clear ho hbel
  by_cases hlt : k < xs.length
  case neg =>
   obtain rfl : k = xs.length := by omega
   have HE1 : Hid (markKShelf k0 xs xs.length = markShelf k0 xs) := by simp [Hid, markKShelf]
   have HE2 : Hid (xs.take xs.length = xs) := List.take_length
   go_wp2
   go_ret
   exact ⟨ret_num (by rw [unhide HE2]), by rw [← unhide HE1]; exact unhide HO, unhide HB⟩
  have hkl : k < (markKShelf k0 xs k).length := by rw [markKShelf_len k0 xs k (by omega)]; exact hlt
  have hc0 := HO.out.cell k hkl 0 (by omega)
  have HST := hide (markKShelf_step xs k k0 hlt)
  have HGT := hide (markKShelf_get k0 xs k hlt)
  have hts := totXShelf_step xs k hlt
  have htl := totXShelf_le xs (k + 1)
  have hll1 := HLL.out k hlt
  have HTS := hide (show k0 + totXShelf (xs.take k) + (xs.getD k default).l.length + 4 = k0 + totXShelf (xs.take (k + 1)) by omega)
  have hsm : k0 + totXShelf (xs.take k) ≤ 90000000 := by omega
  have hrow := HO.out.rowAt k hkl
  rw [unhide HGT] at hrow hc0
  have O3 := fun (w3 : World) (Mm : List Int) => OwnShelf.reset (w3 := w3) (M := Mm) HO.out hkl
  simp only [unhide HGT] at O3
  have HNU := fun (w3 : World) (X : List ShelfW) (hX : X.length = (markKShelf k0 xs k).length) (h : OwnShelf w3 B g cap X) => (OwnShelf.nums (k := k) (p0 := ((k0 + totXShelf (xs.take k) + (xs.getD k default).l.length + 0 : Nat) : Int)) (p1 := ((k0 + totXShelf (xs.take k) + (xs.getD k default).l.length + 1 : Nat) : Int)) (p2 := ((k0 + totXShelf (xs.take k) + (xs.getD k default).l.length + 2 : Nat) : Int)) (p3 := ((k0 + totXShelf (xs.take k) + (xs.getD k default).l.length + 3 : Nat) : Int)) h (by rw [hX]; exact hkl))
  generalize k0 + totXShelf (xs.take k) = t0 at HTS hsm HST HNU ⊢
  generalize hrk : xs.getD k default = r at hc0 HST HTS hll1 hrow O3 HNU
  have hrB : B ≤ r.g := hrow.lt.1
  have d0 : wr.cell? ⟨g, k * 5, none⟩ = some (.slice (some ⟨r.g, 0, none⟩) r.l.length r.cap) := hc0.1
  have hBg : B ≤ g := own_base HO.out.out
  have HKL := hide hkl
  have HRW := hide hrow
  have HO3 := hide O3
  have HN2 := hide HNU
  clear hts htl hkl hc0 hrow O3 HNU hrk HGT
  go_wp2_with fail
  refine (markIntS_any B r.g r.l.length r.cap t0 r.l _ HRW.out hll1 (by omega)).mono ?_
  rintro e w2 ⟨rfl, ho2, hg2⟩
  have RN : RowV.own w2 B ⟨r.g, r.cap, marksI t0 r.l.length⟩ := by unfold RowV.own; rw [marksI_len]; exact ho2
  have O4 := HO3.out w2 _ hg2 RN (marksI_len _ _)
  have HB4 := hide (HB.out.grown hg2 (Nat.le_trans hB HB.out.size) (fun b hb => by injection hb with hb; omega))
  have hkl4 : k < ((markKShelf k0 xs k).set k ⟨r.g, r.cap, marksI t0 r.l.length, r.wd, r.dp, r.ht, r.gram⟩).length := by rw [List.length_set]; exact unhide HKL
  have hgq : ((markKShelf k0 xs k).set k ⟨r.g, r.cap, marksI t0 r.l.length, r.wd, r.dp, r.ht, r.gram⟩).getD k default = ⟨r.g, r.cap, marksI t0 r.l.length, r.wd, r.dp, r.ht, r.gram⟩ := getD_put_eq HKL.out
  have O5 := HN2.out w2 _ (List.length_set ..) O4
  rw [hgq] at O5
  dsimp only at O5
  rw [List.set_set, ← unhide HST] at O5
  have y0 := O4.cell k hkl4 0 (by omega)
  have y1 := O4.cell k hkl4 1 (by omega)
  have y2 := O4.cell k hkl4 2 (by omega)
  have y3 := O4.cell k hkl4 3 (by omega)
  have y4 := O4.cell k hkl4 4 (by omega)
  rw [hgq] at y0 y1 y2 y3 y4
  have v0 : w2.cell? ⟨g, k * 5, none⟩ = some (.slice (some ⟨r.g, 0, none⟩) (marksI t0 r.l.length).length r.cap) := y0.1
  have z0 : w2.frozen? ⟨g, k * 5, none⟩ = false := y0.2
  have v1 : w2.cell? ⟨g, k * 5 + 1, none⟩ = some (.int .i64 r.wd) := y1.1
  have z1 : w2.frozen? ⟨g, k * 5 + 1, none⟩ = false := y1.2
  have v2 : w2.cell? ⟨g, k * 5 + 2, none⟩ = some (.int .i64 r.dp) := y2.1
  have z2 : w2.frozen? ⟨g, k * 5 + 2, none⟩ = false := y2.2
  have v3 : w2.cell? ⟨g, k * 5 + 3, none⟩ = some (.int .i64 r.ht) := y3.1
  have z3 : w2.frozen? ⟨g, k * 5 + 3, none⟩ = false := y3.2
  have v4 : w2.cell? ⟨g, k * 5 + 4, none⟩ = some (.int .i64 r.gram) := y4.1
  have z4 : w2.frozen? ⟨g, k * 5 + 4, none⟩ = false := y4.2
  clear y0 y1 y2 y3 y4
  have HO5 := hide O5
  have HB5 := hide (show Below B w ((((w2.setCell ⟨g, k * 5 + 1, none⟩ (.int .i64 ((t0 + r.l.length + 0 : Nat) : Int))).setCell ⟨g, k * 5 + 2, none⟩ (.int .i64 ((t0 + r.l.length + 1 : Nat) : Int))).setCell ⟨g, k * 5 + 3, none⟩ (.int .i64 ((t0 + r.l.length + 2 : Nat) : Int))).setCell ⟨g, k * 5 + 4, none⟩ (.int .i64 ((t0 + r.l.length + 3 : Nat) : Int))) from ((((HB4.out.setCell hBg _).setCell hBg _).setCell hBg _).setCell hBg _))
  have hE1 : ((t0 + r.l.length : Nat) : Int) = (t0 : Int) + r.l.length := by omega
  clear O4 O5 RN ho2 hg2 HRW HO3 HN2 hgq hkl4 HB HO HST HKL d0
  generalize r.l.length = n1 at *
  have hv0 : ((t0 + n1 + 0 : Nat) : Int) = (t0 : Int) + n1 := by omega
  have hv1 : ((t0 + n1 + 1 : Nat) : Int) = (t0 : Int) + n1 + 1 := by omega
  have hv2 : ((t0 + n1 + 2 : Nat) : Int) = (t0 : Int) + n1 + 1 + 1 := by omega
  have hv3 : ((t0 + n1 + 3 : Nat) : Int) = (t0 : Int) + n1 + 1 + 1 + 1 := by omega
  rw [hv0, hv1, hv2, hv3] at HO5 HB5
  rw [hE1]
  clear hE1 hv0 hv1 hv2 hv3
  go_wp2_with fail
  go_roundw
  case rel => exact ⟨k + 1, by omega, by go_num, by rw [← unhide HTS]; go_num, unhide HO5, unhide HB5⟩
  case measure => simp [intOf]; omega
set_option maxHeartbeats 1000000 in
theorem heldShelfS_any (B g cap k0 : Nat) (xs : List ShelfW) (w : World) (ho : OwnShelf w B g cap (markShelf k0 xs)) (hn : xs.length ≤ 1048576) (ht : totXShelf xs ≤ 8000000) (hk1 : k0 ≤ 1000000) (hll : ∀ k, k < xs.length → (xs.getD k default).l.length ≤ 1048577) :
 Calls Try.prog 26 #[.slice (some ⟨g, 0, none⟩) xs.length cap, .int .i64 (k0 : Int)] w fun e w' => e = .returned (.int .i64 ((k0 + totXShelf xs : Nat) : Int)) ∧ w' = w := by
 have HO := hide ho
 have HLL := hide hll
 clear ho hll
 go_enter Try.func26, Try.ntmps26
 go_wp2
 go_loop [1, 5] (fun t i => ∃ k : Nat, k ≤ xs.length ∧ i = .int .i64 (k : Int) ∧ t = .int .i64 ((k0 + totXShelf (xs.take k) : Nat) : Int)) (fun _ i => xs.length - (intOf i).toNat)
 case atStart => exact ⟨0, Nat.zero_le _, rfl, rfl⟩
 case round =>
  obtain ⟨k, hk, rfl, rfl⟩ := hrel
  by_cases hlt : k < xs.length
  case neg =>
   obtain rfl : k = xs.length := by omega
   go_wp2
   go_ret
   exact ⟨ret_num (by simp), rfl⟩
  have hkl : k < (markShelf k0 xs).length := by rw [markShelf_len]; exact hlt
  have hc := fun j hj => (HO.out.cell k hkl j hj).1
  have HRD := hide (own_reads (HO.out.rowAt k hkl))
  have hts := totXShelf_step xs k hlt
  have htl := totXShelf_le xs (k + 1)
  have hll1 := HLL.out k hlt
  have HTS := hide (show k0 + totXShelf (xs.take k) + (xs.getD k default).l.length + 4 = k0 + totXShelf (xs.take (k + 1)) by omega)
  have hsm : k0 + totXShelf (xs.take k) ≤ 90000000 := by omega
  rw [markShelf_get xs k k0 hlt] at HRD
  simp only [markShelf_get xs k k0 hlt] at hc
  generalize k0 + totXShelf (xs.take k) = t0 at HTS hsm hc HRD ⊢
  generalize xs.getD k default = r at hc HRD HTS hll1
  have d0 : w.cell? ⟨g, k * 5, none⟩ = some (.slice (some ⟨r.g, 0, none⟩) r.l.length r.cap) := by have := hc 0 (by omega); simpa [ShelfW.cells, marksI_len] using this
  have d1 : w.cell? ⟨g, k * 5 + 1, none⟩ = some (.int .i64 ((t0 + r.l.length + 0 : Nat) : Int)) := hc 1 (by omega)
  have d2 : w.cell? ⟨g, k * 5 + 2, none⟩ = some (.int .i64 ((t0 + r.l.length + 1 : Nat) : Int)) := hc 2 (by omega)
  have d3 : w.cell? ⟨g, k * 5 + 3, none⟩ = some (.int .i64 ((t0 + r.l.length + 2 : Nat) : Int)) := hc 3 (by omega)
  have d4 : w.cell? ⟨g, k * 5 + 4, none⟩ = some (.int .i64 ((t0 + r.l.length + 3 : Nat) : Int)) := hc 4 (by omega)
  have HRE : Hid (Rd w (some ⟨r.g, 0, none⟩) r.l.length (marksI t0 r.l.length)) := by have := unhide HRD; unfold Hid; simpa [ShelfW.row, marksI_len] using this
  have hneg : ¬ ((t0 + r.l.length : Nat) : Int) < 0 := by omega
  clear hts htl hc HRD hkl
  go_wp2_with fail
  refine (heldIntS_any (some ⟨r.g, 0, none⟩) r.l.length r.cap t0 w HRE.out hll1 (by omega)).mono ?_
  rintro e w2 ⟨rfl, hw⟩
  subst w2
  generalize hn1 : r.l.length = n1 at *
  have hE1 : ((t0 + n1 : Nat) : Int) = (t0 : Int) + n1 := by omega
  have hv0 : ((t0 + n1 + 0 : Nat) : Int) = (t0 : Int) + n1 := by omega
  have hv1 : ((t0 + n1 + 1 : Nat) : Int) = (t0 : Int) + n1 + 1 := by omega
  have hv2 : ((t0 + n1 + 2 : Nat) : Int) = (t0 : Int) + n1 + 1 + 1 := by omega
  have hv3 : ((t0 + n1 + 3 : Nat) : Int) = (t0 : Int) + n1 + 1 + 1 + 1 := by omega
  rw [hv0] at d1
  rw [hv1] at d2
  rw [hv2] at d3
  rw [hv3] at d4
  have hne0 : ((t0 : Int) + n1 != (t0 : Int) + n1) = false := by simp
  have hne1 : ((t0 : Int) + n1 + 1 != (t0 : Int) + n1 + 1) = false := by simp
  have hne2 : ((t0 : Int) + n1 + 1 + 1 != (t0 : Int) + n1 + 1 + 1) = false := by simp
  have hne3 : ((t0 : Int) + n1 + 1 + 1 + 1 != (t0 : Int) + n1 + 1 + 1 + 1) = false := by simp
  rw [hE1] at hneg ⊢
  clear hE1 hv0 hv1 hv2 hv3
  go_wp2_with fail
  go_round
  case rel => exact ⟨k + 1, by omega, by go_num, by rw [← unhide HTS]; go_num⟩
  case measure => simp [intOf]; omega
end Go.Proofs.Ytcblpoeeembniaa
