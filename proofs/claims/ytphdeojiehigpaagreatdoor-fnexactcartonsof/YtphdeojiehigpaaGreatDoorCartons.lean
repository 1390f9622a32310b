/- Cartons: how they lie in memory; the laws' own sizes, copies and comparisons of them. -/
import Derived.Test.YtphdeojiehigpaaGreatDoorPkA
import Derived.Test.YtphdeojiehigpaaGreatDoorPkE
namespace Go.Proofs.YtphdeojiehigpaaGreatDoor
open Go.RowKit
set_option linter.unusedVariables false

structure CarV where (ty grp : Int) (us : List Int)
deriving Inhabited, DecidableEq
/-- The slice at 'a' of length 'n' holds these cartons. -/
def RdC (w : World) (a : Option Addr) (n : Nat) (xs : List CarV) : Prop :=
  xs.length = n ∧ ∀ i, i < n → ∃ b off ai ci, a = some ⟨b, off, none⟩ ∧ w.cell? ⟨b, off + i * 3, none⟩ = some (.int .i64 (xs.getD i default).ty) ∧ w.cell? ⟨b, off + i * 3 + 1, none⟩ = some (.int .i64 (xs.getD i default).grp) ∧
    w.cell? ⟨b, off + i * 3 + 2, none⟩ = some (.slice ai (xs.getD i default).us.length ci) ∧ Rd w ai (xs.getD i default).us.length (xs.getD i default).us
theorem RdC.mono {w w' : World} {a : Option Addr} {n : Nat} {xs : List CarV} (h : RdC w a n xs) (hb : Below w.heap.size w w') : RdC w' a n xs :=
  ⟨h.1, fun i hi => by
    obtain ⟨b, off, ai, ci, ha, h0, h1, h2, hr⟩ := h.2 i hi
    exact ⟨b, off, ai, ci, ha, (hb.cell (World.block_lt_of_cell? w _ h0)).trans h0, (hb.cell (World.block_lt_of_cell? w _ h1)).trans h1, (hb.cell (World.block_lt_of_cell? w _ h2)).trans h2, hr.mono hb⟩⟩
/-- A carton in a row of cartons, its units in a block of their own. -/
structure CRow where (ty grp : Int) (g cap : Nat) (l : List Int)
deriving Inhabited
def CRow.row (r : CRow) : RowV := ⟨r.g, r.cap, r.l⟩
def CRow.car (r : CRow) : CarV := ⟨r.ty, r.grp, r.l⟩
def CRow.cells (r : CRow) : List Value := [.int .i64 r.ty, .int .i64 r.grp, .slice (some ⟨r.g, 0, none⟩) r.l.length r.cap]
theorem CRow.len (r : CRow) : r.cells.length = 3 := rfl
def cellsC (xs : List CRow) : List Value := xs.flatMap CRow.cells
theorem cellsC_len (xs : List CRow) : (cellsC xs).length = xs.length * 3 := by
  induction xs with
  | nil => rfl
  | cons x xs ih => unfold cellsC at *; rw [List.flatMap_cons, List.length_append, ih, CRow.len, List.length_cons]; omega
theorem cellsC_snoc (xs : List CRow) (r : CRow) : cellsC (xs ++ [r]) = cellsC xs ++ r.cells := by simp [cellsC]
theorem cellsC_at : ∀ (xs : List CRow) (i j : Nat), i < xs.length → j < 3 → (cellsC xs)[i * 3 + j]? = ((xs.getD i default).cells)[j]?
  | [], i, j, h, _ => absurd h (Nat.not_lt_zero _)
  | x :: xs, 0, j, h, hj => by
    unfold cellsC
    rw [List.flatMap_cons, Nat.zero_mul, Nat.zero_add, List.getElem?_append_left (by rw [CRow.len]; exact hj)]
    rfl
  | x :: xs, i + 1, j, h, hj => by
    have ih := cellsC_at xs i j (by simpa using h) hj
    unfold cellsC at ih ⊢
    rw [List.flatMap_cons, List.getElem?_append_right (by rw [CRow.len]; omega), CRow.len, show (i + 1) * 3 + j - 3 = i * 3 + j by omega, ih]
    rfl
theorem cellsC_set : ∀ (xs : List CRow) (i : Nat) (r : CRow), i < xs.length → cellsC (xs.set i r) = writeRow (cellsC xs) (i * 3) r.cells := by
  intro xs i r hi
  refine List.ext_getElem? fun m => ?_
  have hl : (i + 1) * 3 ≤ xs.length * 3 := Nat.mul_le_mul_right 3 hi
  rw [writeRow_get _ _ _ _ (by rw [cellsC_len, CRow.len]; omega), CRow.len]
  by_cases hm : m < xs.length * 3
  · obtain ⟨q, j, hj, rfl⟩ : ∃ q j, j < 3 ∧ m = q * 3 + j := ⟨m / 3, m % 3, Nat.mod_lt _ (by omega), by omega⟩
    have hq : q < xs.length := by omega
    rw [cellsC_at (xs.set i r) q j (by simpa using hq) hj]
    by_cases e : q = i
    · subst e
      rw [if_pos (by omega), show q * 3 + j - q * 3 = j by omega]
      simp [List.getD_eq_getElem?_getD, hi]
    · rw [if_neg (by omega), cellsC_at xs q j hq hj]
      simp only [List.getD_eq_getElem?_getD]
      rw [List.getElem?_set_ne (fun x => e x.symm)]
  · rw [if_neg (by omega), List.getElem?_eq_none (by rw [cellsC_len]; simpa using hm), List.getElem?_eq_none (by rw [cellsC_len]; omega)]
/-- A row of cartons, all of it owned. -/
structure OwnC (w : World) (B g cap : Nat) (xs : List CRow) : Prop where
  out : w.ownsRow B 42 3 (.slice (some ⟨g, 0, none⟩) xs.length cap) xs.length (cellsC xs)
  rws : Rws w B g (xs.map CRow.row)
theorem OwnC.later {w w' : World} {B g cap : Nat} {xs : List CRow} (h : OwnC w B g cap xs) (hb : Below w.heap.size w w') : OwnC w' B g cap xs := ⟨own_later h.out hb, h.rws.later hb⟩
theorem OwnC.cell {w : World} {B g cap : Nat} {xs : List CRow} (h : OwnC w B g cap xs) (i : Nat) (hi : i < xs.length) (j : Nat) (hj : j < 3) : w.cell? ⟨g, i * 3 + j, none⟩ = ((xs.getD i default).cells)[j]? ∧ w.frozen? ⟨g, i * 3 + j, none⟩ = false := by
  have hl : (i + 1) * 3 ≤ xs.length * 3 := Nat.mul_le_mul_right 3 hi
  exact ⟨(h.out.cellAt _ (by omega)).trans (cellsC_at xs i j hi hj), h.out.frozenAt _⟩
theorem getD_map_row (xs : List CRow) (i : Nat) (h : i < xs.length) : (xs.map CRow.row).getD i default = (xs.getD i default).row := by simp [List.getD_eq_getElem?_getD, h]
theorem getD_map_car (xs : List CRow) (i : Nat) (h : i < xs.length) : (xs.map CRow.car).getD i default = (xs.getD i default).car := by simp [List.getD_eq_getElem?_getD, h]
theorem OwnC.rowAt {w : World} {B g cap : Nat} {xs : List CRow} (h : OwnC w B g cap xs) (i : Nat) (hi : i < xs.length) : RowV.own w B (xs.getD i default).row := by
  have := h.rws.row i (by simpa using hi)
  rwa [getD_map_row xs i hi] at this
theorem OwnC.read {w : World} {B g cap : Nat} {xs : List CRow} (h : OwnC w B g cap xs) : RdC w (some ⟨g, 0, none⟩) xs.length (xs.map CRow.car) := by
  refine ⟨by simp, fun i hi => ?_⟩
  rw [getD_map_car xs i hi]
  refine ⟨g, 0, some ⟨(xs.getD i default).g, 0, none⟩, (xs.getD i default).cap, rfl, ?_, ?_, ?_, own_reads (h.rowAt i hi)⟩ <;> rw [Nat.zero_add]
  · exact (h.cell i hi 0 (by omega)).1
  · exact (h.cell i hi 1 (by omega)).1
  · exact (h.cell i hi 2 (by omega)).1
theorem OwnC.low {w : World} {B B' g cap : Nat} {xs : List CRow} (h : OwnC w B g cap xs) (hb : B' ≤ B) : OwnC w B' g cap xs :=
  ⟨h.out.mono hb, ⟨fun i hi => World.ownsRow.mono (h.rws.row i hi) hb, h.rws.apart, h.rws.far⟩⟩
def totC (xs : List CarV) : Nat := (xs.map fun x => x.us.length).sum
theorem totC_step (xs : List CarV) (k : Nat) (h : k < xs.length) : totC (xs.take (k + 1)) = totC (xs.take k) + (xs.getD k default).us.length := by
  unfold totC
  rw [List.take_succ_eq_append_getElem h, List.map_append, List.sum_append]
  congr 1
  simp [h]
theorem totC_le (xs : List CarV) (k : Nat) (h : k < xs.length) : (xs.getD k default).us.length ≤ totC xs := by
  have h1 := totC_step xs k h
  have h2 : totC (xs.take (k + 1)) ≤ totC xs := by
    unfold totC
    conv => rhs; rw [← List.take_append_drop (k + 1) xs, List.map_append, List.sum_append]
    omega
  omega

theorem szCarton_any (t p : Int) (a : Option Addr) (n c : Nat) (l : Int) (w : World) (hn : n ≤ maxLen) (h0 : 0 ≤ l) (hl : l ≤ 1048576) :
    Calls Tryz.prog 9 #[.agg #[.int .i64 t, .int .i64 p, .slice a n c], .int .i64 l] w fun e w' => e = .returned (.int .i64 (if l - n < 0 then -1 else l - n)) ∧ Below w.heap.size w w' := by
  by_cases h : l - n < 0
  all_goals
    go_enter Tryz.func9, Tryz.ntmps9
    go_wp2_with fail
    refine (szIntS_any a n c l _ hn h0 hl).mono ?_
    rintro e w1 ⟨rfl, hw⟩
    subst w1
    have hs : ¬ 0 ≤ l - (n : Int) ↔ l - (n : Int) < 0 := by omega
    first | rw [if_pos (by omega)] | rw [if_neg (by omega)]
    go_wp2_with fail
    go_ret
    exact ⟨rfl, (Below.refl _ _).alloc (Nat.le_refl _) _⟩
set_option maxHeartbeats 800000 in
theorem szCartonS_any (a : Option Addr) (n c : Nat) (xs : List CarV) (l : Int) (w : World) (hr : RdC w a n xs) (hn : n ≤ maxLen) (hm : ∀ g ∈ xs, g.us.length ≤ maxLen) (h0 : 0 ≤ l) (hl : l ≤ 1048576) :
    Calls Tryz.prog 16 #[.slice a n c, .int .i64 l] w fun e w' => ∃ r : Int, e = .returned (.int .i64 r) ∧ (r = -1 ∨ 0 ≤ r ∧ r + n + totC xs = l) ∧ Below w.heap.size w w' := by
  unfold maxLen at hn
  by_cases h : l - n < 0
  case pos =>
    go_enter Tryz.func16, Tryz.ntmps16
    go_wp2
    go_ret
    exact ⟨-1, rfl, Or.inl rfl, Below.refl _ _⟩
  go_enter Tryz.func16, Tryz.ntmps16
  go_wp2
  go_loopw [1, 5] (fun t i wr => ∃ (k : Nat) (x : Int), k ≤ n ∧ i = .int .i64 k ∧ t = .int .i64 x ∧ 0 ≤ x ∧ x + n + totC (xs.take k) = l ∧ Below w.heap.size w wr) (fun _ i _ => n - (intOf i).toNat)
  case atStart => exact ⟨0, l - n, Nat.zero_le _, rfl, rfl, by omega, by simp [totC], Below.refl _ _⟩
  case round =>
    obtain ⟨k, x, hk, rfl, rfl, hx0, hx1, hbel⟩ := hrel
    by_cases hlt : k < n
    case neg =>
      rw [List.take_of_length_le (by rw [hr.1]; omega)] at hx1
      have HX := hide hx1
      clear hx1
      have HB := hide hbel
      clear hbel
      go_wp2
      go_ret
      exact ⟨x, rfl, Or.inr ⟨hx0, unhide HX⟩, unhide HB⟩
    obtain ⟨b, off, ai, ci, rfl, hc0, hc1, hc2, hrow⟩ := (hr.mono hbel).2 k hlt
    have hlen : (xs.getD k default).us.length ≤ maxLen := hm _ (by rw [List.getD_eq_getElem?_getD, List.getElem?_eq_getElem (by rw [hr.1]; exact hlt)]; exact List.getElem_mem _)
    have hst := totC_step xs k (by rw [hr.1]; exact hlt)
    generalize (xs.getD k default).us.length = m at hc2 hlen hst
    generalize (xs.getD k default).ty = q0 at hc0
    generalize (xs.getD k default).grp = q1 at hc1
    have HX := hide (show x - m + n + totC (xs.take (k + 1)) = l by omega)
    have hxl : x ≤ 1048576 := by omega
    have HB := hide hbel
    clear hx1 hst hrow hr hbel
    go_wp2_with fail
    refine (szCarton_any q0 q1 ai m ci x _ hlen hx0 hxl).mono ?_
    rintro e w1 ⟨rfl, hb1⟩
    have HB1 : Hid (Below w.heap.size w w1) := (unhide HB).trans (hb1.mono (unhide HB).size)
    clear hb1 HB hc0 hc1 hc2
    by_cases hs : x - m < 0
    · rw [if_pos hs]
      go_wp2_with fail
      go_ret
      exact ⟨-1, rfl, Or.inl rfl, unhide HB1⟩
    · rw [if_neg hs]
      have hs2 : ¬ x - (m : Int) < 0 := by omega
      go_wp2_with fail
      go_roundw
      case rel => exact ⟨k + 1, x - m, by omega, by go_num, rfl, by omega, unhide HX, unhide HB1⟩
      case measure => simp [intOf]; omega
set_option maxHeartbeats 800000 in
theorem eqCarton_same (t p : Int) (a : Option Addr) (c : Nat) (a' : Option Addr) (c' : Nat) (zs : List Int) (w : World) (hr : Rd w a zs.length zs) (hr' : Rd w a' zs.length zs) (hn : zs.length ≤ 1048576) :
    Calls Tryz.prog 15 #[.agg #[.int .i64 t, .int .i64 p, .slice a zs.length c], .agg #[.int .i64 t, .int .i64 p, .slice a' zs.length c']] w fun e w' => e = .returned (.bool true) ∧ Below w.heap.size w w' := by
  have HR := hide hr
  have HR' := hide hr'
  have hne : (t != t) = false := by simp
  have hne2 : (p != p) = false := by simp
  clear hr hr'
  go_enter Tryz.func15, Tryz.ntmps15
  go_wp2_with fail
  have hb : Below w.heap.size w ((w.alloc (.cells #[.int .i64 t, .int .i64 p, .slice a zs.length c] 42)).alloc (.cells #[.int .i64 t, .int .i64 p, .slice a' zs.length c'] 42)) := ((Below.refl _ _).alloc (Nat.le_refl _) _).alloc (by simp) _
  refine (eqIntS_same a zs.length c a' c' zs _ ((unhide HR).mono hb) ((unhide HR').mono hb) hn).mono ?_
  rintro e w1 ⟨rfl, hb1⟩
  have HB1 := hide (hb.trans (hb1.mono hb.size))
  clear hb hb1
  go_wp2_with fail
  go_ret
  exact ⟨rfl, unhide HB1⟩
set_option maxHeartbeats 1000000 in
theorem toCarton_any (t p : Int) (a : Option Addr) (c : Nat) (zs : List Int) (w : World) (hr : Rd w a zs.length zs) (hn : zs.length ≤ 1048576) :
    Calls Tryz.prog 12 #[.agg #[.int .i64 t, .int .i64 p, .slice a zs.length c]] w fun e w' => ∃ g, e = .returned (.agg #[.int .i64 t, .int .i64 p, .slice (some ⟨g, 0, none⟩) zs.length zs.length]) ∧ RowV.own w' w.heap.size ⟨g, zs.length, zs⟩ ∧ Below w.heap.size w w' := by
  have HR := hide hr
  clear hr
  go_enter Tryz.func12, Tryz.ntmps12
  go_wp2_with fail
  have hb : Below w.heap.size w (((w.alloc (.cells #[.int .i64 t, .int .i64 p, .slice a zs.length c] 31)).alloc (.cells #[.int .i64 0, .int .i64 0, .slice none 0 0] 42)).alloc (.cells #[.int .i64 t, .int .i64 p, .slice none 0 0] 42)) := (((Below.refl _ _).alloc (Nat.le_refl _) _).alloc (by simp) _).alloc (by simp; omega) _
  have hr1 : Blk (((w.alloc (.cells #[.int .i64 t, .int .i64 p, .slice a zs.length c] 31)).alloc (.cells #[.int .i64 0, .int .i64 0, .slice none 0 0] 42)).alloc (.cells #[.int .i64 t, .int .i64 p, .slice none 0 0] 42)) (w.heap.size + 1) [.int .i64 0, .int .i64 0, .slice none 0 0] := (Blk.allocAt [.int .i64 0, .int .i64 0, .slice none 0 0] (by simp)).allocOld (by simp) _
  have ho1 : Blk (((w.alloc (.cells #[.int .i64 t, .int .i64 p, .slice a zs.length c] 31)).alloc (.cells #[.int .i64 0, .int .i64 0, .slice none 0 0] 42)).alloc (.cells #[.int .i64 t, .int .i64 p, .slice none 0 0] 42)) (w.heap.size + 1 + 1) [.int .i64 t, .int .i64 p, .slice none 0 0] := Blk.allocAt [.int .i64 t, .int .i64 p, .slice none 0 0] (by simp)
  have hz : w.heap.size + 1 + 1 < (((w.alloc (.cells #[.int .i64 t, .int .i64 p, .slice a zs.length c] 31)).alloc (.cells #[.int .i64 0, .int .i64 0, .slice none 0 0] 42)).alloc (.cells #[.int .i64 t, .int .i64 p, .slice none 0 0] 42)).heap.size := by simp
  generalize (((w.alloc (.cells #[.int .i64 t, .int .i64 p, .slice a zs.length c] 31)).alloc (.cells #[.int .i64 0, .int .i64 0, .slice none 0 0] 42)).alloc (.cells #[.int .i64 t, .int .i64 p, .slice none 0 0] 42)) = W at *
  refine (toIntS_any a zs.length c zs W ((unhide HR).mono hb) hn).mono ?_
  rintro e w1 ⟨rfl, ho, hb1⟩
  have KO := hide (Blk.below hb1 hz ho1)
  have KR := hide (Blk.below hb1 (by omega) hr1)
  have OW : Hid (RowV.own w1 w.heap.size ⟨W.heap.size, zs.length, zs⟩) := World.ownsRow.mono ho hb.size
  have HB1 := hide (hb.trans (hb1.mono hb.size))
  have NW : Hid (w.heap.size + 1 + 1 < W.heap.size) := hz
  clear hb hr1 ho1 hz ho hb1
  have o0 : w1.cell? ⟨w.heap.size + 1 + 1, 0, none⟩ = some (.int .i64 t) := ((unhide KO) 0 (by simp)).1
  have of0 : w1.frozen? ⟨w.heap.size + 1 + 1, 0, none⟩ = false := ((unhide KO) 0 (by simp)).2
  have o1 : w1.cell? ⟨w.heap.size + 1 + 1, 1, none⟩ = some (.int .i64 p) := ((unhide KO) 1 (by simp)).1
  have of1 : w1.frozen? ⟨w.heap.size + 1 + 1, 1, none⟩ = false := ((unhide KO) 1 (by simp)).2
  have o2 : w1.cell? ⟨w.heap.size + 1 + 1, 2, none⟩ = some (.slice none 0 0) := ((unhide KO) 2 (by simp)).1
  have of2 : w1.frozen? ⟨w.heap.size + 1 + 1, 2, none⟩ = false := ((unhide KO) 2 (by simp)).2
  have r0 : w1.cell? ⟨w.heap.size + 1, 0, none⟩ = some (.int .i64 0) := ((unhide KR) 0 (by simp)).1
  have rf0 : w1.frozen? ⟨w.heap.size + 1, 0, none⟩ = false := ((unhide KR) 0 (by simp)).2
  have r1 : w1.cell? ⟨w.heap.size + 1, 1, none⟩ = some (.int .i64 0) := ((unhide KR) 1 (by simp)).1
  have rf1 : w1.frozen? ⟨w.heap.size + 1, 1, none⟩ = false := ((unhide KR) 1 (by simp)).2
  have r2 : w1.cell? ⟨w.heap.size + 1, 2, none⟩ = some (.slice none 0 0) := ((unhide KR) 2 (by simp)).1
  have rf2 : w1.frozen? ⟨w.heap.size + 1, 2, none⟩ = false := ((unhide KR) 2 (by simp)).2
  go_wp2
  have CC : Blk ((((w1.setCell ⟨w.heap.size + 1 + 1, 2, none⟩ (.slice (some ⟨W.heap.size, 0, none⟩) zs.length zs.length)).setCell ⟨w.heap.size + 1, 0, none⟩ (.int .i64 t)).setCell ⟨w.heap.size + 1, 1, none⟩ (.int .i64 p)).setCell ⟨w.heap.size + 1, 2, none⟩ (.slice (some ⟨W.heap.size, 0, none⟩) zs.length zs.length)) (w.heap.size + 1) [.int .i64 t, .int .i64 p, (.slice (some ⟨W.heap.size, 0, none⟩) zs.length zs.length)] := Blk.fill3 ((unhide KR).other (by omega))
  have c0 := (CC 0 (by simp)).1
  have c1 := (CC 1 (by simp)).1
  have c2 := (CC 2 (by simp)).1
  simp only [List.getElem?_cons_zero, List.getElem?_cons_succ] at c0 c1 c2
  have hN := unhide NW
  have e1 : ∀ b, b ≠ W.heap.size → ¬ (Value.slice (some ⟨W.heap.size, 0, none⟩) zs.length zs.length).ownBlock = some b := by intro b hb e; simp [Value.ownBlock] at e; exact hb e.symm
  refine bodyPost_ret (v := .agg #[.int .i64 t, .int .i64 p, (.slice (some ⟨W.heap.size, 0, none⟩) zs.length zs.length)]) (by simp [results, Tryz.results12, go_sem, c0, c1, c2]) rfl ⟨W.heap.size, rfl, ?_, ?_⟩
  · have g1 := gb_set (World.grownBy.refl w1 (some (w.heap.size + 1 + 1))) 2 (.slice (some ⟨W.heap.size, 0, none⟩) zs.length zs.length)
    have k1 : RowV.own (w1.setCell ⟨w.heap.size + 1 + 1, 2, none⟩ (.slice (some ⟨W.heap.size, 0, none⟩) zs.length zs.length)) w.heap.size ⟨W.heap.size, zs.length, zs⟩ := (unhide OW).kept g1 (by intro e; injection e with e; exact absurd e (show W.heap.size ≠ _ by omega))
    exact k1.kept (gb_set (gb_set (gb_set (World.grownBy.refl _ (some (w.heap.size + 1))) 0 _) 1 _) 2 _) (by intro e; injection e with e; exact absurd e (show W.heap.size ≠ _ by omega))
  · exact ((((unhide HB1).setCell (by dsimp only; omega) _).setCell (by dsimp only; omega) _).setCell (by dsimp only; omega) _).setCell (by dsimp only; omega) _
end Go.Proofs.YtphdeojiehigpaaGreatDoor
