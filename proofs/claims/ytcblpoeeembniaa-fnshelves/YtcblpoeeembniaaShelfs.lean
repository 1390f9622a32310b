/- Shelfs: how they lie in memory; the laws' own sizes, copies and comparisons of them. -/
import Derived.Test.YtcblpoeeembniaaStructs
import Derived.Test.YtcblpoeeembniaaIntSS
namespace Go.Proofs.Ytcblpoeeembniaa
open Go.RowKit
set_option linter.unusedVariables false

structure ShelfV where (us : List Int) (wd dp ht gram : Int)
deriving Inhabited, DecidableEq
/-- The slice at 'a' of length 'n' holds these. -/
def RdShelf (w : World) (a : Option Addr) (n : Nat) (xs : List ShelfV) : Prop :=
 xs.length = n ∧ ∀ i, i < n → ∃ b off ai ci, a = some ⟨b, off, none⟩ ∧ w.cell? ⟨b, off + i * 5, none⟩ = some (.slice ai (xs.getD i default).us.length ci) ∧ w.cell? ⟨b, off + i * 5 + 1, none⟩ = some (.int .i64 (xs.getD i default).wd) ∧ w.cell? ⟨b, off + i * 5 + 2, none⟩ = some (.int .i64 (xs.getD i default).dp) ∧ w.cell? ⟨b, off + i * 5 + 3, none⟩ = some (.int .i64 (xs.getD i default).ht) ∧ w.cell? ⟨b, off + i * 5 + 4, none⟩ = some (.int .i64 (xs.getD i default).gram) ∧ Rd w ai (xs.getD i default).us.length (xs.getD i default).us
theorem RdShelf.mono {w w' : World} {a : Option Addr} {n : Nat} {xs : List ShelfV} (h : RdShelf w a n xs) (hb : Below w.heap.size w w') : RdShelf w' a n xs :=
 ⟨h.1, fun i hi => by
  obtain ⟨b, off, ai, ci, ha, h0, h1, h2, h3, h4, hr⟩ := h.2 i hi
  exact ⟨b, off, ai, ci, ha, (hb.cell (World.block_lt_of_cell? w _ h0)).trans h0, (hb.cell (World.block_lt_of_cell? w _ h1)).trans h1, (hb.cell (World.block_lt_of_cell? w _ h2)).trans h2, (hb.cell (World.block_lt_of_cell? w _ h3)).trans h3, (hb.cell (World.block_lt_of_cell? w _ h4)).trans h4, hr.mono hb⟩⟩
/-- One in a row of them, its list in a block of its own. -/
structure ShelfW where (g cap : Nat) (l : List Int) (wd dp ht gram : Int)
deriving Inhabited
def ShelfW.row (r : ShelfW) : RowV := ⟨r.g, r.cap, r.l⟩
def ShelfW.car (r : ShelfW) : ShelfV := ⟨r.l, r.wd, r.dp, r.ht, r.gram⟩
def ShelfW.cells (r : ShelfW) : List Value := [.slice (some ⟨r.g, 0, none⟩) r.l.length r.cap, .int .i64 r.wd, .int .i64 r.dp, .int .i64 r.ht, .int .i64 r.gram]
theorem ShelfW.len (r : ShelfW) : r.cells.length = 5 := rfl
def cellsShelf (xs : List ShelfW) : List Value := xs.flatMap ShelfW.cells
theorem cellsShelf_len (xs : List ShelfW) : (cellsShelf xs).length = xs.length * 5 := by
 induction xs with
 | nil => rfl
 | cons x xs ih => unfold cellsShelf at *; rw [List.flatMap_cons, List.length_append, ih, ShelfW.len, List.length_cons]; omega
theorem cellsShelf_snoc (xs : List ShelfW) (r : ShelfW) : cellsShelf (xs ++ [r]) = cellsShelf xs ++ r.cells := by simp [cellsShelf]
theorem cellsShelf_at : ∀ (xs : List ShelfW) (i j : Nat), i < xs.length → j < 5 → (cellsShelf xs)[i * 5 + j]? = ((xs.getD i default).cells)[j]?
 | [], i, j, h, _ => absurd h (Nat.not_lt_zero _)
 | x :: xs, 0, j, h, hj => by
  unfold cellsShelf
  rw [List.flatMap_cons, Nat.zero_mul, Nat.zero_add, List.getElem?_append_left (by rw [ShelfW.len]; exact hj)]
  rfl
 | x :: xs, i + 1, j, h, hj => by
  have ih := cellsShelf_at xs i j (by simpa using h) hj
  unfold cellsShelf at ih ⊢
  rw [List.flatMap_cons, List.getElem?_append_right (by rw [ShelfW.len]; omega), ShelfW.len, show (i + 1) * 5 + j - 5 = i * 5 + j by omega, ih]
  rfl
theorem cellsShelf_set : ∀ (xs : List ShelfW) (i : Nat) (r : ShelfW), i < xs.length → cellsShelf (xs.set i r) = writeRow (cellsShelf xs) (i * 5) r.cells := by
 intro xs i r hi
 refine List.ext_getElem? fun m => ?_
 have hl : (i + 1) * 5 ≤ xs.length * 5 := Nat.mul_le_mul_right 5 hi
 rw [writeRow_get _ _ _ _ (by rw [cellsShelf_len, ShelfW.len]; omega), ShelfW.len]
 by_cases hm : m < xs.length * 5
 · obtain ⟨q, j, hj, rfl⟩ : ∃ q j, j < 5 ∧ m = q * 5 + j := ⟨m / 5, m % 5, Nat.mod_lt _ (by omega), by omega⟩
   have hq : q < xs.length := by omega
   rw [cellsShelf_at (xs.set i r) q j (by simpa using hq) hj]
   by_cases e : q = i
   · subst e
     rw [if_pos (by omega), show q * 5 + j - q * 5 = j by omega]
     simp [List.getD_eq_getElem?_getD, hi]
   · rw [if_neg (by omega), cellsShelf_at xs q j hq hj]
     simp only [List.getD_eq_getElem?_getD]
     rw [List.getElem?_set_ne (fun x => e x.symm)]
 · rw [if_neg (by omega), List.getElem?_eq_none (by rw [cellsShelf_len]; simpa using hm), List.getElem?_eq_none (by rw [cellsShelf_len]; omega)]
/-- A row of them, all of it owned. -/
structure OwnShelf (w : World) (B g cap : Nat) (xs : List ShelfW) : Prop where
 out : w.ownsRow B 51 5 (.slice (some ⟨g, 0, none⟩) xs.length cap) xs.length (cellsShelf xs)
 rws : Rws w B g (xs.map ShelfW.row)
theorem OwnShelf.later {w w' : World} {B g cap : Nat} {xs : List ShelfW} (h : OwnShelf w B g cap xs) (hb : Below w.heap.size w w') : OwnShelf w' B g cap xs := ⟨own_later h.out hb, h.rws.later hb⟩
theorem OwnShelf.cell {w : World} {B g cap : Nat} {xs : List ShelfW} (h : OwnShelf w B g cap xs) (i : Nat) (hi : i < xs.length) (j : Nat) (hj : j < 5) : w.cell? ⟨g, i * 5 + j, none⟩ = ((xs.getD i default).cells)[j]? ∧ w.frozen? ⟨g, i * 5 + j, none⟩ = false := by
 have hl : (i + 1) * 5 ≤ xs.length * 5 := Nat.mul_le_mul_right 5 hi
 exact ⟨(h.out.cellAt _ (by omega)).trans (cellsShelf_at xs i j hi hj), h.out.frozenAt _⟩
theorem ShelfW.getD_row (xs : List ShelfW) (i : Nat) (h : i < xs.length) : (xs.map ShelfW.row).getD i default = (xs.getD i default).row := by simp [List.getD_eq_getElem?_getD, h]
theorem ShelfW.getD_car (xs : List ShelfW) (i : Nat) (h : i < xs.length) : (xs.map ShelfW.car).getD i default = (xs.getD i default).car := by simp [List.getD_eq_getElem?_getD, h]
theorem OwnShelf.rowAt {w : World} {B g cap : Nat} {xs : List ShelfW} (h : OwnShelf w B g cap xs) (i : Nat) (hi : i < xs.length) : RowV.own w B (xs.getD i default).row := by
 have := h.rws.row i (by simpa using hi)
 rwa [ShelfW.getD_row xs i hi] at this
theorem OwnShelf.read {w : World} {B g cap : Nat} {xs : List ShelfW} (h : OwnShelf w B g cap xs) : RdShelf w (some ⟨g, 0, none⟩) xs.length (xs.map ShelfW.car) := by
 refine ⟨by simp, fun i hi => ?_⟩
 rw [ShelfW.getD_car xs i hi]
 refine ⟨g, 0, some ⟨(xs.getD i default).g, 0, none⟩, (xs.getD i default).cap, rfl, ?_, ?_, ?_, ?_, ?_, own_reads (h.rowAt i hi)⟩ <;> rw [Nat.zero_add]
 · exact (h.cell i hi 0 (by omega)).1
 · exact (h.cell i hi 1 (by omega)).1
 · exact (h.cell i hi 2 (by omega)).1
 · exact (h.cell i hi 3 (by omega)).1
 · exact (h.cell i hi 4 (by omega)).1
theorem OwnShelf.low {w : World} {B B' g cap : Nat} {xs : List ShelfW} (h : OwnShelf w B g cap xs) (hb : B' ≤ B) : OwnShelf w B' g cap xs :=
 ⟨h.out.mono hb, ⟨fun i hi => World.ownsRow.mono (h.rws.row i hi) hb, h.rws.apart, h.rws.far⟩⟩
def totShelf (xs : List ShelfV) : Nat := (xs.map fun x => x.us.length).sum
theorem totShelf_step (xs : List ShelfV) (k : Nat) (h : k < xs.length) : totShelf (xs.take (k + 1)) = totShelf (xs.take k) + (xs.getD k default).us.length := by
 unfold totShelf
 rw [List.take_succ_eq_append_getElem h, List.map_append, List.sum_append]
 congr 1
 simp [h]
theorem totShelf_le (xs : List ShelfV) (k : Nat) (h : k < xs.length) : (xs.getD k default).us.length ≤ totShelf xs := by
 have h1 := totShelf_step xs k h
 have h2 : totShelf (xs.take (k + 1)) ≤ totShelf xs := by
  unfold totShelf
  conv => rhs; rw [← List.take_append_drop (k + 1) xs, List.map_append, List.sum_append]
  omega
 omega

theorem szShelf_any (f0 f1 f2 f3 : Int) (a : Option Addr) (n c : Nat) (l : Int) (w : World) (hn : n ≤ maxLen) (h0 : 0 ≤ l) (hl : l ≤ 1048576) :
 Calls Try.prog 36 #[.agg #[.slice a n c, .int .i64 f0, .int .i64 f1, .int .i64 f2, .int .i64 f3], .int .i64 l] w fun e w' => e = .returned (.int .i64 (if l - n < 0 then -1 else l - n)) ∧ Below w.heap.size w w' := by
 by_cases h : l - n < 0
 all_goals
  go_enter Try.func36, Try.ntmps36
  go_wp2_with fail
  refine (szIntS_any a n c l _ hn h0 hl).mono ?_
  rintro e w1 ⟨rfl, hw⟩
  subst w1
  have hs : ¬ 0 ≤ l - (n : Int) ↔ l - (n : Int) < 0 := by omega
  first | rw [if_pos (by omega)] | rw [if_neg (by omega)]
  go_wp2_with fail
  go_ret
  exact ⟨rfl, (Below.refl _ _).alloc (Nat.le_refl _) _⟩
set_option maxHeartbeats 800000 in
theorem szShelfS_any (a : Option Addr) (n c : Nat) (xs : List ShelfV) (l : Int) (w : World) (hr : RdShelf w a n xs) (hn : n ≤ maxLen) (hm : ∀ g ∈ xs, g.us.length ≤ maxLen) (h0 : 0 ≤ l) (hl : l ≤ 1048576) :
 Calls Try.prog 15 #[.slice a n c, .int .i64 l] w fun e w' => ∃ r : Int, e = .returned (.int .i64 r) ∧ (r = -1 ∨ 0 ≤ r ∧ r + n + totShelf xs = l) ∧ Below w.heap.size w w' := by
 unfold maxLen at hn
 by_cases h : l - n < 0
 case pos =>
  go_enter Try.func15, Try.ntmps15
  go_wp2
  go_ret
  exact ⟨-1, rfl, Or.inl rfl, Below.refl _ _⟩
 go_enter Try.func15, Try.ntmps15
 go_wp2
 go_loopw [1, 5] (fun t i wr => ∃ (k : Nat) (x : Int), k ≤ n ∧ i = .int .i64 k ∧ t = .int .i64 x ∧ 0 ≤ x ∧ x + n + totShelf (xs.take k) = l ∧ Below w.heap.size w wr) (fun _ i _ => n - (intOf i).toNat)
 case atStart => exact ⟨0, l - n, Nat.zero_le _, rfl, rfl, by omega, by simp [totShelf], Below.refl _ _⟩
 case round =>
  obtain ⟨k, x, hk, rfl, rfl, hx0, hx1, hbel⟩ := hrel
  by_cases hlt : k < n
  case neg =>
   rw [List.take_of_length_le (by rw [hr.1]; omega)] at hx1
   have HX := hide hx1
   clear hx1
   have HB := hide hbel
   clear hbel
   go_wp2
   go_ret
   exact ⟨x, rfl, Or.inr ⟨hx0, unhide HX⟩, unhide HB⟩
  obtain ⟨b, off, ai, ci, rfl, hc0, hc1, hc2, hc3, hc4, hrow⟩ := (hr.mono hbel).2 k hlt
  have hlen : (xs.getD k default).us.length ≤ maxLen := hm _ (by rw [List.getD_eq_getElem?_getD, List.getElem?_eq_getElem (by rw [hr.1]; exact hlt)]; exact List.getElem_mem _)
  have hst := totShelf_step xs k (by rw [hr.1]; exact hlt)
  generalize (xs.getD k default).us.length = m at hc0 hlen hst
  generalize (xs.getD k default).wd = q0 at hc1
  generalize (xs.getD k default).dp = q1 at hc2
  generalize (xs.getD k default).ht = q2 at hc3
  generalize (xs.getD k default).gram = q3 at hc4
  have HX := hide (show x - m + n + totShelf (xs.take (k + 1)) = l by omega)
  have hxl : x ≤ 1048576 := by omega
  have HB := hide hbel
  clear hx1 hst hrow hr hbel
  go_wp2_with fail
  refine (szShelf_any q0 q1 q2 q3 ai m ci x _ hlen hx0 hxl).mono ?_
  rintro e w1 ⟨rfl, hb1⟩
  have HB1 : Hid (Below w.heap.size w w1) := HB.out.trans (hb1.mono HB.out.size)
  clear hb1 HB hc0 hc1 hc2 hc3 hc4
  by_cases hs : x - m < 0
  · rw [if_pos hs]
    go_wp2_with fail
    go_ret
    exact ⟨-1, rfl, Or.inl rfl, unhide HB1⟩
  · rw [if_neg hs]
    have hs2 : ¬ x - (m : Int) < 0 := by omega
    go_wp2_with fail
    go_roundw
    case rel => exact ⟨k + 1, x - m, by omega, by go_num, rfl, by omega, unhide HX, unhide HB1⟩
    case measure => simp [intOf]; omega
set_option maxHeartbeats 800000 in
theorem eqShelf_same (f0 f1 f2 f3 : Int) (a : Option Addr) (c : Nat) (a' : Option Addr) (c' : Nat) (zs : List Int) (w : World) (hr : Rd w a zs.length zs) (hr' : Rd w a' zs.length zs) (hn : zs.length ≤ 1048576) :
 Calls Try.prog 40 #[.agg #[.slice a zs.length c, .int .i64 f0, .int .i64 f1, .int .i64 f2, .int .i64 f3], .agg #[.slice a' zs.length c', .int .i64 f0, .int .i64 f1, .int .i64 f2, .int .i64 f3]] w fun e w' => e = .returned (.bool true) ∧ Below w.heap.size w w' := by
 have HR := hide hr
 have HR' := hide hr'
 have hne0 : (f0 != f0) = false := by simp
 have hne1 : (f1 != f1) = false := by simp
 have hne2 : (f2 != f2) = false := by simp
 have hne3 : (f3 != f3) = false := by simp
 clear hr hr'
 go_enter Try.func40, Try.ntmps40
 go_wp2_with fail
 have hb : Below w.heap.size w ((w.alloc (.cells #[.slice a zs.length c, .int .i64 f0, .int .i64 f1, .int .i64 f2, .int .i64 f3] 51)).alloc (.cells #[.slice a' zs.length c', .int .i64 f0, .int .i64 f1, .int .i64 f2, .int .i64 f3] 51)) := ((Below.refl _ _).alloc (Nat.le_refl _) _).alloc (by simp) _
 have k0 : Blk ((w.alloc (.cells #[.slice a zs.length c, .int .i64 f0, .int .i64 f1, .int .i64 f2, .int .i64 f3] 51)).alloc (.cells #[.slice a' zs.length c', .int .i64 f0, .int .i64 f1, .int .i64 f2, .int .i64 f3] 51)) w.heap.size [.slice a zs.length c, .int .i64 f0, .int .i64 f1, .int .i64 f2, .int .i64 f3] := (Blk.allocAt [.slice a zs.length c, .int .i64 f0, .int .i64 f1, .int .i64 f2, .int .i64 f3] (by simp)).allocOld (by simp) _
 have k1 : Blk ((w.alloc (.cells #[.slice a zs.length c, .int .i64 f0, .int .i64 f1, .int .i64 f2, .int .i64 f3] 51)).alloc (.cells #[.slice a' zs.length c', .int .i64 f0, .int .i64 f1, .int .i64 f2, .int .i64 f3] 51)) (w.heap.size + 1) [.slice a' zs.length c', .int .i64 f0, .int .i64 f1, .int .i64 f2, .int .i64 f3] := Blk.allocAt [.slice a' zs.length c', .int .i64 f0, .int .i64 f1, .int .i64 f2, .int .i64 f3] (by simp)
 have hz : w.heap.size + 1 < ((w.alloc (.cells #[.slice a zs.length c, .int .i64 f0, .int .i64 f1, .int .i64 f2, .int .i64 f3] 51)).alloc (.cells #[.slice a' zs.length c', .int .i64 f0, .int .i64 f1, .int .i64 f2, .int .i64 f3] 51)).heap.size := by simp
 generalize ((w.alloc (.cells #[.slice a zs.length c, .int .i64 f0, .int .i64 f1, .int .i64 f2, .int .i64 f3] 51)).alloc (.cells #[.slice a' zs.length c', .int .i64 f0, .int .i64 f1, .int .i64 f2, .int .i64 f3] 51)) = W at *
 refine (eqIntS_same a zs.length c a' c' zs _ (HR.out.mono hb) ((unhide HR').mono hb) hn).mono ?_
 rintro e w1 ⟨rfl, hb1⟩
 have HB1 := hide (hb.trans (hb1.mono hb.size))
 have K0 := hide (Blk.below hb1 (by omega) k0)
 have K1 := hide (Blk.below hb1 hz k1)
 clear hb hb1 hz k0 k1
 have c0_1 := (K0.out 1 (by simp)).1
 have c0_2 := (K0.out 2 (by simp)).1
 have c0_3 := (K0.out 3 (by simp)).1
 have c0_4 := (K0.out 4 (by simp)).1
 have c1_1 := (K1.out 1 (by simp)).1
 have c1_2 := (K1.out 2 (by simp)).1
 have c1_3 := (K1.out 3 (by simp)).1
 have c1_4 := (K1.out 4 (by simp)).1
 simp only [List.getElem?_cons_zero, List.getElem?_cons_succ] at c0_1 c0_2 c0_3 c0_4 c1_1 c1_2 c1_3 c1_4
 go_wp2_with fail
 go_ret
 exact ⟨rfl, unhide HB1⟩
set_option maxHeartbeats 1000000 in
theorem toShelf_any (f0 f1 f2 f3 : Int) (a : Option Addr) (c : Nat) (zs : List Int) (w : World) (hr : Rd w a zs.length zs) (hn : zs.length ≤ 1048576) :
 Calls Try.prog 38 #[.agg #[.slice a zs.length c, .int .i64 f0, .int .i64 f1, .int .i64 f2, .int .i64 f3]] w fun e w' => ∃ g, e = .returned (.agg #[.slice (some ⟨g, 0, none⟩) zs.length zs.length, .int .i64 f0, .int .i64 f1, .int .i64 f2, .int .i64 f3]) ∧ RowV.own w' w.heap.size ⟨g, zs.length, zs⟩ ∧ Below w.heap.size w w' := by
 have HR := hide hr
 clear hr
 go_enter Try.func38, Try.ntmps38
 go_wp2_with fail
 have hb : Below w.heap.size w (((w.alloc (.cells #[.slice a zs.length c, .int .i64 f0, .int .i64 f1, .int .i64 f2, .int .i64 f3] 61)).alloc (.cells #[.slice none 0 0, .int .i64 0, .int .i64 0, .int .i64 0, .int .i64 0] 51)).alloc (.cells #[.slice none 0 0, .int .i64 0, .int .i64 0, .int .i64 0, .int .i64 0] 51)) := (((Below.refl _ _).alloc (Nat.le_refl _) _).alloc (by simp) _).alloc (by simp; omega) _
 have ha1 : Blk (((w.alloc (.cells #[.slice a zs.length c, .int .i64 f0, .int .i64 f1, .int .i64 f2, .int .i64 f3] 61)).alloc (.cells #[.slice none 0 0, .int .i64 0, .int .i64 0, .int .i64 0, .int .i64 0] 51)).alloc (.cells #[.slice none 0 0, .int .i64 0, .int .i64 0, .int .i64 0, .int .i64 0] 51)) w.heap.size [.slice a zs.length c, .int .i64 f0, .int .i64 f1, .int .i64 f2, .int .i64 f3] := ((Blk.allocAt [.slice a zs.length c, .int .i64 f0, .int .i64 f1, .int .i64 f2, .int .i64 f3] rfl).allocOld (by simp) _).allocOld (by simp; omega) _
 have hr1 : Blk (((w.alloc (.cells #[.slice a zs.length c, .int .i64 f0, .int .i64 f1, .int .i64 f2, .int .i64 f3] 61)).alloc (.cells #[.slice none 0 0, .int .i64 0, .int .i64 0, .int .i64 0, .int .i64 0] 51)).alloc (.cells #[.slice none 0 0, .int .i64 0, .int .i64 0, .int .i64 0, .int .i64 0] 51)) (w.heap.size + 1) [.slice none 0 0, .int .i64 0, .int .i64 0, .int .i64 0, .int .i64 0] := (Blk.allocAt [.slice none 0 0, .int .i64 0, .int .i64 0, .int .i64 0, .int .i64 0] (by simp)).allocOld (by simp) _
 have ho1 : Blk (((w.alloc (.cells #[.slice a zs.length c, .int .i64 f0, .int .i64 f1, .int .i64 f2, .int .i64 f3] 61)).alloc (.cells #[.slice none 0 0, .int .i64 0, .int .i64 0, .int .i64 0, .int .i64 0] 51)).alloc (.cells #[.slice none 0 0, .int .i64 0, .int .i64 0, .int .i64 0, .int .i64 0] 51)) (w.heap.size + 1 + 1) [.slice none 0 0, .int .i64 0, .int .i64 0, .int .i64 0, .int .i64 0] := Blk.allocAt [.slice none 0 0, .int .i64 0, .int .i64 0, .int .i64 0, .int .i64 0] (by simp)
 have hz : w.heap.size + 1 + 1 < (((w.alloc (.cells #[.slice a zs.length c, .int .i64 f0, .int .i64 f1, .int .i64 f2, .int .i64 f3] 61)).alloc (.cells #[.slice none 0 0, .int .i64 0, .int .i64 0, .int .i64 0, .int .i64 0] 51)).alloc (.cells #[.slice none 0 0, .int .i64 0, .int .i64 0, .int .i64 0, .int .i64 0] 51)).heap.size := by simp
 generalize (((w.alloc (.cells #[.slice a zs.length c, .int .i64 f0, .int .i64 f1, .int .i64 f2, .int .i64 f3] 61)).alloc (.cells #[.slice none 0 0, .int .i64 0, .int .i64 0, .int .i64 0, .int .i64 0] 51)).alloc (.cells #[.slice none 0 0, .int .i64 0, .int .i64 0, .int .i64 0, .int .i64 0] 51)) = W at *
 refine (toIntS_any a zs.length c zs W (HR.out.mono hb) hn).mono ?_
 rintro e w1 ⟨rfl, ho, hb1⟩
 have KA := hide (Blk.below hb1 (by omega) ha1)
 have KO := hide (Blk.below hb1 hz ho1)
 have KR := hide (Blk.below hb1 (by omega) hr1)
 have OWN1 : Hid (RowV.own w1 w.heap.size ⟨W.heap.size, zs.length, zs⟩) := World.ownsRow.mono ho hb.size
 have HB1 := hide (hb.trans (hb1.mono hb.size))
 have NW : Hid (w.heap.size + 1 + 1 < W.heap.size) := hz
 clear hb ha1 hr1 ho1 hz ho hb1
 obtain ⟨a0, a1, a2, a3, a4⟩ := Blk.cs5 KA.out
 obtain ⟨o0, of0, o1, of1, o2, of2, o3, of3, o4, of4⟩ := Blk.cf5 KO.out
 obtain ⟨r0, rf0, r1, rf1, r2, rf2, r3, rf3, r4, rf4⟩ := Blk.cf5 KR.out
 go_wp2
 have CC : Blk ((((((((((w1.setCell ⟨w.heap.size + 1 + 1, 0, none⟩ (.slice (some ⟨W.heap.size, 0, none⟩) zs.length zs.length)).setCell ⟨w.heap.size + 1 + 1, 1, none⟩ (.int .i64 f0)).setCell ⟨w.heap.size + 1 + 1, 2, none⟩ (.int .i64 f1)).setCell ⟨w.heap.size + 1 + 1, 3, none⟩ (.int .i64 f2)).setCell ⟨w.heap.size + 1 + 1, 4, none⟩ (.int .i64 f3)).setCell ⟨w.heap.size + 1, 0, none⟩ (.slice (some ⟨W.heap.size, 0, none⟩) zs.length zs.length)).setCell ⟨w.heap.size + 1, 1, none⟩ (.int .i64 f0)).setCell ⟨w.heap.size + 1, 2, none⟩ (.int .i64 f1)).setCell ⟨w.heap.size + 1, 3, none⟩ (.int .i64 f2)).setCell ⟨w.heap.size + 1, 4, none⟩ (.int .i64 f3)) (w.heap.size + 1) [(.slice (some ⟨W.heap.size, 0, none⟩) zs.length zs.length), (.int .i64 f0), (.int .i64 f1), (.int .i64 f2), (.int .i64 f3)] := ((((((((((KR.out.other (by omega)).other (by omega)).other (by omega)).other (by omega)).other (by omega)).set (by simp)).set (by simp)).set (by simp)).set (by simp)).set (by simp))
 have c0 := (CC 0 (by simp)).1
 have c1 := (CC 1 (by simp)).1
 have c2 := (CC 2 (by simp)).1
 have c3 := (CC 3 (by simp)).1
 have c4 := (CC 4 (by simp)).1
 simp only [List.getElem?_cons_zero, List.getElem?_cons_succ] at c0 c1 c2 c3 c4
 have hN := unhide NW
 refine bodyPost_ret (v := .agg #[(.slice (some ⟨W.heap.size, 0, none⟩) zs.length zs.length), (.int .i64 f0), (.int .i64 f1), (.int .i64 f2), (.int .i64 f3)]) (by simp [results, Try.results38, go_sem, c0, c1, c2, c3, c4]) rfl ⟨W.heap.size, rfl, ?_, ?_⟩
 · have k1 : RowV.own (((((w1.setCell ⟨w.heap.size + 1 + 1, 0, none⟩ (.slice (some ⟨W.heap.size, 0, none⟩) zs.length zs.length)).setCell ⟨w.heap.size + 1 + 1, 1, none⟩ (.int .i64 f0)).setCell ⟨w.heap.size + 1 + 1, 2, none⟩ (.int .i64 f1)).setCell ⟨w.heap.size + 1 + 1, 3, none⟩ (.int .i64 f2)).setCell ⟨w.heap.size + 1 + 1, 4, none⟩ (.int .i64 f3)) w.heap.size ⟨W.heap.size, zs.length, zs⟩ := OWN1.out.kept (gb_set (gb_set (gb_set (gb_set (gb_set (World.grownBy.refl w1 (some (w.heap.size + 1 + 1))) 0 _) 1 _) 2 _) 3 _) 4 _) (by intro e; injection e with e; exact absurd e (show W.heap.size ≠ _ by omega))
   exact k1.kept (gb_set (gb_set (gb_set (gb_set (gb_set (World.grownBy.refl _ (some (w.heap.size + 1))) 0 _) 1 _) 2 _) 3 _) 4 _) (by intro e; injection e with e; exact absurd e (show W.heap.size ≠ _ by omega))
 · exact ((((((((((HB1.out.setCell (by dsimp only; omega) _).setCell (by dsimp only; omega) _).setCell (by dsimp only; omega) _).setCell (by dsimp only; omega) _).setCell (by dsimp only; omega) _).setCell (by dsimp only; omega) _).setCell (by dsimp only; omega) _).setCell (by dsimp only; omega) _).setCell (by dsimp only; omega) _).setCell (by dsimp only; omega) _)
end Go.Proofs.Ytcblpoeeembniaa
