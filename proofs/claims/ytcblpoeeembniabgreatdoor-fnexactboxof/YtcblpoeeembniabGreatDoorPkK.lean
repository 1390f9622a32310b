/- Cartons, Cartons2, CarPlain, CheapPlain: one text. -/
import Derived.Test.YtcblpoeeembniabGreatDoorPkA
import Derived.Test.YtcblpoeeembniabGreatDoorPkE
import Derived.Test.YtcblpoeeembniabGreatDoorPackPlain
import Derived.Test.YtcblpoeeembniabGreatDoorPkB
/- Cartons: how they lie in memory; the laws' own sizes, copies and comparisons of them. -/
namespace Go.Proofs.YtcblpoeeembniabGreatDoor
open Go.RowKit
set_option linter.unusedVariables false

structure CarV where (ty grp : Int) (us : List Int)
deriving Inhabited, DecidableEq
/-- The slice at 'a' of length 'n' holds these cartons. -/
def RdC (w : World) (a : Option Addr) (n : Nat) (xs : List CarV) : Prop :=
 xs.length = n ∧ ∀ i, i < n → ∃ b off ai ci, a = some ⟨b, off, none⟩ ∧ w.cell? ⟨b, off + i * 3, none⟩ = some (.int .i64 (xs.getD i default).ty) ∧ w.cell? ⟨b, off + i * 3 + 1, none⟩ = some (.int .i64 (xs.getD i default).grp) ∧
  w.cell? ⟨b, off + i * 3 + 2, none⟩ = some (.slice ai (xs.getD i default).us.length ci) ∧ Rd w ai (xs.getD i default).us.length (xs.getD i default).us
theorem RdC.mono {w w' : World} {a : Option Addr} {n : Nat} {xs : List CarV} (h : RdC w a n xs) (hb : Below w.heap.size w w') : RdC w' a n xs :=
 ⟨h.1, fun i hi => by
  obtain ⟨b, off, ai, ci, ha, h0, h1, h2, hr⟩ := h.2 i hi
  exact ⟨b, off, ai, ci, ha, (hb.cell (World.block_lt_of_cell? w _ h0)).trans h0, (hb.cell (World.block_lt_of_cell? w _ h1)).trans h1, (hb.cell (World.block_lt_of_cell? w _ h2)).trans h2, hr.mono hb⟩⟩
/-- A carton in a row of cartons, its units in a block of their own. -/
structure CRow where (ty grp : Int) (g cap : Nat) (l : List Int)
deriving Inhabited
def CRow.row (r : CRow) : RowV := ⟨r.g, r.cap, r.l⟩
def CRow.car (r : CRow) : CarV := ⟨r.ty, r.grp, r.l⟩
def CRow.cells (r : CRow) : List Value := [.int .i64 r.ty, .int .i64 r.grp, .slice (some ⟨r.g, 0, none⟩) r.l.length r.cap]
theorem CRow.len (r : CRow) : r.cells.length = 3 := rfl
def cellsC (xs : List CRow) : List Value := xs.flatMap CRow.cells
theorem cellsC_len (xs : List CRow) : (cellsC xs).length = xs.length * 3 := by
 induction xs with
 | nil => rfl
 | cons x xs ih => unfold cellsC at *; rw [List.flatMap_cons, List.length_append, ih, CRow.len, List.length_cons]; omega
theorem cellsC_snoc (xs : List CRow) (r : CRow) : cellsC (xs ++ [r]) = cellsC xs ++ r.cells := by simp [cellsC]
theorem cellsC_at : ∀ (xs : List CRow) (i j : Nat), i < xs.length → j < 3 → (cellsC xs)[i * 3 + j]? = ((xs.getD i default).cells)[j]?
 | [], i, j, h, _ => absurd h (Nat.not_lt_zero _)
 | x :: xs, 0, j, h, hj => by
  unfold cellsC
  rw [List.flatMap_cons, Nat.zero_mul, Nat.zero_add, List.getElem?_append_left (by rw [CRow.len]; exact hj)]
  rfl
 | x :: xs, i + 1, j, h, hj => by
  have ih := cellsC_at xs i j (by simpa using h) hj
  unfold cellsC at ih ⊢
  rw [List.flatMap_cons, List.getElem?_append_right (by rw [CRow.len]; omega), CRow.len, show (i + 1) * 3 + j - 3 = i * 3 + j by omega, ih]
  rfl
theorem cellsC_set : ∀ (xs : List CRow) (i : Nat) (r : CRow), i < xs.length → cellsC (xs.set i r) = writeRow (cellsC xs) (i * 3) r.cells := by
 intro xs i r hi
 refine List.ext_getElem? fun m => ?_
 have hl : (i + 1) * 3 ≤ xs.length * 3 := Nat.mul_le_mul_right 3 hi
 rw [writeRow_get _ _ _ _ (by rw [cellsC_len, CRow.len]; omega), CRow.len]
 by_cases hm : m < xs.length * 3
 · obtain ⟨q, j, hj, rfl⟩ : ∃ q j, j < 3 ∧ m = q * 3 + j := ⟨m / 3, m % 3, Nat.mod_lt _ (by omega), by omega⟩
   have hq : q < xs.length := by omega
   rw [cellsC_at (xs.set i r) q j (by simpa using hq) hj]
   by_cases e : q = i
   · subst e
     rw [if_pos (by omega), show q * 3 + j - q * 3 = j by omega]
     simp [List.getD_eq_getElem?_getD, hi]
   · rw [if_neg (by omega), cellsC_at xs q j hq hj]
     simp only [List.getD_eq_getElem?_getD]
     rw [List.getElem?_set_ne (fun x => e x.symm)]
 · rw [if_neg (by omega), List.getElem?_eq_none (by rw [cellsC_len]; simpa using hm), List.getElem?_eq_none (by rw [cellsC_len]; omega)]
/-- A row of cartons, all of it owned. -/
structure OwnC (w : World) (B g cap : Nat) (xs : List CRow) : Prop where
 out : w.ownsRow B 43 3 (.slice (some ⟨g, 0, none⟩) xs.length cap) xs.length (cellsC xs)
 rws : Rws w B g (xs.map CRow.row)
theorem OwnC.later {w w' : World} {B g cap : Nat} {xs : List CRow} (h : OwnC w B g cap xs) (hb : Below w.heap.size w w') : OwnC w' B g cap xs := ⟨own_later h.out hb, h.rws.later hb⟩
theorem OwnC.cell {w : World} {B g cap : Nat} {xs : List CRow} (h : OwnC w B g cap xs) (i : Nat) (hi : i < xs.length) (j : Nat) (hj : j < 3) : w.cell? ⟨g, i * 3 + j, none⟩ = ((xs.getD i default).cells)[j]? ∧ w.frozen? ⟨g, i * 3 + j, none⟩ = false := by
 have hl : (i + 1) * 3 ≤ xs.length * 3 := Nat.mul_le_mul_right 3 hi
 exact ⟨(h.out.cellAt _ (by omega)).trans (cellsC_at xs i j hi hj), h.out.frozenAt _⟩
theorem getD_map_row (xs : List CRow) (i : Nat) (h : i < xs.length) : (xs.map CRow.row).getD i default = (xs.getD i default).row := by simp [List.getD_eq_getElem?_getD, h]
theorem getD_map_car (xs : List CRow) (i : Nat) (h : i < xs.length) : (xs.map CRow.car).getD i default = (xs.getD i default).car := by simp [List.getD_eq_getElem?_getD, h]
theorem OwnC.rowAt {w : World} {B g cap : Nat} {xs : List CRow} (h : OwnC w B g cap xs) (i : Nat) (hi : i < xs.length) : RowV.own w B (xs.getD i default).row := by
 have := h.rws.row i (by simpa using hi)
 rwa [getD_map_row xs i hi] at this
theorem OwnC.read {w : World} {B g cap : Nat} {xs : List CRow} (h : OwnC w B g cap xs) : RdC w (some ⟨g, 0, none⟩) xs.length (xs.map CRow.car) := by
 refine ⟨by simp, fun i hi => ?_⟩
 rw [getD_map_car xs i hi]
 refine ⟨g, 0, some ⟨(xs.getD i default).g, 0, none⟩, (xs.getD i default).cap, rfl, ?_, ?_, ?_, own_reads (h.rowAt i hi)⟩ <;> rw [Nat.zero_add]
 · exact (h.cell i hi 0 (by omega)).1
 · exact (h.cell i hi 1 (by omega)).1
 · exact (h.cell i hi 2 (by omega)).1
theorem OwnC.low {w : World} {B B' g cap : Nat} {xs : List CRow} (h : OwnC w B g cap xs) (hb : B' ≤ B) : OwnC w B' g cap xs :=
 ⟨h.out.mono hb, ⟨fun i hi => World.ownsRow.mono (h.rws.row i hi) hb, h.rws.apart, h.rws.far⟩⟩
def totC (xs : List CarV) : Nat := (xs.map fun x => x.us.length).sum
theorem totC_step (xs : List CarV) (k : Nat) (h : k < xs.length) : totC (xs.take (k + 1)) = totC (xs.take k) + (xs.getD k default).us.length := by
 unfold totC
 rw [List.take_succ_eq_append_getElem h, List.map_append, List.sum_append]
 congr 1
 simp [h]
theorem totC_le (xs : List CarV) (k : Nat) (h : k < xs.length) : (xs.getD k default).us.length ≤ totC xs := by
 have h1 := totC_step xs k h
 have h2 : totC (xs.take (k + 1)) ≤ totC xs := by
  unfold totC
  conv => rhs; rw [← List.take_append_drop (k + 1) xs, List.map_append, List.sum_append]
  omega
 omega

theorem szCarton_any (t p : Int) (a : Option Addr) (n c : Nat) (l : Int) (w : World) (hn : n ≤ maxLen) (h0 : 0 ≤ l) (hl : l ≤ 1048576) :
 Calls Tryz.prog 6 #[.agg #[.int .i64 t, .int .i64 p, .slice a n c], .int .i64 l] w fun e w' => e = .returned (.int .i64 (if l - n < 0 then -1 else l - n)) ∧ Below w.heap.size w w' := by
 by_cases h : l - n < 0
 all_goals
  go_enter Tryz.func6, Tryz.ntmps6
  go_wp2_with fail
  refine (szIntS_any a n c l _ hn h0 hl).mono ?_
  rintro e w1 ⟨rfl, hw⟩
  subst w1
  have hs : ¬ 0 ≤ l - (n : Int) ↔ l - (n : Int) < 0 := by omega
  first | rw [if_pos (by omega)] | rw [if_neg (by omega)]
  go_wp2_with fail
  go_ret
  exact ⟨rfl, (Below.refl _ _).alloc (Nat.le_refl _) _⟩
set_option maxHeartbeats 800000 in
theorem eqCarton_same (t p : Int) (a : Option Addr) (c : Nat) (a' : Option Addr) (c' : Nat) (zs : List Int) (w : World) (hr : Rd w a zs.length zs) (hr' : Rd w a' zs.length zs) (hn : zs.length ≤ 1048576) :
 Calls Tryz.prog 13 #[.agg #[.int .i64 t, .int .i64 p, .slice a zs.length c], .agg #[.int .i64 t, .int .i64 p, .slice a' zs.length c']] w fun e w' => e = .returned (.bool true) ∧ Below w.heap.size w w' := by
 have HR := hide hr
 have HR' := hide hr'
 have hne : (t != t) = false := by simp
 have hne2 : (p != p) = false := by simp
 clear hr hr'
 go_enter Tryz.func13, Tryz.ntmps13
 go_wp2_with fail
 have hb : Below w.heap.size w ((w.alloc (.cells #[.int .i64 t, .int .i64 p, .slice a zs.length c] 43)).alloc (.cells #[.int .i64 t, .int .i64 p, .slice a' zs.length c'] 43)) := ((Below.refl _ _).alloc (Nat.le_refl _) _).alloc (by simp) _
 refine (eqIntS_same a zs.length c a' c' zs _ (HR.out.mono hb) ((unhide HR').mono hb) hn).mono ?_
 rintro e w1 ⟨rfl, hb1⟩
 have HB1 := hide (hb.trans (hb1.mono hb.size))
 clear hb hb1
 go_wp2_with fail
 go_ret
 exact ⟨rfl, unhide HB1⟩
set_option maxHeartbeats 1000000 in
theorem toCarton_any (t p : Int) (a : Option Addr) (c : Nat) (zs : List Int) (w : World) (hr : Rd w a zs.length zs) (hn : zs.length ≤ 1048576) :
 Calls Tryz.prog 9 #[.agg #[.int .i64 t, .int .i64 p, .slice a zs.length c]] w fun e w' => ∃ g, e = .returned (.agg #[.int .i64 t, .int .i64 p, .slice (some ⟨g, 0, none⟩) zs.length zs.length]) ∧ RowV.own w' w.heap.size ⟨g, zs.length, zs⟩ ∧ Below w.heap.size w w' := by
 have HR := hide hr
 clear hr
 go_enter Tryz.func9, Tryz.ntmps9
 go_wp2_with fail
 have hb : Below w.heap.size w (((w.alloc (.cells #[.int .i64 t, .int .i64 p, .slice a zs.length c] 31)).alloc (.cells #[.int .i64 0, .int .i64 0, .slice none 0 0] 43)).alloc (.cells #[.int .i64 t, .int .i64 p, .slice none 0 0] 43)) := (((Below.refl _ _).alloc (Nat.le_refl _) _).alloc (by simp) _).alloc (by simp; omega) _
 have hr1 : Blk (((w.alloc (.cells #[.int .i64 t, .int .i64 p, .slice a zs.length c] 31)).alloc (.cells #[.int .i64 0, .int .i64 0, .slice none 0 0] 43)).alloc (.cells #[.int .i64 t, .int .i64 p, .slice none 0 0] 43)) (w.heap.size + 1) [.int .i64 0, .int .i64 0, .slice none 0 0] := (Blk.allocAt [.int .i64 0, .int .i64 0, .slice none 0 0] (by simp)).allocOld (by simp) _
 have ho1 : Blk (((w.alloc (.cells #[.int .i64 t, .int .i64 p, .slice a zs.length c] 31)).alloc (.cells #[.int .i64 0, .int .i64 0, .slice none 0 0] 43)).alloc (.cells #[.int .i64 t, .int .i64 p, .slice none 0 0] 43)) (w.heap.size + 1 + 1) [.int .i64 t, .int .i64 p, .slice none 0 0] := Blk.allocAt [.int .i64 t, .int .i64 p, .slice none 0 0] (by simp)
 have hz : w.heap.size + 1 + 1 < (((w.alloc (.cells #[.int .i64 t, .int .i64 p, .slice a zs.length c] 31)).alloc (.cells #[.int .i64 0, .int .i64 0, .slice none 0 0] 43)).alloc (.cells #[.int .i64 t, .int .i64 p, .slice none 0 0] 43)).heap.size := by simp
 generalize (((w.alloc (.cells #[.int .i64 t, .int .i64 p, .slice a zs.length c] 31)).alloc (.cells #[.int .i64 0, .int .i64 0, .slice none 0 0] 43)).alloc (.cells #[.int .i64 t, .int .i64 p, .slice none 0 0] 43)) = W at *
 refine (toIntS_any a zs.length c zs W (HR.out.mono hb) hn).mono ?_
 rintro e w1 ⟨rfl, ho, hb1⟩
 have KO := hide (Blk.below hb1 hz ho1)
 have KR := hide (Blk.below hb1 (by omega) hr1)
 have OW : Hid (RowV.own w1 w.heap.size ⟨W.heap.size, zs.length, zs⟩) := World.ownsRow.mono ho hb.size
 have HB1 := hide (hb.trans (hb1.mono hb.size))
 have NW : Hid (w.heap.size + 1 + 1 < W.heap.size) := hz
 clear hb hr1 ho1 hz ho hb1
 obtain ⟨o0, of0, o1, of1, o2, of2⟩ := Blk.cf3 KO.out
 obtain ⟨r0, rf0, r1, rf1, r2, rf2⟩ := Blk.cf3 KR.out
 go_wp2
 have CC : Blk ((((w1.setCell ⟨w.heap.size + 1 + 1, 2, none⟩ (.slice (some ⟨W.heap.size, 0, none⟩) zs.length zs.length)).setCell ⟨w.heap.size + 1, 0, none⟩ (.int .i64 t)).setCell ⟨w.heap.size + 1, 1, none⟩ (.int .i64 p)).setCell ⟨w.heap.size + 1, 2, none⟩ (.slice (some ⟨W.heap.size, 0, none⟩) zs.length zs.length)) (w.heap.size + 1) [.int .i64 t, .int .i64 p, (.slice (some ⟨W.heap.size, 0, none⟩) zs.length zs.length)] := Blk.fill3 (KR.out.other (by omega))
 have c0 := (CC 0 (by simp)).1
 have c1 := (CC 1 (by simp)).1
 have c2 := (CC 2 (by simp)).1
 simp only [List.getElem?_cons_zero, List.getElem?_cons_succ] at c0 c1 c2
 have hN := unhide NW
 have e1 : ∀ b, b ≠ W.heap.size → ¬ (Value.slice (some ⟨W.heap.size, 0, none⟩) zs.length zs.length).ownBlock = some b := by intro b hb e; simp [Value.ownBlock] at e; exact hb e.symm
 refine bodyPost_ret (v := .agg #[.int .i64 t, .int .i64 p, (.slice (some ⟨W.heap.size, 0, none⟩) zs.length zs.length)]) (by simp [results, Tryz.results9, go_sem, c0, c1, c2]) rfl ⟨W.heap.size, rfl, ?_, ?_⟩
 · have g1 := gb_set (World.grownBy.refl w1 (some (w.heap.size + 1 + 1))) 2 (.slice (some ⟨W.heap.size, 0, none⟩) zs.length zs.length)
   have k1 : RowV.own (w1.setCell ⟨w.heap.size + 1 + 1, 2, none⟩ (.slice (some ⟨W.heap.size, 0, none⟩) zs.length zs.length)) w.heap.size ⟨W.heap.size, zs.length, zs⟩ := OW.out.kept g1 (by intro e; injection e with e; exact absurd e (show W.heap.size ≠ _ by omega))
   exact k1.kept (gb_set (gb_set (gb_set (World.grownBy.refl _ (some (w.heap.size + 1))) 0 _) 1 _) 2 _) (by intro e; injection e with e; exact absurd e (show W.heap.size ≠ _ by omega))
 · exact (((HB1.out.setCell (by dsimp only; omega) _).setCell (by dsimp only; omega) _).setCell (by dsimp only; omega) _).setCell (by dsimp only; omega) _
end Go.Proofs.YtcblpoeeembniabGreatDoor

/- Rows of cartons: the laws' copies and comparisons. -/
namespace Go.Proofs.YtcblpoeeembniabGreatDoor
open Go.RowKit
set_option linter.unusedVariables false

theorem rowsC_step {n k : Nat} {xs : List CRow} {r : CRow} {L : List Value} (hl : xs.length = k) (hLl : L.length = n * 3) (hk : k < n) (hL : ∀ i, i < k → ∀ j, j < 3 → L[i * 3 + j]? = ((xs.getD i default).cells)[j]?) :
 ∀ i, i < k + 1 → ∀ j, j < 3 → (writeRow L (k * 3) r.cells)[i * 3 + j]? = (((xs ++ [r]).getD i default).cells)[j]? := by
 intro i hi j hj
 rw [writeRow_get _ _ _ _ (by rw [CRow.len, hLl]; omega), CRow.len]
 by_cases e : i = k
 · subst e
   rw [if_pos (by omega), show i * 3 + j - i * 3 = j by omega, ← hl, getD_snoc_eq]
 · rw [if_neg (by omega), hL i (by omega) j hj, getD_snoc_lt (by omega)]
theorem rowsC_all {n : Nat} {xs : List CRow} {L : List Value} (hl : xs.length = n) (hLl : L.length = n * 3) (hL : ∀ i, i < n → ∀ j, j < 3 → L[i * 3 + j]? = ((xs.getD i default).cells)[j]?) : L = cellsC xs := by
 refine List.ext_getElem? fun m => ?_
 by_cases hm : m < n * 3
 · obtain ⟨q, j, hj, rfl⟩ : ∃ q j, j < 3 ∧ m = q * 3 + j := ⟨m / 3, m % 3, Nat.mod_lt _ (by omega), by omega⟩
   rw [hL q (by omega) j hj, cellsC_at xs q j (by omega) hj]
 · rw [List.getElem?_eq_none (by omega), List.getElem?_eq_none (by rw [cellsC_len]; omega)]
theorem Tryz.infoCarton : (Tryz.prog.info? 43).map (fun i => (i.zero, i.size, i.bytes)) = some (some (.agg #[.int .i64 0, .int .i64 0, .slice none 0 0]), 3, 40) := by kernel_rfl
end Go.Proofs.YtcblpoeeembniabGreatDoor

/- The right carton, plain: the type of a number, the cheapest type, the cartons, what they weigh and cost. -/
namespace Go.Proofs.YtcblpoeeembniabGreatDoor
open Go.RowKit
set_option linter.unusedVariables false

theorem type_nums {t : TypeV} (h : t.ok = true) : 0 ≤ t.tare ∧ t.tare ≤ 100000 ∧ 1 ≤ t.gram ∧ t.gram ≤ 100000 ∧ 0 ≤ t.cost ∧ t.cost ≤ 1000000 := by
 simp [TypeV.ok, typeB, inB] at h
 omega
theorem types_ok {r : ReqV} (h : classI r = 0) : ∀ q ∈ r.types, q.ok = true := by
 obtain ⟨h1, h2, _⟩ := class_zero h
 simp only [boundsB, Bool.and_eq_true] at h1
 have h5 := h1.1.1.2
 simp only [typesB, Bool.and_eq_true, List.all_eq_true] at h5
 exact h5.2
theorem byId_mem {r : ReqV} {m : Int} (h : byIdB r m = true) : byIdV r m ∈ r.types ∧ (byIdV r m).id = m := by
 cases hf : r.types.find? (isId m) with
 | none => rw [(byId_none hf).2] at h; cases h
 | some q =>
  rw [(byId_hit hf).1]
  have := List.find?_some hf
  exact ⟨List.mem_of_find?_eq_some hf, by simpa [isId] using this⟩
theorem byId_out {r : ReqV} {m : Int} (h : byIdB r m = false) : byIdV r m = TypeV.zero := by
 cases hf : r.types.find? (isId m) with
 | none => exact (byId_none hf).1
 | some q => rw [(byId_hit hf).2] at h; cases h
theorem byId_bd {r : ReqV} (h : classI r = 0) (m : Int) : 0 ≤ (byIdV r m).tare ∧ (byIdV r m).tare ≤ 100000 ∧ 0 ≤ (byIdV r m).gram ∧ (byIdV r m).gram ≤ 100000 ∧ 0 ≤ (byIdV r m).cost ∧ (byIdV r m).cost ≤ 1000000 := by
 cases hb : byIdB r m
 · rw [byId_out hb]; simp [TypeV.zero]
 · have := type_nums (types_ok h _ (byId_mem hb).1)
   omega
/-- What a carton weighs in all. -/
def grossR (r : ReqV) (x : CarV) : Int := if classI r = 0 ∧ byIdB r x.ty = true then (byIdV r x.ty).tare + gramOf (itemsR r) x.us else 0
def costTo (r : ReqV) (xs : List CarV) : Int := (xs.map fun x => (byIdV r x.ty).cost).sum
def costR (r : ReqV) (xs : List CarV) : Int := if classI r = 0 then costTo r xs else 0
theorem costTo_step (r : ReqV) (xs : List CarV) (k : Nat) (h : k < xs.length) : costTo r (xs.take (k + 1)) = costTo r (xs.take k) + (byIdV r (xs.getD k default).ty).cost := by
 unfold costTo
 rw [List.take_succ_eq_append_getElem h, List.map_append, List.sum_append]
 congr 1
 simp [h]
theorem costTo_bd {r : ReqV} (h : classI r = 0) : ∀ xs : List CarV, 0 ≤ costTo r xs ∧ costTo r xs ≤ 1000000 * xs.length
 | [] => by simp [costTo]
 | x :: xs => by
  have ih := costTo_bd h xs
  have := byId_bd h x.ty
  simp only [costTo, List.map_cons, List.sum_cons, List.length_cons] at *
  omega
/-- The cheapest of two, of equal ones the one of the lesser number. -/
def lessT (a b : TypeV) : Bool := decide (a.cost < b.cost) || (decide (a.cost = b.cost) && decide (a.id < b.id))
def minT (o : Option TypeV) (t : TypeV) : Option TypeV := match o with | none => some t | some b => if lessT t b = true then some t else some b
def leastT (l : List TypeV) : Option TypeV := l.foldl minT none
def holding (r : ReqV) (us : List Int) (l : List TypeV) : List TypeV := l.filter (holdsR r us)
def cheapV (r : ReqV) (us : List Int) : TypeV := (leastT (holding r us r.types)).getD TypeV.zero
def cheapB (r : ReqV) (us : List Int) : Bool := (leastT (holding r us r.types)).isSome
theorem leastT_snoc (l : List TypeV) (t : TypeV) : leastT (l ++ [t]) = minT (leastT l) t := by simp [leastT, List.foldl_append]
theorem minT_some (o : Option TypeV) (t : TypeV) : ∃ q, minT o t = some q := by
 cases o with
 | none => exact ⟨t, rfl⟩
 | some b => simp only [minT]; split <;> exact ⟨_, rfl⟩
theorem holding_hit {r : ReqV} {us : List Int} {l : List TypeV} {k : Nat} (hk : k < l.length) (h : holdsR r us (l.getD k default) = true) : holding r us (l.take (k + 1)) = holding r us (l.take k) ++ [l.getD k default] := by
 unfold holding
 rw [List.take_succ_eq_append_getElem hk, List.filter_append]
 have e : l.getD k default = l[k] := by simp [hk]
 rw [e] at h ⊢
 simp [h]
theorem holding_miss {r : ReqV} {us : List Int} {l : List TypeV} {k : Nat} (hk : k < l.length) (h : holdsR r us (l.getD k default) = false) : holding r us (l.take (k + 1)) = holding r us (l.take k) := by
 unfold holding
 rw [List.take_succ_eq_append_getElem hk, List.filter_append]
 have e : l.getD k default = l[k] := by simp [hk]
 rw [e] at h
 simp [h]
theorem holding_len (r : ReqV) (us : List Int) (l : List TypeV) : (holding r us l).length ≤ l.length := List.length_filter_le _ _
/-- A carton's units, ascending. -/
def upL (c : List Int) : List Int := (sortP c false (List.range c.length)).map fun (i : Nat) => c.getD i 0
def cartonOf (r : ReqV) (k : Nat) (c : List Int) : CarV := ⟨(cheapV r c).id, (k : Int), upL c⟩
def cartonsTo (r : ReqV) (k : Nat) : List CarV := (List.range k).flatMap fun (i : Nat) => (packR r (unitsOfR r (i : Int))).map (cartonOf r i)
def cartonsR (r : ReqV) : List CarV := cartonsTo r (groupsR r).length
theorem cartonsTo_step (r : ReqV) (k : Nat) : cartonsTo r (k + 1) = cartonsTo r k ++ (packR r (unitsOfR r (k : Int))).map (cartonOf r k) := by
 simp [cartonsTo, List.range_succ, List.flatMap_append]
theorem map_take_step {α β : Type} [Inhabited α] (f : α → β) (l : List α) (i : Nat) (h : i < l.length) : (l.take (i + 1)).map f = (l.take i).map f ++ [f (l.getD i default)] := by
 rw [List.take_succ_eq_append_getElem h, List.map_append]
 simp [h]
theorem upL_perm (c : List Int) : (upL c).Perm c := by
 have h := (sortP_perm c false (List.range c.length)).map (fun (i : Nat) => c.getD i 0)
 refine h.trans (List.Perm.of_eq (List.ext_getElem? fun m => ?_))
 by_cases hm : m < c.length
 · simp [hm]
 · rw [List.getElem?_eq_none (by simpa using hm), List.getElem?_eq_none (by omega)]
theorem upL_up (c : List Int) : (upL c).Pairwise (· ≤ ·) := by
 unfold upL
 rw [List.pairwise_map]
 refine (sortP_sorted c false (List.range c.length) List.nodup_range).imp ?_
 intro a b h
 rcases h with h | h
 · simp [lts, key] at h; simp only [List.getD_eq_getElem?_getD]; omega
 · have h1 := h.1
   simp [lts, key] at h1; simp only [List.getD_eq_getElem?_getD]; omega
theorem up_unique : ∀ {l l' : List Int}, l.Perm l' → l.Pairwise (· ≤ ·) → l'.Pairwise (· ≤ ·) → l = l' := by
 intro l l' hp h h'
 exact hp.eq_of_pairwise (fun a b _ _ h1 h2 => by omega) h h'
theorem upL_eq {M c : List Int} (hp : M.Perm c) (hu : M.Pairwise (· ≤ ·)) : M = upL c := up_unique (hp.trans (upL_perm c).symm) hu (upL_up c)
end Go.Proofs.YtcblpoeeembniabGreatDoor

/- The cheapest type, plain. -/
namespace Go.Proofs.YtcblpoeeembniabGreatDoor
open Go.RowKit
set_option linter.unusedVariables false
theorem flat_at {α : Type} [Inhabited α] {cells : α → List Value} {k : Nat} (hlen : ∀ q, (cells q).length = k) : ∀ (L : List α) (i : Nat), i < L.length → ∀ j, j < k → (L.flatMap cells)[i * k + j]? = (cells (L.getD i default))[j]?
 | [], i, h, _, _ => absurd h (Nat.not_lt_zero _)
 | x :: xs, 0, h, j, hj => by
  rw [List.flatMap_cons, Nat.zero_mul, Nat.zero_add, List.getElem?_append_left (by rw [hlen]; exact hj)]
  rfl
 | x :: xs, i + 1, h, j, hj => by
  have ih := flat_at hlen xs i (by simpa using h) j hj
  rw [List.flatMap_cons, List.getElem?_append_right (by rw [hlen, Nat.succ_mul]; omega), hlen, show (i + 1) * k + j - k = i * k + j by rw [Nat.succ_mul]; omega, ih]
  rfl
def costC (a b : TypeV) : Int := if cmpI a.cost b.cost = 0 then cmpI a.id b.id else cmpI a.cost b.cost
theorem costC_yes {a b : TypeV} (h : lessT a b = true) : costC a b < 0 := by
 simp only [lessT, Bool.or_eq_true, Bool.and_eq_true, decide_eq_true_eq] at h
 unfold costC cmpI
 rcases h with h | ⟨h, h'⟩
 · simp [h]
 · simp [h, h']
theorem costC_no {a b : TypeV} (h : lessT a b = false) : ¬ costC a b < 0 := by
 simp only [lessT, Bool.or_eq_false_iff, Bool.and_eq_false_iff, decide_eq_false_iff_not] at h
 obtain ⟨h1, h2⟩ := h
 unfold costC cmpI
 by_cases e : a.cost = b.cost
 · have h3 : ¬ a.id < b.id := by rcases h2 with h2 | h2; exact absurd e h2; exact h2
   simp [e, h3]
   split <;> omega
 · have : b.cost < a.cost := by omega
   simp [h1, this]
theorem leastT_one (l : List TypeV) (h : l.length = 1) : leastT l = some (l.getD 0 default) := by
 match l, h with
 | [x], _ => rfl
theorem leastT_isSome (l : List TypeV) : (leastT l).isSome = decide (0 < l.length) := by
 rcases List.eq_nil_or_concat l with rfl | ⟨ys, y, rfl⟩
 · rfl
 · rw [List.concat_eq_append, leastT_snoc]
   obtain ⟨q, hq⟩ := minT_some (leastT ys) y
   rw [hq]
   simp
theorem least_step {l : List TypeV} {k : Nat} (hk : k < l.length) : leastT (l.take (k + 1)) = minT (leastT (l.take k)) (l.getD k default) := by
 rw [List.take_succ_eq_append_getElem hk, leastT_snoc]
 congr 1
 simp [hk]
theorem least_first {l : List TypeV} (hk : 0 < l.length) : leastT (l.take 1) = some (l.getD 0 default) := by
 rw [least_step hk]; rfl
theorem least_yes {l : List TypeV} {k : Nat} {m : TypeV} (hk : k < l.length) (h0 : 0 < k) (hm : (leastT (l.take k)).getD TypeV.zero = m) (h : lessT (l.getD k default) m = true) : (leastT (l.take (k + 1))).getD TypeV.zero = l.getD k default := by
 have hs := leastT_isSome (l.take k)
 rw [List.length_take, show min k l.length = k by omega, decide_eq_true h0] at hs
 obtain ⟨q, hq⟩ := Option.isSome_iff_exists.1 hs
 rw [hq] at hm
 rw [least_step hk, hq]
 simp only [Option.getD_some] at hm
 subst hm
 simp only [minT]
 rw [if_pos h]
 rfl
theorem least_no {l : List TypeV} {k : Nat} {m : TypeV} (hk : k < l.length) (h0 : 0 < k) (hm : (leastT (l.take k)).getD TypeV.zero = m) (h : lessT (l.getD k default) m = false) : (leastT (l.take (k + 1))).getD TypeV.zero = m := by
 have hs := leastT_isSome (l.take k)
 rw [List.length_take, show min k l.length = k by omega, decide_eq_true h0] at hs
 obtain ⟨q, hq⟩ := Option.isSome_iff_exists.1 hs
 rw [hq] at hm
 rw [least_step hk, hq]
 simp only [Option.getD_some] at hm
 subst hm
 simp only [minT]
 rw [if_neg (by rw [h]; decide)]
 rfl
theorem ret_type {p q : TypeV} {a b : Bool} (h1 : p = q) (h2 : a = b) : Ending.returned (.tuple #[.agg #[.int .i64 p.id, .int .i64 p.wd, .int .i64 p.ht, .int .i64 p.dp, .int .i64 p.tare, .int .i64 p.gram, .int .i64 p.cost], .bool a]) = .returned (.tuple #[.agg #[.int .i64 q.id, .int .i64 q.wd, .int .i64 q.ht, .int .i64 q.dp, .int .i64 q.tare, .int .i64 q.gram, .int .i64 q.cost], .bool b]) := by rw [h1, h2]
theorem Blk.others7 {w : World} {g g' : Nat} {cs : List Value} {b0 b1 b2 b3 b4 b5 b6 : Value} (h : Blk w g cs) (hne : g ≠ g') : Blk (((((((w.setCell ⟨g', 0, none⟩ b0).setCell ⟨g', 1, none⟩ b1).setCell ⟨g', 2, none⟩ b2).setCell ⟨g', 3, none⟩ b3).setCell ⟨g', 4, none⟩ b4).setCell ⟨g', 5, none⟩ b5).setCell ⟨g', 6, none⟩ b6) g cs :=
 ((((((h.other hne).other hne).other hne).other hne).other hne).other hne).other hne
end Go.Proofs.YtcblpoeeembniabGreatDoor
