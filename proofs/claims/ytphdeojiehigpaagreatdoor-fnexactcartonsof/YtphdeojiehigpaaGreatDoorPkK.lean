/- Cartons, Cartons2, CarPlain, CheapPlain: one text. -/
import Derived.Test.YtphdeojiehigpaaGreatDoorPkA
import Derived.Test.YtphdeojiehigpaaGreatDoorPkE
import Derived.Test.YtphdeojiehigpaaGreatDoorPackPlain
import Derived.Test.YtphdeojiehigpaaGreatDoorPkB
/- Cartons: how they lie in memory; the laws' own sizes, copies and comparisons of them. -/
namespace Go.Proofs.YtphdeojiehigpaaGreatDoor
open Go.RowKit
set_option linter.unusedVariables false

structure CarV where (ty grp : Int) (us : List Int)
deriving Inhabited, DecidableEq
/-- The slice at 'a' of length 'n' holds these cartons. -/
def RdC (w : World) (a : Option Addr) (n : Nat) (xs : List CarV) : Prop :=
  xs.length = n ∧ ∀ i, i < n → ∃ b off ai ci, a = some ⟨b, off, none⟩ ∧ w.cell? ⟨b, off + i * 3, none⟩ = some (.int .i64 (xs.getD i default).ty) ∧ w.cell? ⟨b, off + i * 3 + 1, none⟩ = some (.int .i64 (xs.getD i default).grp) ∧
    w.cell? ⟨b, off + i * 3 + 2, none⟩ = some (.slice ai (xs.getD i default).us.length ci) ∧ Rd w ai (xs.getD i default).us.length (xs.getD i default).us
theorem RdC.mono {w w' : World} {a : Option Addr} {n : Nat} {xs : List CarV} (h : RdC w a n xs) (hb : Below w.heap.size w w') : RdC w' a n xs :=
  ⟨h.1, fun i hi => by
    obtain ⟨b, off, ai, ci, ha, h0, h1, h2, hr⟩ := h.2 i hi
    exact ⟨b, off, ai, ci, ha, (hb.cell (World.block_lt_of_cell? w _ h0)).trans h0, (hb.cell (World.block_lt_of_cell? w _ h1)).trans h1, (hb.cell (World.block_lt_of_cell? w _ h2)).trans h2, hr.mono hb⟩⟩
/-- A carton in a row of cartons, its units in a block of their own. -/
structure CRow where (ty grp : Int) (g cap : Nat) (l : List Int)
deriving Inhabited
def CRow.row (r : CRow) : RowV := ⟨r.g, r.cap, r.l⟩
def CRow.car (r : CRow) : CarV := ⟨r.ty, r.grp, r.l⟩
def CRow.cells (r : CRow) : List Value := [.int .i64 r.ty, .int .i64 r.grp, .slice (some ⟨r.g, 0, none⟩) r.l.length r.cap]
theorem CRow.len (r : CRow) : r.cells.length = 3 := rfl
def cellsC (xs : List CRow) : List Value := xs.flatMap CRow.cells
theorem cellsC_len (xs : List CRow) : (cellsC xs).length = xs.length * 3 := by
  induction xs with
  | nil => rfl
  | cons x xs ih => unfold cellsC at *; rw [List.flatMap_cons, List.length_append, ih, CRow.len, List.length_cons]; omega
theorem cellsC_snoc (xs : List CRow) (r : CRow) : cellsC (xs ++ [r]) = cellsC xs ++ r.cells := by simp [cellsC]
theorem cellsC_at : ∀ (xs : List CRow) (i j : Nat), i < xs.length → j < 3 → (cellsC xs)[i * 3 + j]? = ((xs.getD i default).cells)[j]?
  | [], i, j, h, _ => absurd h (Nat.not_lt_zero _)
  | x :: xs, 0, j, h, hj => by
    unfold cellsC
    rw [List.flatMap_cons, Nat.zero_mul, Nat.zero_add, List.getElem?_append_left (by rw [CRow.len]; exact hj)]
    rfl
  | x :: xs, i + 1, j, h, hj => by
    have ih := cellsC_at xs i j (by simpa using h) hj
    unfold cellsC at ih ⊢
    rw [List.flatMap_cons, List.getElem?_append_right (by rw [CRow.len]; omega), CRow.len, show (i + 1) * 3 + j - 3 = i * 3 + j by omega, ih]
    rfl
/-- A row of cartons, all of it owned. -/
structure OwnC (w : World) (B g cap : Nat) (xs : List CRow) : Prop where
  out : w.ownsRow B 42 3 (.slice (some ⟨g, 0, none⟩) xs.length cap) xs.length (cellsC xs)
  rws : Rws w B g (xs.map CRow.row)
theorem OwnC.later {w w' : World} {B g cap : Nat} {xs : List CRow} (h : OwnC w B g cap xs) (hb : Below w.heap.size w w') : OwnC w' B g cap xs := ⟨own_later h.out hb, h.rws.later hb⟩
theorem OwnC.cell {w : World} {B g cap : Nat} {xs : List CRow} (h : OwnC w B g cap xs) (i : Nat) (hi : i < xs.length) (j : Nat) (hj : j < 3) : w.cell? ⟨g, i * 3 + j, none⟩ = ((xs.getD i default).cells)[j]? ∧ w.frozen? ⟨g, i * 3 + j, none⟩ = false := by
  have hl : (i + 1) * 3 ≤ xs.length * 3 := Nat.mul_le_mul_right 3 hi
  exact ⟨(h.out.cellAt _ (by omega)).trans (cellsC_at xs i j hi hj), h.out.frozenAt _⟩
theorem getD_map_row (xs : List CRow) (i : Nat) (h : i < xs.length) : (xs.map CRow.row).getD i default = (xs.getD i default).row := by simp [List.getD_eq_getElem?_getD, h]
theorem getD_map_car (xs : List CRow) (i : Nat) (h : i < xs.length) : (xs.map CRow.car).getD i default = (xs.getD i default).car := by simp [List.getD_eq_getElem?_getD, h]
theorem OwnC.rowAt {w : World} {B g cap : Nat} {xs : List CRow} (h : OwnC w B g cap xs) (i : Nat) (hi : i < xs.length) : RowV.own w B (xs.getD i default).row := by
  have := h.rws.row i (by simpa using hi)
  rwa [getD_map_row xs i hi] at this
theorem OwnC.read {w : World} {B g cap : Nat} {xs : List CRow} (h : OwnC w B g cap xs) : RdC w (some ⟨g, 0, none⟩) xs.length (xs.map CRow.car) := by
  refine ⟨by simp, fun i hi => ?_⟩
  rw [getD_map_car xs i hi]
  refine ⟨g, 0, some ⟨(xs.getD i default).g, 0, none⟩, (xs.getD i default).cap, rfl, ?_, ?_, ?_, own_reads (h.rowAt i hi)⟩ <;> rw [Nat.zero_add]
  · exact (h.cell i hi 0 (by omega)).1
  · exact (h.cell i hi 1 (by omega)).1
  · exact (h.cell i hi 2 (by omega)).1
theorem OwnC.low {w : World} {B B' g cap : Nat} {xs : List CRow} (h : OwnC w B g cap xs) (hb : B' ≤ B) : OwnC w B' g cap xs :=
  ⟨h.out.mono hb, ⟨fun i hi => World.ownsRow.mono (h.rws.row i hi) hb, h.rws.apart, h.rws.far⟩⟩
def totC (xs : List CarV) : Nat := (xs.map fun x => x.us.length).sum
set_option maxHeartbeats 800000 in
theorem eqCarton_same (t p : Int) (a : Option Addr) (c : Nat) (a' : Option Addr) (c' : Nat) (zs : List Int) (w : World) (hr : Rd w a zs.length zs) (hr' : Rd w a' zs.length zs) (hn : zs.length ≤ 1048576) :
    Calls Tryz.prog 15 #[.agg #[.int .i64 t, .int .i64 p, .slice a zs.length c], .agg #[.int .i64 t, .int .i64 p, .slice a' zs.length c']] w fun e w' => e = .returned (.bool true) ∧ Below w.heap.size w w' := by
  have HR := hide hr
  have HR' := hide hr'
  have hne : (t != t) = false := by simp
  have hne2 : (p != p) = false := by simp
  clear hr hr'
  go_enter Tryz.func15, Tryz.ntmps15
  go_wp2_with fail
  have hb : Below w.heap.size w ((w.alloc (.cells #[.int .i64 t, .int .i64 p, .slice a zs.length c] 42)).alloc (.cells #[.int .i64 t, .int .i64 p, .slice a' zs.length c'] 42)) := ((Below.refl _ _).alloc (Nat.le_refl _) _).alloc (by simp) _
  refine (eqIntS_same a zs.length c a' c' zs _ (HR.out.mono hb) ((unhide HR').mono hb) hn).mono ?_
  rintro e w1 ⟨rfl, hb1⟩
  have HB1 := hide (hb.trans (hb1.mono hb.size))
  clear hb hb1
  go_wp2_with fail
  go_ret
  exact ⟨rfl, unhide HB1⟩
end Go.Proofs.YtphdeojiehigpaaGreatDoor

/- Rows of cartons: the laws' copies and comparisons. -/
namespace Go.Proofs.YtphdeojiehigpaaGreatDoor
open Go.RowKit
set_option linter.unusedVariables false

theorem rowsC_all {n : Nat} {xs : List CRow} {L : List Value} (hl : xs.length = n) (hLl : L.length = n * 3) (hL : ∀ i, i < n → ∀ j, j < 3 → L[i * 3 + j]? = ((xs.getD i default).cells)[j]?) : L = cellsC xs := by
  refine List.ext_getElem? fun m => ?_
  by_cases hm : m < n * 3
  · obtain ⟨q, j, hj, rfl⟩ : ∃ q j, j < 3 ∧ m = q * 3 + j := ⟨m / 3, m % 3, Nat.mod_lt _ (by omega), by omega⟩
    rw [hL q (by omega) j hj, cellsC_at xs q j (by omega) hj]
  · rw [List.getElem?_eq_none (by omega), List.getElem?_eq_none (by rw [cellsC_len]; omega)]
theorem Tryz.infoCarton : (Tryz.prog.info? 42).map (fun i => (i.zero, i.size, i.bytes)) = some (some (.agg #[.int .i64 0, .int .i64 0, .slice none 0 0]), 3, 40) := by kernel_rfl
set_option maxHeartbeats 1000000 in
theorem eqCartonS_same (a : Option Addr) (n c : Nat) (a' : Option Addr) (c' : Nat) (cs : List CarV) (w : World) (hr : RdC w a n cs) (hr' : RdC w a' n cs) (hn : n ≤ 1048576) (hm : ∀ i, i < n → (cs.getD i default).us.length ≤ 1048576) :
    Calls Tryz.prog 20 #[.slice a n c, .slice a' n c'] w fun e w' => e = .returned (.bool true) ∧ Below w.heap.size w w' := by
  have hne : ((n : Int) != (n : Int)) = false := by simp
  have HR := hide hr
  have HR' := hide hr'
  clear hr hr'
  go_enter Tryz.func20, Tryz.ntmps20
  go_wp2
  go_loopw [5] (fun i wr => ∃ k : Nat, k ≤ n ∧ i = .int .i64 k ∧ Below w.heap.size w wr) (fun i _ => n - (intOf i).toNat)
  case atStart => exact ⟨0, Nat.zero_le _, rfl, Below.refl _ _⟩
  case round =>
    obtain ⟨k, hk, rfl, hbel⟩ := hrel
    have HB := hide hbel
    by_cases hlt : k < n
    · obtain ⟨b, off, ai, ci, rfl, hc0, hc1, hc2, hrow⟩ := (HR.out.mono hbel).2 k hlt
      obtain ⟨b', off', ai', ci', rfl, hd0, hd1, hd2, hrow'⟩ := ((unhide HR').mono hbel).2 k hlt
      have hm1 := hm k hlt
      have HQ := hide hrow
      have HQ' := hide hrow'
      clear hbel hrow hrow'
      generalize cs.getD k default = q at hc0 hc1 hc2 hd0 hd1 hd2 hm1 HQ HQ'
      go_wp2_with fail
      go_region_with ((go_at_call 15; go_must (refine (eqCarton_same q.ty q.grp ai ci ai' ci' q.us _ (by exact unhide HQ) (by exact unhide HQ') hm1).mono ?_; rintro e w2 ⟨rfl, hb2⟩)))
      all_goals
        go_wp2
        go_roundw
        case rel => exact ⟨k + 1, by omega, by go_num, HB.out.drew.trans (hb2.mono HB.out.size)⟩
        case measure => simp [intOf]; omega
    · clear hbel
      go_wp2
      go_ret
      exact ⟨rfl, unhide HB⟩
end Go.Proofs.YtphdeojiehigpaaGreatDoor

/- The right carton, plain: the type of a number, the cheapest type, the cartons, what they weigh and cost. -/
namespace Go.Proofs.YtphdeojiehigpaaGreatDoor
open Go.RowKit
set_option linter.unusedVariables false

/-- What a carton weighs in all. -/
def grossR (r : ReqV) (x : CarV) : Int := if classI r = 0 ∧ byIdB r x.ty = true then (byIdV r x.ty).tare + gramOf (itemsR r) x.us else 0
def costTo (r : ReqV) (xs : List CarV) : Int := (xs.map fun x => (byIdV r x.ty).cost).sum
def costR (r : ReqV) (xs : List CarV) : Int := if classI r = 0 then costTo r xs else 0
/-- The cheapest of two, of equal ones the one of the lesser number. -/
def lessT (a b : TypeV) : Bool := decide (a.cost < b.cost) || (decide (a.cost = b.cost) && decide (a.id < b.id))
def minT (o : Option TypeV) (t : TypeV) : Option TypeV := match o with | none => some t | some b => if lessT t b = true then some t else some b
def leastT (l : List TypeV) : Option TypeV := l.foldl minT none
def holding (r : ReqV) (us : List Int) (l : List TypeV) : List TypeV := l.filter (holdsR r us)
def cheapV (r : ReqV) (us : List Int) : TypeV := (leastT (holding r us r.types)).getD TypeV.zero
def cheapB (r : ReqV) (us : List Int) : Bool := (leastT (holding r us r.types)).isSome
theorem leastT_snoc (l : List TypeV) (t : TypeV) : leastT (l ++ [t]) = minT (leastT l) t := by simp [leastT, List.foldl_append]
theorem minT_some (o : Option TypeV) (t : TypeV) : ∃ q, minT o t = some q := by
  cases o with
  | none => exact ⟨t, rfl⟩
  | some b => simp only [minT]; split <;> exact ⟨_, rfl⟩
theorem holding_hit {r : ReqV} {us : List Int} {l : List TypeV} {k : Nat} (hk : k < l.length) (h : holdsR r us (l.getD k default) = true) : holding r us (l.take (k + 1)) = holding r us (l.take k) ++ [l.getD k default] := by
  unfold holding
  rw [List.take_succ_eq_append_getElem hk, List.filter_append]
  have e : l.getD k default = l[k] := by simp [hk]
  rw [e] at h ⊢
  simp [h]
theorem holding_miss {r : ReqV} {us : List Int} {l : List TypeV} {k : Nat} (hk : k < l.length) (h : holdsR r us (l.getD k default) = false) : holding r us (l.take (k + 1)) = holding r us (l.take k) := by
  unfold holding
  rw [List.take_succ_eq_append_getElem hk, List.filter_append]
  have e : l.getD k default = l[k] := by simp [hk]
  rw [e] at h
  simp [h]
theorem holding_len (r : ReqV) (us : List Int) (l : List TypeV) : (holding r us l).length ≤ l.length := List.length_filter_le _ _
/-- A carton's units, ascending. -/
def upL (c : List Int) : List Int := (sortP c false (List.range c.length)).map fun (i : Nat) => c.getD i 0
def cartonOf (r : ReqV) (k : Nat) (c : List Int) : CarV := ⟨(cheapV r c).id, (k : Int), upL c⟩
def cartonsTo (r : ReqV) (k : Nat) : List CarV := (List.range k).flatMap fun (i : Nat) => (packR r (unitsOfR r (i : Int))).map (cartonOf r i)
def cartonsR (r : ReqV) : List CarV := cartonsTo r (groupsR r).length
theorem cartonsTo_step (r : ReqV) (k : Nat) : cartonsTo r (k + 1) = cartonsTo r k ++ (packR r (unitsOfR r (k : Int))).map (cartonOf r k) := by
  simp [cartonsTo, List.range_succ, List.flatMap_append]
theorem map_take_step {α β : Type} [Inhabited α] (f : α → β) (l : List α) (i : Nat) (h : i < l.length) : (l.take (i + 1)).map f = (l.take i).map f ++ [f (l.getD i default)] := by
  rw [List.take_succ_eq_append_getElem h, List.map_append]
  simp [h]
theorem upL_perm (c : List Int) : (upL c).Perm c := by
  have h := (sortP_perm c false (List.range c.length)).map (fun (i : Nat) => c.getD i 0)
  refine h.trans (List.Perm.of_eq (List.ext_getElem? fun m => ?_))
  by_cases hm : m < c.length
  · simp [hm]
  · rw [List.getElem?_eq_none (by simpa using hm), List.getElem?_eq_none (by omega)]
theorem upL_up (c : List Int) : (upL c).Pairwise (· ≤ ·) := by
  unfold upL
  rw [List.pairwise_map]
  refine (sortP_sorted c false (List.range c.length) List.nodup_range).imp ?_
  intro a b h
  rcases h with h | h
  · simp [lts, key] at h; simp only [List.getD_eq_getElem?_getD]; omega
  · have h1 := h.1
    simp [lts, key] at h1; simp only [List.getD_eq_getElem?_getD]; omega
theorem up_unique : ∀ {l l' : List Int}, l.Perm l' → l.Pairwise (· ≤ ·) → l'.Pairwise (· ≤ ·) → l = l' := by
  intro l l' hp h h'
  exact hp.eq_of_pairwise (fun a b _ _ h1 h2 => by omega) h h'
theorem upL_eq {M c : List Int} (hp : M.Perm c) (hu : M.Pairwise (· ≤ ·)) : M = upL c := up_unique (hp.trans (upL_perm c).symm) hu (upL_up c)
end Go.Proofs.YtphdeojiehigpaaGreatDoor

/- The cheapest type, plain. -/
namespace Go.Proofs.YtphdeojiehigpaaGreatDoor
open Go.RowKit
set_option linter.unusedVariables false
theorem flat_at {α : Type} [Inhabited α] {cells : α → List Value} {k : Nat} (hlen : ∀ q, (cells q).length = k) : ∀ (L : List α) (i : Nat), i < L.length → ∀ j, j < k → (L.flatMap cells)[i * k + j]? = (cells (L.getD i default))[j]?
  | [], i, h, _, _ => absurd h (Nat.not_lt_zero _)
  | x :: xs, 0, h, j, hj => by
    rw [List.flatMap_cons, Nat.zero_mul, Nat.zero_add, List.getElem?_append_left (by rw [hlen]; exact hj)]
    rfl
  | x :: xs, i + 1, h, j, hj => by
    have ih := flat_at hlen xs i (by simpa using h) j hj
    rw [List.flatMap_cons, List.getElem?_append_right (by rw [hlen, Nat.succ_mul]; omega), hlen, show (i + 1) * k + j - k = i * k + j by rw [Nat.succ_mul]; omega, ih]
    rfl
def costC (a b : TypeV) : Int := if cmpI a.cost b.cost = 0 then cmpI a.id b.id else cmpI a.cost b.cost
theorem costC_yes {a b : TypeV} (h : lessT a b = true) : costC a b < 0 := by
  simp only [lessT, Bool.or_eq_true, Bool.and_eq_true, decide_eq_true_eq] at h
  unfold costC cmpI
  rcases h with h | ⟨h, h'⟩
  · simp [h]
  · simp [h, h']
theorem costC_no {a b : TypeV} (h : lessT a b = false) : ¬ costC a b < 0 := by
  simp only [lessT, Bool.or_eq_false_iff, Bool.and_eq_false_iff, decide_eq_false_iff_not] at h
  obtain ⟨h1, h2⟩ := h
  unfold costC cmpI
  by_cases e : a.cost = b.cost
  · have h3 : ¬ a.id < b.id := by rcases h2 with h2 | h2; exact absurd e h2; exact h2
    simp [e, h3]
    split <;> omega
  · have : b.cost < a.cost := by omega
    simp [h1, this]
theorem leastT_isSome (l : List TypeV) : (leastT l).isSome = decide (0 < l.length) := by
  rcases List.eq_nil_or_concat l with rfl | ⟨ys, y, rfl⟩
  · rfl
  · rw [List.concat_eq_append, leastT_snoc]
    obtain ⟨q, hq⟩ := minT_some (leastT ys) y
    rw [hq]
    simp
theorem least_step {l : List TypeV} {k : Nat} (hk : k < l.length) : leastT (l.take (k + 1)) = minT (leastT (l.take k)) (l.getD k default) := by
  rw [List.take_succ_eq_append_getElem hk, leastT_snoc]
  congr 1
  simp [hk]
theorem least_first {l : List TypeV} (hk : 0 < l.length) : leastT (l.take 1) = some (l.getD 0 default) := by
  rw [least_step hk]; rfl
theorem least_yes {l : List TypeV} {k : Nat} {m : TypeV} (hk : k < l.length) (h0 : 0 < k) (hm : (leastT (l.take k)).getD TypeV.zero = m) (h : lessT (l.getD k default) m = true) : (leastT (l.take (k + 1))).getD TypeV.zero = l.getD k default := by
  have hs := leastT_isSome (l.take k)
  rw [List.length_take, show min k l.length = k by omega, decide_eq_true h0] at hs
  obtain ⟨q, hq⟩ := Option.isSome_iff_exists.1 hs
  rw [hq] at hm
  rw [least_step hk, hq]
  simp only [Option.getD_some] at hm
  subst hm
  simp only [minT]
  rw [if_pos h]
  rfl
theorem least_no {l : List TypeV} {k : Nat} {m : TypeV} (hk : k < l.length) (h0 : 0 < k) (hm : (leastT (l.take k)).getD TypeV.zero = m) (h : lessT (l.getD k default) m = false) : (leastT (l.take (k + 1))).getD TypeV.zero = m := by
  have hs := leastT_isSome (l.take k)
  rw [List.length_take, show min k l.length = k by omega, decide_eq_true h0] at hs
  obtain ⟨q, hq⟩ := Option.isSome_iff_exists.1 hs
  rw [hq] at hm
  rw [least_step hk, hq]
  simp only [Option.getD_some] at hm
  subst hm
  simp only [minT]
  rw [if_neg (by rw [h]; decide)]
  rfl
theorem ret_type {p q : TypeV} {a b : Bool} (h1 : p = q) (h2 : a = b) : Ending.returned (.tuple #[.agg #[.int .i64 p.id, .int .i64 p.wd, .int .i64 p.ht, .int .i64 p.dp, .int .i64 p.tare, .int .i64 p.gram, .int .i64 p.cost], .bool a]) = .returned (.tuple #[.agg #[.int .i64 q.id, .int .i64 q.wd, .int .i64 q.ht, .int .i64 q.dp, .int .i64 q.tare, .int .i64 q.gram, .int .i64 q.cost], .bool b]) := by rw [h1, h2]
theorem Blk.others7 {w : World} {g g' : Nat} {cs : List Value} {b0 b1 b2 b3 b4 b5 b6 : Value} (h : Blk w g cs) (hne : g ≠ g') : Blk (((((((w.setCell ⟨g', 0, none⟩ b0).setCell ⟨g', 1, none⟩ b1).setCell ⟨g', 2, none⟩ b2).setCell ⟨g', 3, none⟩ b3).setCell ⟨g', 4, none⟩ b4).setCell ⟨g', 5, none⟩ b5).setCell ⟨g', 6, none⟩ b6) g cs :=
  ((((((h.other hne).other hne).other hne).other hne).other hne).other hne).other hne
end Go.Proofs.YtphdeojiehigpaaGreatDoor
