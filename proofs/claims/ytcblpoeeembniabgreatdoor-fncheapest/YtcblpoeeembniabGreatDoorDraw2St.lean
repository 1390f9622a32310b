/- The order that l2Draw turns: the order in its block R, its lists in blocks of their own; what a store or an append makes of it. -/
import Derived.Test.YtcblpoeeembniabGreatDoorDrawSt
namespace Go.Proofs.YtcblpoeeembniabGreatDoor
open Go.RowKit
set_option linter.unusedVariables false

/-- How long the lists of a drawn order are. -/
structure Loose (r : ReqV) : Prop where
 lp : r.pairs.length ≤ 17
 lt : r.types.length ≤ 6
 li : r.items.length ≤ 9
theorem Loose.small {r : ReqV} (h : Loose r) : r.small := by
 obtain ⟨h1, h2, h3⟩ := h
 unfold ReqV.small
 omega
/-- Its lists lie in blocks from B on. -/
structure From (B : Nat) (h : ReqH) : Prop where
 fp : ∀ x, h.ap = some x → B ≤ x.block
 ft : ∀ x, h.at' = some x → B ≤ x.block
 fi : ∀ x, h.ai = some x → B ≤ x.block
theorem Lst.from {B : Nat} {r : ReqV} {h : ReqH} {wr : World} (l : Lst B r h wr) : From B h :=
 ⟨fun x hx => (own_blk l.op x hx).1, fun x hx => (own_blk l.ot x hx).1, fun x hx => (own_blk l.oi x hx).1⟩
theorem Lst.old {B : Nat} {r : ReqV} {h : ReqH} {wr : World} (l : Lst B r h wr) : Far h wr.heap.size :=
 ⟨fun x hx => by have := (own_blk l.op x hx).2; omega, fun x hx => by have := (own_blk l.ot x hx).2; omega, fun x hx => by have := (own_blk l.oi x hx).2; omega⟩
theorem Lst.setFar {B : Nat} {r : ReqV} {h : ReqH} {wr : World} (l : Lst B r h wr) {g : Nat} (hf : Far h g) (j : Nat) (v : Value) : Lst B r h (wr.setCell ⟨g, j, none⟩ v) := by
 have gb : wr.grownBy (wr.setCell ⟨g, j, none⟩ v) (some g) := gb_set (World.grownBy.refl _ _) _ _
 have key : ∀ x : Addr, x.block ≠ g → some x.block ≠ some g := fun x hx e => hx (by injection e)
 exact ⟨own_kept l.op gb fun x hx => key x (hf.1 x hx), own_kept l.ot gb fun x hx => key x (hf.2.1 x hx), own_kept l.oi gb fun x hx => key x (hf.2.2 x hx), l.d1, l.d2, l.d3⟩

/-- The order that is being turned: in the block R, its lists elsewhere. -/
structure S2 (w : World) (k : Nat) (a : Option Addr) (n c : Nat) (zs : List Int) (R : Nat) (r : ReqV) (h : ReqH) (wr : World) : Prop where
 cur : Cur wr k a n c zs
 gb : w.grownBy wr (some k)
 res : Blk wr w.heap.size zeroReq
 box : Blk wr R (reqCells r h)
 lst : Lst (w.heap.size + 1) r h wr
 far : Far h R
 hk : k < w.heap.size
 hR : w.heap.size < R
 hz : R < wr.heap.size
 hb : 0 < n → ∀ x, a = some x → x.block < w.heap.size
/-- The same, once it is turned: its lists can be read. -/
structure Fin2 (w : World) (k : Nat) (a : Option Addr) (n c : Nat) (zs : List Int) (R : Nat) (r : ReqV) (h : ReqH) (wr : World) : Prop where
 cur : Cur wr k a n c zs
 gb : w.grownBy wr (some k)
 res : Blk wr w.heap.size zeroReq
 box : Blk wr R (reqCells r h)
 rd : RdReq wr r h
 fr : From (w.heap.size + 1) h
 ls : Loose r
 hk : k < w.heap.size
 hR : w.heap.size < R
 hz : R < wr.heap.size
 hb : 0 < n → ∀ x, a = some x → x.block < w.heap.size
section
variable {w : World} {k : Nat} {a : Option Addr} {n c : Nat} {zs : List Int} {R : Nat} {r : ReqV} {h : ReqH} {wr w' : World}
theorem S2.fin (s : S2 w k a n c zs R r h wr) (hl : Loose r) : Fin2 w k a n c zs R r h wr := ⟨s.cur, s.gb, s.res, s.box, s.lst.read, s.lst.from, hl, s.hk, s.hR, s.hz, s.hb⟩
theorem S2.call (s : S2 w k a n c zs R r h wr) (hg : wr.grownBy w' (some k)) (hc : Cur w' k a n c zs) : S2 w k a n c zs R r h w' := by
 have h1 := s.hk; have h2 := s.hR; have h3 := s.hz
 exact ⟨hc, gb_same s.gb hg, s.res.grown hg (by omega) (by intro e; injection e with e; omega), s.box.grown hg h3 (by intro e; injection e with e; omega), s.lst.kept hg (fun g e => by injection e with e; omega), s.far, h1, h2, Nat.lt_of_lt_of_le h3 hg.size, s.hb⟩
theorem S2.new (s : S2 w k a n c zs R r h wr) (hg : wr.grownBy w' none) : S2 w k a n c zs R r h w' := by
 have h1 := s.hk; have h2 := s.hR; have h3 := s.hz
 exact ⟨s.cur.grownRow hg (by simp) (fun _ _ _ => by simp), gb_any s.gb hg (fun g e => by cases e), s.res.grown hg (by omega) (by simp), s.box.grown hg h3 (by simp), s.lst.kept hg (fun g e => by cases e), s.far, h1, h2, Nat.lt_of_lt_of_le h3 hg.size, s.hb⟩
theorem S2.alloc (s : S2 w k a n c zs R r h wr) (o : Obj) : S2 w k a n c zs R r h (wr.alloc o) := s.new (World.grownBy_alloc wr o none)
theorem S2.drew (s : S2 w k a n c zs R r h wr) : S2 w k a n c zs R r h wr.drew := s.new ⟨rfl, rfl, rfl, Nat.le_refl _, fun _ _ _ => rfl⟩
theorem S2.drewN (s : S2 w k a n c zs R r h wr) (m : Nat) : S2 w k a n c zs R r h (wr.drewN m) := s.new (gb_drew1 (World.grownBy.refl _ _) m)
/-- A number of the order is written. -/
theorem S2.scal (s : S2 w k a n c zs R r h wr) (j : Nat) (v : Value) (r' : ReqV) (hj : j < 10) (hq : (reqCells r h).set j v = reqCells r' h) (hp : r'.pairs = r.pairs) (ht : r'.types = r.types) (hi : r'.items = r.items) : S2 w k a n c zs R r' h (wr.setCell ⟨R, j, none⟩ v) := by
 have h1 := s.hk; have h2 := s.hR; have h3 := s.hz
 have l := s.lst.setFar s.far j v
 refine ⟨s.cur.grownRow (row := some R) (gb_set (World.grownBy.refl _ _) _ _) (by intro e; injection e with e; omega) (fun hn x hx => by have := s.hb hn x hx; intro e; injection e with e; omega), gb_setNew s.gb (by omega) _ _, s.res.other (by omega), ?_, ⟨?_, ?_, ?_, l.d1, l.d2, l.d3⟩, s.far, h1, h2, by simpa using h3, s.hb⟩
 · rw [← hq]; exact s.box.set (by simpa [reqCells] using hj)
 · rw [hp]; exact l.op
 · rw [ht]; exact l.ot
 · rw [hi]; exact l.oi
/-- The types are struck. -/
theorem S2.noTypes (s : S2 w k a n c zs R r h wr) : S2 w k a n c zs R { r with types := [] } { h with at' := none, ct := 0 } (wr.setCell ⟨R, 7, none⟩ (.slice none 0 0)) := by
 have h1 := s.hk; have h2 := s.hR; have h3 := s.hz
 have l := s.lst.setFar s.far 7 (.slice none 0 0)
 refine ⟨s.cur.grownRow (row := some R) (gb_set (World.grownBy.refl _ _) _ _) (by intro e; injection e with e; omega) (fun hn x hx => by have := s.hb hn x hx; intro e; injection e with e; omega), gb_setNew s.gb (by omega) _ _, s.res.other (by omega), ?_, ⟨l.op, World.ownsRow_nil _ _ _ _, l.oi, fun x y hx hy => (by cases hy), l.d2, fun x y hx hy => (by cases hx)⟩, ⟨s.far.1, fun x hx => (by cases hx), s.far.2.2⟩, h1, h2, by simpa using h3, s.hb⟩
 have := s.box.set (j := 7) (v := .slice none 0 0) (by simp [reqCells])
 simpa [reqCells] using this
theorem S2.appPair (s : S2 w k a n c zs R r h wr) (ps : List PairV) {g cap H : Nat} {w1 : World}
 (hown : w1.ownsRow (w.heap.size + 1) 92 2 (.slice (some ⟨g, 0, none⟩) (r.pairs.length + ps.length) cap) (r.pairs.length + ps.length) (r.pairs.flatMap PairV.cells ++ ps.flatMap PairV.cells))
 (hgrow : wr.grownBy w1 (Value.slice h.ap r.pairs.length h.cp).ownBlock) (hat : (Value.slice h.ap r.pairs.length h.cp).ownBlock = some g ∨ g = H) (hH : wr.heap.size ≤ H) :
 S2 w k a n c zs R { r with pairs := r.pairs ++ ps } { h with ap := some ⟨g, 0, none⟩, cp := cap } (w1.setCell ⟨R, 6, none⟩ (.slice (some ⟨g, 0, none⟩) (r.pairs.length + ps.length) cap)) := by
 have h1 := s.hk; have h2 := s.hR; have h3 := s.hz
 have hrow : ∀ b, (Value.slice h.ap r.pairs.length h.cp).ownBlock = some b → w.heap.size + 1 ≤ b ∧ b ≠ R := fun b hb => by
  refine ⟨(s.lst.op.lt b hb).1, ?_⟩
  cases hx : h.ap with
  | none => rw [hx] at hb; cases hb
  | some x =>
   rw [hx] at hb
   have : x.block = b := by simpa [Value.ownBlock] using hb
   have := s.far.1 x hx
   omega
 have ne : ∀ b, b ≤ w.heap.size ∨ b = R → some b ≠ (Value.slice h.ap r.pairs.length h.cp).ownBlock := fun b hb e => by have := hrow b e.symm; omega
 have hgR : g ≠ R := by
  rcases hat with e | e
  · exact (hrow g e).2
  · omega
 have lA := s.lst.appPair ps hown hgrow hat hH
 have fA : Far { h with ap := some ⟨g, 0, none⟩, cp := cap } R := by
  have := s.far
  refine ⟨?_, ?_, ?_⟩ <;> intro x hx <;> first | (cases hx; exact hgR) | exact this.1 x hx | exact this.2.1 x hx | exact this.2.2 x hx
 refine ⟨?_, ?_, ?_, ?_, lA.setFar fA _ _, fA, h1, h2, ?_, s.hb⟩
 · refine (s.cur.grownRow hgrow (ne k (by omega)) (fun hn x hx => ne _ (by have := s.hb hn x hx; omega))).grownRow (row := some R) (gb_set (World.grownBy.refl _ _) _ _) (by intro e; injection e with e; omega) (fun hn x hx => by have := s.hb hn x hx; intro e; injection e with e; omega)
 · exact gb_setNew (gb_any s.gb hgrow (fun b hb => by have := hrow b hb; omega)) (by omega) _ _
 · exact (s.res.grown hgrow (by omega) (ne _ (by omega))).other (by omega)
 · have := (s.box.grown hgrow h3 (ne _ (by omega))).set (j := 6) (v := .slice (some ⟨g, 0, none⟩) (r.pairs.length + ps.length) cap) (by simp [reqCells])
   simpa [reqCells] using this
 · have := hgrow.size
   simp
   omega
theorem S2.aftPair (s : S2 w k a n c zs R r h wr) {w1 : World} (hgrow : wr.grownBy w1 (Value.slice h.ap r.pairs.length h.cp).ownBlock) : w1.cell? ⟨R, 6, none⟩ = some (.slice h.ap r.pairs.length h.cp) ∧ w1.frozen? ⟨R, 6, none⟩ = false := by
 have ne : some R ≠ (Value.slice h.ap r.pairs.length h.cp).ownBlock := fun e => by
  cases hx : h.ap with
  | none => rw [hx] at e; cases e
  | some x =>
   rw [hx] at e
   have : x.block = R := by simpa [Value.ownBlock] using e.symm
   exact s.far.1 x hx this
 exact (s.box.grown hgrow s.hz ne) 6 (by simp [reqCells])
theorem S2.appType (s : S2 w k a n c zs R r h wr) (ps : List TypeV) {g cap H : Nat} {w1 : World}
 (hown : w1.ownsRow (w.heap.size + 1) 54 7 (.slice (some ⟨g, 0, none⟩) (r.types.length + ps.length) cap) (r.types.length + ps.length) (r.types.flatMap TypeV.cells ++ ps.flatMap TypeV.cells))
 (hgrow : wr.grownBy w1 (Value.slice h.at' r.types.length h.ct).ownBlock) (hat : (Value.slice h.at' r.types.length h.ct).ownBlock = some g ∨ g = H) (hH : wr.heap.size ≤ H) :
 S2 w k a n c zs R { r with types := r.types ++ ps } { h with at' := some ⟨g, 0, none⟩, ct := cap } (w1.setCell ⟨R, 7, none⟩ (.slice (some ⟨g, 0, none⟩) (r.types.length + ps.length) cap)) := by
 have h1 := s.hk; have h2 := s.hR; have h3 := s.hz
 have hrow : ∀ b, (Value.slice h.at' r.types.length h.ct).ownBlock = some b → w.heap.size + 1 ≤ b ∧ b ≠ R := fun b hb => by
  refine ⟨(s.lst.ot.lt b hb).1, ?_⟩
  cases hx : h.at' with
  | none => rw [hx] at hb; cases hb
  | some x =>
   rw [hx] at hb
   have : x.block = b := by simpa [Value.ownBlock] using hb
   have := s.far.2.1 x hx
   omega
 have ne : ∀ b, b ≤ w.heap.size ∨ b = R → some b ≠ (Value.slice h.at' r.types.length h.ct).ownBlock := fun b hb e => by have := hrow b e.symm; omega
 have hgR : g ≠ R := by
  rcases hat with e | e
  · exact (hrow g e).2
  · omega
 have lA := s.lst.appType ps hown hgrow hat hH
 have fA : Far { h with at' := some ⟨g, 0, none⟩, ct := cap } R := by
  have := s.far
  refine ⟨?_, ?_, ?_⟩ <;> intro x hx <;> first | (cases hx; exact hgR) | exact this.1 x hx | exact this.2.1 x hx | exact this.2.2 x hx
 refine ⟨?_, ?_, ?_, ?_, lA.setFar fA _ _, fA, h1, h2, ?_, s.hb⟩
 · refine (s.cur.grownRow hgrow (ne k (by omega)) (fun hn x hx => ne _ (by have := s.hb hn x hx; omega))).grownRow (row := some R) (gb_set (World.grownBy.refl _ _) _ _) (by intro e; injection e with e; omega) (fun hn x hx => by have := s.hb hn x hx; intro e; injection e with e; omega)
 · exact gb_setNew (gb_any s.gb hgrow (fun b hb => by have := hrow b hb; omega)) (by omega) _ _
 · exact (s.res.grown hgrow (by omega) (ne _ (by omega))).other (by omega)
 · have := (s.box.grown hgrow h3 (ne _ (by omega))).set (j := 7) (v := .slice (some ⟨g, 0, none⟩) (r.types.length + ps.length) cap) (by simp [reqCells])
   simpa [reqCells] using this
 · have := hgrow.size
   simp
   omega
theorem S2.aftType (s : S2 w k a n c zs R r h wr) {w1 : World} (hgrow : wr.grownBy w1 (Value.slice h.at' r.types.length h.ct).ownBlock) : w1.cell? ⟨R, 7, none⟩ = some (.slice h.at' r.types.length h.ct) ∧ w1.frozen? ⟨R, 7, none⟩ = false := by
 have ne : some R ≠ (Value.slice h.at' r.types.length h.ct).ownBlock := fun e => by
  cases hx : h.at' with
  | none => rw [hx] at e; cases e
  | some x =>
   rw [hx] at e
   have : x.block = R := by simpa [Value.ownBlock] using e.symm
   exact s.far.2.1 x hx this
 exact (s.box.grown hgrow s.hz ne) 7 (by simp [reqCells])
theorem S2.appItem (s : S2 w k a n c zs R r h wr) (ps : List ItemV) {g cap H : Nat} {w1 : World}
 (hown : w1.ownsRow (w.heap.size + 1) 89 7 (.slice (some ⟨g, 0, none⟩) (r.items.length + ps.length) cap) (r.items.length + ps.length) (r.items.flatMap ItemV.cells ++ ps.flatMap ItemV.cells))
 (hgrow : wr.grownBy w1 (Value.slice h.ai r.items.length h.ci).ownBlock) (hat : (Value.slice h.ai r.items.length h.ci).ownBlock = some g ∨ g = H) (hH : wr.heap.size ≤ H) :
 S2 w k a n c zs R { r with items := r.items ++ ps } { h with ai := some ⟨g, 0, none⟩, ci := cap } (w1.setCell ⟨R, 9, none⟩ (.slice (some ⟨g, 0, none⟩) (r.items.length + ps.length) cap)) := by
 have h1 := s.hk; have h2 := s.hR; have h3 := s.hz
 have hrow : ∀ b, (Value.slice h.ai r.items.length h.ci).ownBlock = some b → w.heap.size + 1 ≤ b ∧ b ≠ R := fun b hb => by
  refine ⟨(s.lst.oi.lt b hb).1, ?_⟩
  cases hx : h.ai with
  | none => rw [hx] at hb; cases hb
  | some x =>
   rw [hx] at hb
   have : x.block = b := by simpa [Value.ownBlock] using hb
   have := s.far.2.2 x hx
   omega
 have ne : ∀ b, b ≤ w.heap.size ∨ b = R → some b ≠ (Value.slice h.ai r.items.length h.ci).ownBlock := fun b hb e => by have := hrow b e.symm; omega
 have hgR : g ≠ R := by
  rcases hat with e | e
  · exact (hrow g e).2
  · omega
 have lA := s.lst.appItem ps hown hgrow hat hH
 have fA : Far { h with ai := some ⟨g, 0, none⟩, ci := cap } R := by
  have := s.far
  refine ⟨?_, ?_, ?_⟩ <;> intro x hx <;> first | (cases hx; exact hgR) | exact this.1 x hx | exact this.2.1 x hx | exact this.2.2 x hx
 refine ⟨?_, ?_, ?_, ?_, lA.setFar fA _ _, fA, h1, h2, ?_, s.hb⟩
 · refine (s.cur.grownRow hgrow (ne k (by omega)) (fun hn x hx => ne _ (by have := s.hb hn x hx; omega))).grownRow (row := some R) (gb_set (World.grownBy.refl _ _) _ _) (by intro e; injection e with e; omega) (fun hn x hx => by have := s.hb hn x hx; intro e; injection e with e; omega)
 · exact gb_setNew (gb_any s.gb hgrow (fun b hb => by have := hrow b hb; omega)) (by omega) _ _
 · exact (s.res.grown hgrow (by omega) (ne _ (by omega))).other (by omega)
 · have := (s.box.grown hgrow h3 (ne _ (by omega))).set (j := 9) (v := .slice (some ⟨g, 0, none⟩) (r.items.length + ps.length) cap) (by simp [reqCells])
   simpa [reqCells] using this
 · have := hgrow.size
   simp
   omega
theorem S2.aftItem (s : S2 w k a n c zs R r h wr) {w1 : World} (hgrow : wr.grownBy w1 (Value.slice h.ai r.items.length h.ci).ownBlock) : w1.cell? ⟨R, 9, none⟩ = some (.slice h.ai r.items.length h.ci) ∧ w1.frozen? ⟨R, 9, none⟩ = false := by
 have ne : some R ≠ (Value.slice h.ai r.items.length h.ci).ownBlock := fun e => by
  cases hx : h.ai with
  | none => rw [hx] at e; cases e
  | some x =>
   rw [hx] at e
   have : x.block = R := by simpa [Value.ownBlock] using e.symm
   exact s.far.2.2 x hx this
 exact (s.box.grown hgrow s.hz ne) 9 (by simp [reqCells])
theorem flat_set {α : Type} [Inhabited α] {cells : α → List Value} {k : Nat} (hlen : ∀ q, (cells q).length = k) (t : α) (j : Nat) (v : Value) (hj : j < k) : ∀ (xs : List α) (i : Nat), i < xs.length → (cells (xs.getD i default)).set j v = cells t → (xs.flatMap cells).set (i * k + j) v = (xs.set i t).flatMap cells
 | [], i, hi, _ => absurd hi (Nat.not_lt_zero _)
 | x :: xs, 0, _, ht => by
  simp only [List.getD_cons_zero] at ht
  rw [List.flatMap_cons, List.set_cons_zero, List.flatMap_cons, ← ht, List.set_append_left _ _ (by rw [hlen]; omega)]
  simp
 | x :: xs, i + 1, hi, ht => by
  have e : (i + 1) * k + j = k + (i * k + j) := by rw [Nat.succ_mul]; omega
  simp only [List.getD_cons_succ] at ht
  rw [List.flatMap_cons, List.set_cons_succ, List.flatMap_cons, List.set_append_right _ _ (by rw [hlen]; omega), hlen, e, Nat.add_sub_cancel_left, flat_set hlen t j v hj xs i (by simpa using hi) ht]
/-- One number in one of the types is written. -/
theorem S2.inType (s : S2 w k a n c zs R r h wr) {g : Nat} (hg : h.at' = some ⟨g, 0, none⟩) (i j : Nat) (v : Value) (t : TypeV) (hi : i < r.types.length) (hj : j < 7) (ht : (TypeV.cells (r.types.getD i default)).set j v = TypeV.cells t) : S2 w k a n c zs R { r with types := r.types.set i t } h (wr.setCell ⟨g, i * 7 + j, none⟩ v) := by
 have h1 := s.hk; have h2 := s.hR; have h3 := s.hz
 have hgB := own_blk s.lst.ot _ hg
 simp only at hgB
 have hgR : g ≠ R := by first | exact s.far.2.1 _ hg | exact s.far.2.2 _ hg
 have gb : wr.grownBy (wr.setCell ⟨g, i * 7 + j, none⟩ v) (some g) := gb_set (World.grownBy.refl _ _) _ _
 have key : ∀ x : Addr, x.block ≠ g → some x.block ≠ some g := fun x hx e => hx (by injection e)
 have hown : (wr.setCell ⟨g, i * 7 + j, none⟩ v).ownsRow (w.heap.size + 1) 54 7 (.slice h.at' (r.types.set i t).length h.ct) (r.types.set i t).length ((r.types.set i t).flatMap TypeV.cells) := by
  have hs := s.lst.ot
  rw [hg] at hs ⊢
  rw [List.length_set, ← flat_set TypeV.len t j v hj r.types i hi ht]
  exact (hs.stored _ _).1
 refine ⟨s.cur.grownRow gb (by intro e; injection e with e; omega) (fun hn x hx => by have := s.hb hn x hx; intro e; injection e with e; omega), gb_setNew s.gb (by omega) _ _, s.res.other (by omega), ?_, ?_, s.far, h1, h2, by simpa using h3, s.hb⟩
 · have := s.box.other (g' := g) (j := i * 7 + j) (v := v) (Ne.symm hgR)
   simpa [reqCells] using this
 · have d1 := s.lst.d1; have d2 := s.lst.d2; have d3 := s.lst.d3
   first
    | exact ⟨own_kept s.lst.op gb fun x hx => key x (d1 _ _ hx hg), hown, own_kept s.lst.oi gb fun x hx => key x (Ne.symm (d3 _ _ hg hx)), d1, d2, d3⟩
    | exact ⟨own_kept s.lst.op gb fun x hx => key x (d2 _ _ hx hg), own_kept s.lst.ot gb fun x hx => key x (d3 _ _ hx hg), hown, d1, d2, d3⟩
/-- One number in one of the items is written. -/
theorem S2.inItem (s : S2 w k a n c zs R r h wr) {g : Nat} (hg : h.ai = some ⟨g, 0, none⟩) (i j : Nat) (v : Value) (t : ItemV) (hi : i < r.items.length) (hj : j < 7) (ht : (ItemV.cells (r.items.getD i default)).set j v = ItemV.cells t) : S2 w k a n c zs R { r with items := r.items.set i t } h (wr.setCell ⟨g, i * 7 + j, none⟩ v) := by
 have h1 := s.hk; have h2 := s.hR; have h3 := s.hz
 have hgB := own_blk s.lst.oi _ hg
 simp only at hgB
 have hgR : g ≠ R := by first | exact s.far.2.1 _ hg | exact s.far.2.2 _ hg
 have gb : wr.grownBy (wr.setCell ⟨g, i * 7 + j, none⟩ v) (some g) := gb_set (World.grownBy.refl _ _) _ _
 have key : ∀ x : Addr, x.block ≠ g → some x.block ≠ some g := fun x hx e => hx (by injection e)
 have hown : (wr.setCell ⟨g, i * 7 + j, none⟩ v).ownsRow (w.heap.size + 1) 89 7 (.slice h.ai (r.items.set i t).length h.ci) (r.items.set i t).length ((r.items.set i t).flatMap ItemV.cells) := by
  have hs := s.lst.oi
  rw [hg] at hs ⊢
  rw [List.length_set, ← flat_set ItemV.len t j v hj r.items i hi ht]
  exact (hs.stored _ _).1
 refine ⟨s.cur.grownRow gb (by intro e; injection e with e; omega) (fun hn x hx => by have := s.hb hn x hx; intro e; injection e with e; omega), gb_setNew s.gb (by omega) _ _, s.res.other (by omega), ?_, ?_, s.far, h1, h2, by simpa using h3, s.hb⟩
 · have := s.box.other (g' := g) (j := i * 7 + j) (v := v) (Ne.symm hgR)
   simpa [reqCells] using this
 · have d1 := s.lst.d1; have d2 := s.lst.d2; have d3 := s.lst.d3
   first
    | exact ⟨own_kept s.lst.op gb fun x hx => key x (d1 _ _ hx hg), hown, own_kept s.lst.oi gb fun x hx => key x (Ne.symm (d3 _ _ hg hx)), d1, d2, d3⟩
    | exact ⟨own_kept s.lst.op gb fun x hx => key x (d2 _ _ hx hg), own_kept s.lst.ot gb fun x hx => key x (d3 _ _ hx hg), hown, d1, d2, d3⟩
/-- The pairs without the first. -/
theorem RdR.tail {α : Type} [Inhabited α] {cells : α → List Value} {m : Nat} {W : World} {g N : Nat} {xs : List α} (hr : RdR cells m W (some ⟨g, 0, none⟩) N xs) (hN : 0 < N) : RdR cells m W (some ⟨g, m, none⟩) (N - 1) (xs.drop 1) := by
 refine ⟨by rw [List.length_drop, hr.1], fun i hi => ⟨g, m, rfl, fun j hj => ?_⟩⟩
 obtain ⟨b, off, ha, hc⟩ := hr.2 (i + 1) (by omega)
 simp only [Option.some.injEq, Addr.mk.injEq] at ha
 obtain ⟨rfl, rfl, _⟩ := ha
 have h1 := hc j hj
 have e : 0 + (i + 1) * m + j = m + i * m + j := by rw [Nat.succ_mul]; omega
 have e2 : (xs.drop 1).getD i default = xs.getD (i + 1) default := by simp [List.getD_eq_getElem?_getD]
 rw [e] at h1
 rw [e2]
 exact h1
theorem S2.tailPairs (s : S2 w k a n c zs R r h wr) {g : Nat} (hg : h.ap = some ⟨g, 0, none⟩) (hn : 0 < r.pairs.length) (hl : Loose r) : Fin2 w k a n c zs R { r with pairs := r.pairs.drop 1 } { h with ap := some ⟨g, 2, none⟩, cp := h.cp - 1 } (wr.setCell ⟨R, 6, none⟩ (.slice (some ⟨g, 2, none⟩) (r.pairs.length - 1) (h.cp - 1))) := by
 have h1 := s.hk; have h2 := s.hR; have h3 := s.hz
 have l := (s.lst.setFar s.far 6 (.slice (some ⟨g, 2, none⟩) (r.pairs.length - 1) (h.cp - 1))).read
 have fr := s.lst.from
 refine ⟨s.cur.grownRow (row := some R) (gb_set (World.grownBy.refl _ _) _ _) (by intro e; injection e with e; omega) (fun hn x hx => by have := s.hb hn x hx; intro e; injection e with e; omega), gb_setNew s.gb (by omega) _ _, s.res.other (by omega), ?_, ⟨?_, l.2.1, l.2.2⟩, ⟨fun x hx => by cases hx; have := fr.fp _ hg; exact this, fr.ft, fr.fi⟩, ⟨by have := hl.lp; simp; omega, hl.lt, hl.li⟩, h1, h2, by simpa using h3, s.hb⟩
 · have := s.box.set (j := 6) (v := .slice (some ⟨g, 2, none⟩) (r.pairs.length - 1) (h.cp - 1)) (by simp [reqCells])
   simpa [reqCells] using this
 · have := l.1
   rw [hg] at this
   have := this.tail hn
   simpa using this
theorem S2.tailOne (s : S2 w k a n c zs R r h wr) {g : Nat} (hg : h.ap = some ⟨g, 0, none⟩) (hn : r.pairs.length = 1) (hl : Loose r) : Fin2 w k a n c zs R { r with pairs := r.pairs.drop 1 } { h with ap := some ⟨g, 0, none⟩, cp := 0 } (wr.setCell ⟨R, 6, none⟩ (.slice (some ⟨g, 0, none⟩) (r.pairs.length - 1) 0)) := by
 have h1 := s.hk; have h2 := s.hR; have h3 := s.hz
 have l := (s.lst.setFar s.far 6 (.slice (some ⟨g, 0, none⟩) (r.pairs.length - 1) 0)).read
 have fr := s.lst.from
 refine ⟨s.cur.grownRow (row := some R) (gb_set (World.grownBy.refl _ _) _ _) (by intro e; injection e with e; omega) (fun hn x hx => by have := s.hb hn x hx; intro e; injection e with e; omega), gb_setNew s.gb (by omega) _ _, s.res.other (by omega), ?_, ⟨?_, l.2.1, l.2.2⟩, ⟨fun x hx => by cases hx; have := fr.fp _ hg; exact this, fr.ft, fr.fi⟩, ⟨by have := hl.lp; simp; omega, hl.lt, hl.li⟩, h1, h2, by simpa using h3, s.hb⟩
 · have := s.box.set (j := 6) (v := .slice (some ⟨g, 0, none⟩) (r.pairs.length - 1) 0) (by simp [reqCells])
   simpa [reqCells] using this
 · exact ⟨rfl, fun i hi => by simp [hn] at hi⟩
theorem RdReq.other {W : World} (hr : RdReq W r h) {g j : Nat} {v : Value} (hf : Far h g) : RdReq (W.setCell ⟨g, j, none⟩ v) r h :=
 ⟨hr.1.other hf.1, hr.2.1.other hf.2.1, hr.2.2.other hf.2.2⟩
theorem done2_aux (hk : k < w.heap.size) (hb : 0 < n → ∀ x, a = some x → x.block < w.heap.size) (hf : Far h w.heap.size) : ∀ (vs : List Value) (j : Nat) (W : World), RdReq W r h → Cur W k a n c zs → w.grownBy W (some k) →
 RdReq (writeCells W w.heap.size j vs) r h ∧ Cur (writeCells W w.heap.size j vs) k a n c zs ∧ w.grownBy (writeCells W w.heap.size j vs) (some k)
 | [], _, _, l, cu, g => ⟨l, cu, g⟩
 | v :: vs, j, W, l, cu, g => done2_aux hk hb hf vs (j + 1) _ (l.other hf)
  (cu.grownRow (row := some w.heap.size) (gb_set (World.grownBy.refl _ _) _ _) (by intro e; injection e with e; omega) (fun hn x hx => by have := hb hn x hx; intro e; injection e with e; omega))
  (gb_setNew g (Nat.le_refl _) _ _)
theorem Fin2.done (s : Fin2 w k a n c zs R r h wr) (vs : List Value) : RdReq (writeCells wr w.heap.size 0 vs) r h ∧ Cur (writeCells wr w.heap.size 0 vs) k a n c zs ∧ w.grownBy (writeCells wr w.heap.size 0 vs) (some k) :=
 done2_aux s.hk s.hb ⟨fun x hx => by have := s.fr.fp x hx; omega, fun x hx => by have := s.fr.ft x hx; omega, fun x hx => by have := s.fr.fi x hx; omega⟩ vs 0 wr s.rd s.cur s.gb
end
end Go.Proofs.YtcblpoeeembniabGreatDoor
