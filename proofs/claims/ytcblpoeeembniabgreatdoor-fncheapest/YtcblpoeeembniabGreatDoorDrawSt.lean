/- While the model draws an order: the order that is being built, as it lies in memory; what leaves it as it is; what an append makes of it. -/
import Derived.Test.YtcblpoeeembniabGreatDoorPkA
import Derived.Test.YtcblpoeeembniabGreatDoorDrawKeys
import Derived.Test.YtcblpoeeembniabGreatDoorPkD
import Derived.Deep.AppendLies
import Derived.Deep.Onto
namespace Go.Proofs.YtcblpoeeembniabGreatDoor
open Go.RowKit
set_option linter.unusedVariables false

theorem Tryz.dinfoPair : (Tryz.prog.info? 92).map (fun i => (i.zero, i.size, i.bytes)) = some (some (.agg #[.int .i64 0, .int .i64 0]), 2, 16) := by kernel_rfl
theorem Tryz.dinfoType : (Tryz.prog.info? 54).map (fun i => (i.zero, i.size, i.bytes)) = some (some (.agg #[.int .i64 0, .int .i64 0, .int .i64 0, .int .i64 0, .int .i64 0, .int .i64 0, .int .i64 0]), 7, 56) := by kernel_rfl
theorem Tryz.dinfoItem : (Tryz.prog.info? 89).map (fun i => (i.zero, i.size, i.bytes)) = some (some (.agg #[.int .i64 0, .int .i64 0, .int .i64 0, .int .i64 0, .int .i64 0, .int .i64 0, .int .i64 0]), 7, 56) := by kernel_rfl
theorem flat_get {α : Type} [Inhabited α] {cells : α → List Value} {k : Nat} (hlen : ∀ q, (cells q).length = k) : ∀ (xs : List α) (i j : Nat), i < xs.length → j < k → (xs.flatMap cells)[i * k + j]? = (cells (xs.getD i default))[j]?
 | [], i, j, hi, _ => absurd hi (Nat.not_lt_zero _)
 | x :: xs, 0, j, _, hj => by
  rw [List.flatMap_cons, List.getElem?_append_left (by rw [hlen]; omega)]
  simp
 | x :: xs, i + 1, j, hi, hj => by
  have e : (i + 1) * k + j = k + (i * k + j) := by rw [Nat.succ_mul]; omega
  rw [List.flatMap_cons, List.getElem?_append_right (by rw [hlen]; omega), hlen, e, Nat.add_sub_cancel_left, flat_get hlen xs i j (by simpa using hi) hj]
  simp
theorem RdR.of_flat {α : Type} [Inhabited α] {cells : α → List Value} {k : Nat} (hlen : ∀ q, (cells q).length = k) {w : World} {base e cap : Nat} {a : Option Addr} {xs : List α}
 (h : w.ownsRow base e k (.slice a xs.length cap) xs.length (xs.flatMap cells)) : RdR cells k w a xs.length xs := by
 rcases h.2 with ⟨h1, h2⟩ | ⟨g, cap', cur, h1, _⟩
 · exact ⟨rfl, fun i hi => absurd hi (by omega)⟩
 · simp only [Value.slice.injEq] at h1
   obtain ⟨rfl, _, rfl⟩ := h1
   exact RdR.of_owns h rfl fun i hi j hj => flat_get hlen xs i j hi hj

/-- The lists of an order, each owned, no two in one place. -/
structure Lst (B : Nat) (r : ReqV) (h : ReqH) (wr : World) : Prop where
 op : wr.ownsRow B 92 2 (.slice h.ap r.pairs.length h.cp) r.pairs.length (r.pairs.flatMap PairV.cells)
 ot : wr.ownsRow B 54 7 (.slice h.at' r.types.length h.ct) r.types.length (r.types.flatMap TypeV.cells)
 oi : wr.ownsRow B 89 7 (.slice h.ai r.items.length h.ci) r.items.length (r.items.flatMap ItemV.cells)
 d1 : ∀ x y, h.ap = some x → h.at' = some y → x.block ≠ y.block
 d2 : ∀ x y, h.ap = some x → h.ai = some y → x.block ≠ y.block
 d3 : ∀ x y, h.at' = some x → h.ai = some y → x.block ≠ y.block

theorem Lst.read {B : Nat} {r : ReqV} {h : ReqH} {wr : World} (l : Lst B r h wr) : RdReq wr r h := ⟨RdR.of_flat PairV.len l.op, RdR.of_flat TypeV.len l.ot, RdR.of_flat ItemV.len l.oi⟩
theorem own_blk {w : World} {B e k n cap m : Nat} {a : Option Addr} {xs : List Value} (h : w.ownsRow B e k (.slice a n cap) m xs) (x : Addr) (hx : a = some x) : B ≤ x.block ∧ x.block < w.heap.size :=
 h.lt x.block (by rw [hx]; rfl)
theorem own_kept {w w' : World} {B e k n cap m : Nat} {a : Option Addr} {xs : List Value} {row : Option Nat} (h : w.ownsRow B e k (.slice a n cap) m xs) (hg : w.grownBy w' row) (hne : ∀ x, a = some x → some x.block ≠ row) : w'.ownsRow B e k (.slice a n cap) m xs := by
 refine h.kept hg ?_
 cases a with
 | none => exact Or.inl rfl
 | some x => exact Or.inr (fun e => hne x rfl e)
/-- What grows elsewhere leaves the lists as they are. -/
theorem Lst.kept {B : Nat} {r : ReqV} {h : ReqH} {wr w' : World} {row : Option Nat} (l : Lst B r h wr) (hg : wr.grownBy w' row) (hne : ∀ g, row = some g → g < B) : Lst B r h w' := by
 have key : ∀ {a : Option Addr} (x : Addr), a = some x → B ≤ x.block → some x.block ≠ row := fun x _ hb e => by have := hne _ e.symm; omega
 exact ⟨own_kept l.op hg fun x hx => key x hx (own_blk l.op x hx).1, own_kept l.ot hg fun x hx => key x hx (own_blk l.ot x hx).1, own_kept l.oi hg fun x hx => key x hx (own_blk l.oi x hx).1, l.d1, l.d2, l.d3⟩
theorem Lst.set {B : Nat} {r : ReqV} {h : ReqH} {wr : World} (l : Lst B r h wr) {R j : Nat} (hR : R < B) (v : Value) : Lst B r h (wr.setCell ⟨R, j, none⟩ v) :=
 ⟨ownsRow_setCell_below l.op hR v, ownsRow_setCell_below l.ot hR v, ownsRow_setCell_below l.oi hR v, l.d1, l.d2, l.d3⟩

/-- An append to pairs. -/
theorem Lst.appPair {B : Nat} {r : ReqV} {h : ReqH} {wr w1 : World} (l : Lst B r h wr) (ps : List PairV) {g cap H : Nat}
 (hown : w1.ownsRow B 92 2 (.slice (some ⟨g, 0, none⟩) (r.pairs.length + ps.length) cap) (r.pairs.length + ps.length) (r.pairs.flatMap PairV.cells ++ ps.flatMap PairV.cells))
 (hgrow : wr.grownBy w1 (Value.slice h.ap r.pairs.length h.cp).ownBlock) (hat : (Value.slice h.ap r.pairs.length h.cp).ownBlock = some g ∨ g = H) (hH : wr.heap.size ≤ H) :
 Lst B { r with pairs := r.pairs ++ ps } { h with ap := some ⟨g, 0, none⟩, cp := cap } w1 := by
 have hw : ∀ x, h.ap = some x → (Value.slice h.ap r.pairs.length h.cp).ownBlock = some x.block := fun x hx => by rw [hx]; rfl
 have hw' : ∀ b, (Value.slice h.ap r.pairs.length h.cp).ownBlock = some b → ∃ x, h.ap = some x ∧ x.block = b := fun b hb => by
  cases hq : h.ap with
  | none => rw [hq] at hb; cases hb
  | some x => rw [hq] at hb; exact ⟨x, rfl, by simpa [Value.ownBlock] using hb⟩
 have own' : w1.ownsRow B 92 2 (.slice (some ⟨g, 0, none⟩) (r.pairs ++ ps).length cap) (r.pairs ++ ps).length ((r.pairs ++ ps).flatMap PairV.cells) := by
  rw [List.length_append, List.flatMap_append]
  exact hown
 have far : ∀ y : Addr, y.block < wr.heap.size → (∀ x, h.ap = some x → x.block ≠ y.block) → some y.block ≠ (Value.slice h.ap r.pairs.length h.cp).ownBlock ∧ g ≠ y.block := by
  intro y hy hd
  constructor
  · intro e
    obtain ⟨x, hx, hxb⟩ := hw' _ e.symm
    exact hd x hx hxb
  · intro e
    rcases hat with e2 | e2
    · obtain ⟨x, hx, hxb⟩ := hw' _ e2
      exact hd x hx (by omega)
    · omega
 have kp := l.op
 have kt := l.ot
 have ki := l.oi
 refine ⟨own', own_kept kt hgrow fun y hy => (far y (own_blk kt y hy).2 (fun x hx => l.d1 x y hx hy)).1, own_kept ki hgrow fun y hy => (far y (own_blk ki y hy).2 (fun x hx => l.d2 x y hx hy)).1, fun x y hx hy => ?_, fun x y hx hy => ?_, l.d3⟩
 · cases hx; exact (far y (own_blk kt y hy).2 (fun x hx => l.d1 x y hx hy)).2
 · cases hx; exact (far y (own_blk ki y hy).2 (fun x hx => l.d2 x y hx hy)).2
/-- An append to types. -/
theorem Lst.appType {B : Nat} {r : ReqV} {h : ReqH} {wr w1 : World} (l : Lst B r h wr) (ps : List TypeV) {g cap H : Nat}
 (hown : w1.ownsRow B 54 7 (.slice (some ⟨g, 0, none⟩) (r.types.length + ps.length) cap) (r.types.length + ps.length) (r.types.flatMap TypeV.cells ++ ps.flatMap TypeV.cells))
 (hgrow : wr.grownBy w1 (Value.slice h.at' r.types.length h.ct).ownBlock) (hat : (Value.slice h.at' r.types.length h.ct).ownBlock = some g ∨ g = H) (hH : wr.heap.size ≤ H) :
 Lst B { r with types := r.types ++ ps } { h with at' := some ⟨g, 0, none⟩, ct := cap } w1 := by
 have hw : ∀ x, h.at' = some x → (Value.slice h.at' r.types.length h.ct).ownBlock = some x.block := fun x hx => by rw [hx]; rfl
 have hw' : ∀ b, (Value.slice h.at' r.types.length h.ct).ownBlock = some b → ∃ x, h.at' = some x ∧ x.block = b := fun b hb => by
  cases hq : h.at' with
  | none => rw [hq] at hb; cases hb
  | some x => rw [hq] at hb; exact ⟨x, rfl, by simpa [Value.ownBlock] using hb⟩
 have own' : w1.ownsRow B 54 7 (.slice (some ⟨g, 0, none⟩) (r.types ++ ps).length cap) (r.types ++ ps).length ((r.types ++ ps).flatMap TypeV.cells) := by
  rw [List.length_append, List.flatMap_append]
  exact hown
 have far : ∀ y : Addr, y.block < wr.heap.size → (∀ x, h.at' = some x → x.block ≠ y.block) → some y.block ≠ (Value.slice h.at' r.types.length h.ct).ownBlock ∧ g ≠ y.block := by
  intro y hy hd
  constructor
  · intro e
    obtain ⟨x, hx, hxb⟩ := hw' _ e.symm
    exact hd x hx hxb
  · intro e
    rcases hat with e2 | e2
    · obtain ⟨x, hx, hxb⟩ := hw' _ e2
      exact hd x hx (by omega)
    · omega
 have kp := l.op
 have kt := l.ot
 have ki := l.oi
 refine ⟨own_kept kp hgrow fun y hy => (far y (own_blk kp y hy).2 (fun x hx => (l.d1 y x hy hx).symm)).1, own', own_kept ki hgrow fun y hy => (far y (own_blk ki y hy).2 (fun x hx => l.d3 x y hx hy)).1, fun x y hx hy => ?_, l.d2, fun x y hx hy => ?_⟩
 · cases hy; exact (far x (own_blk kp x hx).2 (fun y hy => (l.d1 x y hx hy).symm)).2.symm
 · cases hx; exact (far y (own_blk ki y hy).2 (fun x hx => l.d3 x y hx hy)).2
/-- An append to items. -/
theorem Lst.appItem {B : Nat} {r : ReqV} {h : ReqH} {wr w1 : World} (l : Lst B r h wr) (ps : List ItemV) {g cap H : Nat}
 (hown : w1.ownsRow B 89 7 (.slice (some ⟨g, 0, none⟩) (r.items.length + ps.length) cap) (r.items.length + ps.length) (r.items.flatMap ItemV.cells ++ ps.flatMap ItemV.cells))
 (hgrow : wr.grownBy w1 (Value.slice h.ai r.items.length h.ci).ownBlock) (hat : (Value.slice h.ai r.items.length h.ci).ownBlock = some g ∨ g = H) (hH : wr.heap.size ≤ H) :
 Lst B { r with items := r.items ++ ps } { h with ai := some ⟨g, 0, none⟩, ci := cap } w1 := by
 have hw : ∀ x, h.ai = some x → (Value.slice h.ai r.items.length h.ci).ownBlock = some x.block := fun x hx => by rw [hx]; rfl
 have hw' : ∀ b, (Value.slice h.ai r.items.length h.ci).ownBlock = some b → ∃ x, h.ai = some x ∧ x.block = b := fun b hb => by
  cases hq : h.ai with
  | none => rw [hq] at hb; cases hb
  | some x => rw [hq] at hb; exact ⟨x, rfl, by simpa [Value.ownBlock] using hb⟩
 have own' : w1.ownsRow B 89 7 (.slice (some ⟨g, 0, none⟩) (r.items ++ ps).length cap) (r.items ++ ps).length ((r.items ++ ps).flatMap ItemV.cells) := by
  rw [List.length_append, List.flatMap_append]
  exact hown
 have far : ∀ y : Addr, y.block < wr.heap.size → (∀ x, h.ai = some x → x.block ≠ y.block) → some y.block ≠ (Value.slice h.ai r.items.length h.ci).ownBlock ∧ g ≠ y.block := by
  intro y hy hd
  constructor
  · intro e
    obtain ⟨x, hx, hxb⟩ := hw' _ e.symm
    exact hd x hx hxb
  · intro e
    rcases hat with e2 | e2
    · obtain ⟨x, hx, hxb⟩ := hw' _ e2
      exact hd x hx (by omega)
    · omega
 have kp := l.op
 have kt := l.ot
 have ki := l.oi
 refine ⟨own_kept kp hgrow fun y hy => (far y (own_blk kp y hy).2 (fun x hx => (l.d2 y x hy hx).symm)).1, own_kept kt hgrow fun y hy => (far y (own_blk kt y hy).2 (fun x hx => (l.d3 y x hy hx).symm)).1, own', l.d1, fun x y hx hy => ?_, fun x y hx hy => ?_⟩
 · cases hy; exact (far x (own_blk kp x hx).2 (fun y hy => (l.d2 x y hx hy).symm)).2.symm
 · cases hy; exact (far x (own_blk kt x hx).2 (fun y hy => (l.d3 x y hx hy).symm)).2.symm

/-- A block that is not the one that was written. -/
theorem Blk.grown {w w' : World} {g : Nat} {cs : List Value} {row : Option Nat} (h : Blk w g cs) (hg : w.grownBy w' row) (hlt : g < w.heap.size) (hne : some g ≠ row) : Blk w' g cs :=
 fun j hj => ⟨(World.cell?_of_block (w := w) (a := ⟨g, j, none⟩) (hg.block g hlt hne)).trans (h j hj).1, (World.frozen?_of_block (w := w) (a := ⟨g, j, none⟩) (hg.block g hlt hne)).trans (h j hj).2⟩
theorem Cur.grownRow {w w' : World} {k : Nat} {a : Option Addr} {n c : Nat} {zs : List Int} {row : Option Nat} (h : Cur w k a n c zs) (hg : w.grownBy w' row) (hk : some k ≠ row) (hne : 0 < n → ∀ x, a = some x → some x.block ≠ row) : Cur w' k a n c zs := by
 obtain ⟨⟨i, hh, h1, h2, h3⟩, h4, h5, h6⟩ := h
 refine ⟨⟨i, hh, h1, h2, (hg.block k (lt_of_block h3) hk).trans h3⟩, ⟨h4.1, fun i hi => ?_⟩, h5, h6⟩
 obtain ⟨b, off, ha, hc, h1⟩ := h4.2 i hi
 exact ⟨b, off, ha, hg.cell hc (by have := hne (by omega) _ ha; simpa using this), h1⟩
theorem gb_any {w w' w1 : World} {row row' : Option Nat} (h : w.grownBy w' row) (h' : w'.grownBy w1 row') (hg : ∀ g, row' = some g → w.heap.size ≤ g) : w.grownBy w1 row :=
 ⟨h'.os.trans h.os, h'.tape.trans h.tape, h'.output.trans h.output, Nat.le_trans h.size h'.size, fun k hk hne => (h'.block k (Nat.lt_of_lt_of_le hk h.size) (fun e => by have := hg k e.symm; omega)).trans (h.block k hk hne)⟩
theorem gb_setNew {w wr : World} {row : Option Nat} {g : Nat} (h : w.grownBy wr row) (hg : w.heap.size ≤ g) (j : Nat) (u : Value) : w.grownBy (wr.setCell ⟨g, j, none⟩ u) row :=
 ⟨h.os, h.tape, h.output, by simpa using h.size, fun k hk hne => (Below.heap_setCell wr _ u k (by show k ≠ g; omega)).trans (h.block k hk hne)⟩

/-- A literal of numbers in a block of its own. -/
structure Lit (w : World) (b : Nat) (ls : List Int) : Prop where
 eq : w.heap[b]? = some (.cells (ls.map (Value.int .i64)).toArray 3 (0, 0))
theorem Lit.new {w : World} {b : Nat} {ls : List Int} (h : b = w.heap.size) : Lit (w.alloc (.cells (ls.map (Value.int .i64)).toArray 3)) b ls := by
 subst h
 exact ⟨heap_alloc_new w _⟩
theorem Lit.alloc {w : World} {b : Nat} {ls : List Int} {o : Obj} (h : Lit w b ls) : Lit (w.alloc o) b ls := ⟨(Below.heap_alloc w o b (lt_of_block h.eq)).trans h.eq⟩
theorem Lit.drew {w : World} {b : Nat} {ls : List Int} (h : Lit w b ls) : Lit w.drew b ls := ⟨h.eq⟩
theorem Lit.call {w w' : World} {b k : Nat} {ls : List Int} (hg : w.grownBy w' (some k)) (h : Lit w b ls) (hne : b ≠ k) : Lit w' b ls :=
 ⟨(hg.block b (lt_of_block h.eq) (fun e => by injection e with e; exact hne e)).trans h.eq⟩
theorem Lit.rd {w : World} {b : Nat} {ls : List Int} (h : Lit w b ls) : Rd w (some ⟨b, 0, none⟩) ls.length ls := by
 refine ⟨rfl, fun i hi => ⟨b, 0, rfl, ?_⟩⟩
 simp [World.cell?, h.eq, hi]

def zeroReq : List Value := [.int .i64 0, .int .i64 0, .int .i64 0, .int .i64 0, .int .i64 0, .int .i64 0, .slice none 0 0, .slice none 0 0, .int .i64 0, .slice none 0 0]
/-- An order that is being drawn: the cursor at k, the order in the block R, its lists in newer ones. -/
structure St (w : World) (k : Nat) (a : Option Addr) (n c : Nat) (zs : List Int) (R : Nat) (r : ReqV) (h : ReqH) (wr : World) : Prop where
 cur : Cur wr k a n c zs
 gb : w.grownBy wr (some k)
 res : Blk wr w.heap.size zeroReq
 box : Blk wr R (reqCells r h)
 lst : Lst (R + 1) r h wr
 hk : k < w.heap.size
 hR : w.heap.size < R
 hz : R < wr.heap.size
 hb : 0 < n → ∀ x, a = some x → x.block < w.heap.size
section
variable {w : World} {k : Nat} {a : Option Addr} {n c : Nat} {zs : List Int} {R : Nat} {r : ReqV} {h : ReqH} {wr w' : World}
theorem St.call (s : St w k a n c zs R r h wr) (hg : wr.grownBy w' (some k)) (hc : Cur w' k a n c zs) : St w k a n c zs R r h w' := by
 have h1 := s.hk; have h2 := s.hR; have h3 := s.hz
 exact ⟨hc, gb_same s.gb hg, s.res.grown hg (by omega) (by intro e; injection e with e; omega), s.box.grown hg h3 (by intro e; injection e with e; omega), s.lst.kept hg (fun g e => by injection e with e; omega), h1, h2, Nat.lt_of_lt_of_le h3 hg.size, s.hb⟩
theorem St.new (s : St w k a n c zs R r h wr) (hg : wr.grownBy w' none) : St w k a n c zs R r h w' := by
 have h1 := s.hk; have h2 := s.hR; have h3 := s.hz
 exact ⟨s.cur.grownRow hg (by simp) (fun _ _ _ => by simp), gb_any s.gb hg (fun g e => by cases e), s.res.grown hg (by omega) (by simp), s.box.grown hg h3 (by simp), s.lst.kept hg (fun g e => by cases e), h1, h2, Nat.lt_of_lt_of_le h3 hg.size, s.hb⟩
theorem St.alloc (s : St w k a n c zs R r h wr) (o : Obj) : St w k a n c zs R r h (wr.alloc o) := s.new (World.grownBy_alloc wr o none)
theorem St.drew (s : St w k a n c zs R r h wr) : St w k a n c zs R r h wr.drew := s.new ⟨rfl, rfl, rfl, Nat.le_refl _, fun _ _ _ => rfl⟩
theorem St.drewN (s : St w k a n c zs R r h wr) (m : Nat) : St w k a n c zs R r h (wr.drewN m) := s.new (gb_drew1 (World.grownBy.refl _ _) m)
theorem St.appPair (s : St w k a n c zs R r h wr) (ps : List PairV) {g cap H : Nat} {w1 : World}
 (hown : w1.ownsRow (R + 1) 92 2 (.slice (some ⟨g, 0, none⟩) (r.pairs.length + ps.length) cap) (r.pairs.length + ps.length) (r.pairs.flatMap PairV.cells ++ ps.flatMap PairV.cells))
 (hgrow : wr.grownBy w1 (Value.slice h.ap r.pairs.length h.cp).ownBlock) (hat : (Value.slice h.ap r.pairs.length h.cp).ownBlock = some g ∨ g = H) (hH : wr.heap.size ≤ H) :
 St w k a n c zs R { r with pairs := r.pairs ++ ps } { h with ap := some ⟨g, 0, none⟩, cp := cap } (w1.setCell ⟨R, 6, none⟩ (.slice (some ⟨g, 0, none⟩) (r.pairs.length + ps.length) cap)) := by
 have h1 := s.hk; have h2 := s.hR; have h3 := s.hz
 have hrow : ∀ b, (Value.slice h.ap r.pairs.length h.cp).ownBlock = some b → R + 1 ≤ b := fun b hb => (s.lst.op.lt b hb).1
 have ne : ∀ b, b ≤ R → some b ≠ (Value.slice h.ap r.pairs.length h.cp).ownBlock := fun b hb e => by have := hrow b e.symm; omega
 have hl : (r.pairs ++ ps).length = r.pairs.length + ps.length := List.length_append
 refine ⟨?_, ?_, ?_, ?_, ?_, h1, h2, ?_, s.hb⟩
 · refine (s.cur.grownRow hgrow (ne k (by omega)) (fun hn x hx => ne _ (by have := s.hb hn x hx; omega))).grownRow (row := some R) (gb_set (World.grownBy.refl _ _) _ _) (by intro e; injection e with e; omega) (fun hn x hx => by have := s.hb hn x hx; intro e; injection e with e; omega)
 · exact gb_setNew (gb_any s.gb hgrow (fun b hb => by have := hrow b hb; omega)) (by omega) _ _
 · exact (s.res.grown hgrow (by omega) (ne _ (by omega))).other (by omega)
 · have := (s.box.grown hgrow h3 (ne _ (by omega))).set (j := 6) (v := .slice (some ⟨g, 0, none⟩) (r.pairs.length + ps.length) cap) (by simp [reqCells])
   simpa [reqCells] using this
 · exact (s.lst.appPair ps hown hgrow hat hH).set (by omega) _
 · have := hgrow.size
   simp
   omega
theorem St.appType (s : St w k a n c zs R r h wr) (ps : List TypeV) {g cap H : Nat} {w1 : World}
 (hown : w1.ownsRow (R + 1) 54 7 (.slice (some ⟨g, 0, none⟩) (r.types.length + ps.length) cap) (r.types.length + ps.length) (r.types.flatMap TypeV.cells ++ ps.flatMap TypeV.cells))
 (hgrow : wr.grownBy w1 (Value.slice h.at' r.types.length h.ct).ownBlock) (hat : (Value.slice h.at' r.types.length h.ct).ownBlock = some g ∨ g = H) (hH : wr.heap.size ≤ H) :
 St w k a n c zs R { r with types := r.types ++ ps } { h with at' := some ⟨g, 0, none⟩, ct := cap } (w1.setCell ⟨R, 7, none⟩ (.slice (some ⟨g, 0, none⟩) (r.types.length + ps.length) cap)) := by
 have h1 := s.hk; have h2 := s.hR; have h3 := s.hz
 have hrow : ∀ b, (Value.slice h.at' r.types.length h.ct).ownBlock = some b → R + 1 ≤ b := fun b hb => (s.lst.ot.lt b hb).1
 have ne : ∀ b, b ≤ R → some b ≠ (Value.slice h.at' r.types.length h.ct).ownBlock := fun b hb e => by have := hrow b e.symm; omega
 have hl : (r.types ++ ps).length = r.types.length + ps.length := List.length_append
 refine ⟨?_, ?_, ?_, ?_, ?_, h1, h2, ?_, s.hb⟩
 · refine (s.cur.grownRow hgrow (ne k (by omega)) (fun hn x hx => ne _ (by have := s.hb hn x hx; omega))).grownRow (row := some R) (gb_set (World.grownBy.refl _ _) _ _) (by intro e; injection e with e; omega) (fun hn x hx => by have := s.hb hn x hx; intro e; injection e with e; omega)
 · exact gb_setNew (gb_any s.gb hgrow (fun b hb => by have := hrow b hb; omega)) (by omega) _ _
 · exact (s.res.grown hgrow (by omega) (ne _ (by omega))).other (by omega)
 · have := (s.box.grown hgrow h3 (ne _ (by omega))).set (j := 7) (v := .slice (some ⟨g, 0, none⟩) (r.types.length + ps.length) cap) (by simp [reqCells])
   simpa [reqCells] using this
 · exact (s.lst.appType ps hown hgrow hat hH).set (by omega) _
 · have := hgrow.size
   simp
   omega
theorem St.appItem (s : St w k a n c zs R r h wr) (ps : List ItemV) {g cap H : Nat} {w1 : World}
 (hown : w1.ownsRow (R + 1) 89 7 (.slice (some ⟨g, 0, none⟩) (r.items.length + ps.length) cap) (r.items.length + ps.length) (r.items.flatMap ItemV.cells ++ ps.flatMap ItemV.cells))
 (hgrow : wr.grownBy w1 (Value.slice h.ai r.items.length h.ci).ownBlock) (hat : (Value.slice h.ai r.items.length h.ci).ownBlock = some g ∨ g = H) (hH : wr.heap.size ≤ H) :
 St w k a n c zs R { r with items := r.items ++ ps } { h with ai := some ⟨g, 0, none⟩, ci := cap } (w1.setCell ⟨R, 9, none⟩ (.slice (some ⟨g, 0, none⟩) (r.items.length + ps.length) cap)) := by
 have h1 := s.hk; have h2 := s.hR; have h3 := s.hz
 have hrow : ∀ b, (Value.slice h.ai r.items.length h.ci).ownBlock = some b → R + 1 ≤ b := fun b hb => (s.lst.oi.lt b hb).1
 have ne : ∀ b, b ≤ R → some b ≠ (Value.slice h.ai r.items.length h.ci).ownBlock := fun b hb e => by have := hrow b e.symm; omega
 have hl : (r.items ++ ps).length = r.items.length + ps.length := List.length_append
 refine ⟨?_, ?_, ?_, ?_, ?_, h1, h2, ?_, s.hb⟩
 · refine (s.cur.grownRow hgrow (ne k (by omega)) (fun hn x hx => ne _ (by have := s.hb hn x hx; omega))).grownRow (row := some R) (gb_set (World.grownBy.refl _ _) _ _) (by intro e; injection e with e; omega) (fun hn x hx => by have := s.hb hn x hx; intro e; injection e with e; omega)
 · exact gb_setNew (gb_any s.gb hgrow (fun b hb => by have := hrow b hb; omega)) (by omega) _ _
 · exact (s.res.grown hgrow (by omega) (ne _ (by omega))).other (by omega)
 · have := (s.box.grown hgrow h3 (ne _ (by omega))).set (j := 9) (v := .slice (some ⟨g, 0, none⟩) (r.items.length + ps.length) cap) (by simp [reqCells])
   simpa [reqCells] using this
 · exact (s.lst.appItem ps hown hgrow hat hH).set (by omega) _
 · have := hgrow.size
   simp
   omega
theorem Lst.low {B B' : Nat} {r : ReqV} {h : ReqH} {wr : World} (l : Lst B r h wr) (hb : B' ≤ B) : Lst B' r h wr :=
 ⟨l.op.mono hb, l.ot.mono hb, l.oi.mono hb, l.d1, l.d2, l.d3⟩
/-- The result is written. -/
theorem done_aux (hk : k < w.heap.size) (hR : w.heap.size < R) (hb : 0 < n → ∀ x, a = some x → x.block < w.heap.size) : ∀ (vs : List Value) (j : Nat) (W : World), Lst (R + 1) r h W → Cur W k a n c zs → w.grownBy W (some k) →
 Lst (R + 1) r h (writeCells W w.heap.size j vs) ∧ Cur (writeCells W w.heap.size j vs) k a n c zs ∧ w.grownBy (writeCells W w.heap.size j vs) (some k)
 | [], _, _, l, cu, g => ⟨l, cu, g⟩
 | v :: vs, j, W, l, cu, g => done_aux hk hR hb vs (j + 1) _ (l.set (by omega) v)
  (cu.grownRow (row := some w.heap.size) (gb_set (World.grownBy.refl _ _) _ _) (by intro e; injection e with e; omega) (fun hn x hx => by have := hb hn x hx; intro e; injection e with e; omega))
  (gb_setNew g (Nat.le_refl _) _ _)
theorem St.done (s : St w k a n c zs R r h wr) (vs : List Value) : Lst w.heap.size r h (writeCells wr w.heap.size 0 vs) ∧ Cur (writeCells wr w.heap.size 0 vs) k a n c zs ∧ w.grownBy (writeCells wr w.heap.size 0 vs) (some k) := by
 have h2 := s.hR
 obtain ⟨h3, h4, h5⟩ := done_aux (R := R) s.hk s.hR s.hb vs 0 wr s.lst s.cur s.gb
 exact ⟨h3.low (by omega), h4, h5⟩
theorem St.aftPair (s : St w k a n c zs R r h wr) {w1 : World} (hgrow : wr.grownBy w1 (Value.slice h.ap r.pairs.length h.cp).ownBlock) : w1.cell? ⟨R, 6, none⟩ = some (.slice h.ap r.pairs.length h.cp) ∧ w1.frozen? ⟨R, 6, none⟩ = false := by
 have ne : some R ≠ (Value.slice h.ap r.pairs.length h.cp).ownBlock := fun e => by have := (s.lst.op.lt R e.symm).1; omega
 exact (s.box.grown hgrow s.hz ne) 6 (by simp [reqCells])
theorem St.aftType (s : St w k a n c zs R r h wr) {w1 : World} (hgrow : wr.grownBy w1 (Value.slice h.at' r.types.length h.ct).ownBlock) : w1.cell? ⟨R, 7, none⟩ = some (.slice h.at' r.types.length h.ct) ∧ w1.frozen? ⟨R, 7, none⟩ = false := by
 have ne : some R ≠ (Value.slice h.at' r.types.length h.ct).ownBlock := fun e => by have := (s.lst.ot.lt R e.symm).1; omega
 exact (s.box.grown hgrow s.hz ne) 7 (by simp [reqCells])
theorem St.aftItem (s : St w k a n c zs R r h wr) {w1 : World} (hgrow : wr.grownBy w1 (Value.slice h.ai r.items.length h.ci).ownBlock) : w1.cell? ⟨R, 9, none⟩ = some (.slice h.ai r.items.length h.ci) ∧ w1.frozen? ⟨R, 9, none⟩ = false := by
 have ne : some R ≠ (Value.slice h.ai r.items.length h.ci).ownBlock := fun e => by have := (s.lst.oi.lt R e.symm).1; omega
 exact (s.box.grown hgrow s.hz ne) 9 (by simp [reqCells])
theorem Blk.write {g : Nat} : ∀ (vs : List Value) (w : World) (p : Nat) (cs : List Value), Blk w g cs → p + vs.length ≤ cs.length → Blk (writeCells w g p vs) g (writeRow cs p vs)
 | [], _, _, _, h, _ => h
 | v :: vs, w, p, cs, h, hl => Blk.write vs _ (p + 1) _ (h.set (j := p) (v := v) (by simp only [List.length_cons] at hl; omega)) (by simp only [List.length_cons, List.length_set] at hl ⊢; omega)
/-- A block that none of the lists lies in. -/
def Far (h : ReqH) (g : Nat) : Prop := (∀ x, h.ap = some x → x.block ≠ g) ∧ (∀ x, h.at' = some x → x.block ≠ g) ∧ (∀ x, h.ai = some x → x.block ≠ g)
theorem St.farNew (s : St w k a n c zs R r h wr) {g : Nat} (hg : wr.heap.size ≤ g) : Far h g :=
 ⟨fun x hx => by have := (own_blk s.lst.op x hx).2; omega, fun x hx => by have := (own_blk s.lst.ot x hx).2; omega, fun x hx => by have := (own_blk s.lst.oi x hx).2; omega⟩
theorem St.setFar (s : St w k a n c zs R r h wr) {g : Nat} (hg : R < g) (hf : Far h g) (j : Nat) (v : Value) : St w k a n c zs R r h (wr.setCell ⟨g, j, none⟩ v) := by
 have h1 := s.hk; have h2 := s.hR; have h3 := s.hz
 have gb : wr.grownBy (wr.setCell ⟨g, j, none⟩ v) (some g) := gb_set (World.grownBy.refl _ _) _ _
 have key : ∀ x : Addr, x.block ≠ g → some x.block ≠ some g := fun x hx e => hx (by injection e)
 refine ⟨s.cur.grownRow gb (by intro e; injection e with e; omega) (fun hn x hx => by have := s.hb hn x hx; intro e; injection e with e; omega), gb_setNew s.gb (by omega) _ _, s.res.other (by omega), s.box.other (by omega), ⟨?_, ?_, ?_, s.lst.d1, s.lst.d2, s.lst.d3⟩, h1, h2, by simpa using h3, s.hb⟩
 · exact own_kept s.lst.op gb fun x hx => key x (hf.1 x hx)
 · exact own_kept s.lst.ot gb fun x hx => key x (hf.2.1 x hx)
 · exact own_kept s.lst.oi gb fun x hx => key x (hf.2.2 x hx)
theorem St.write {g : Nat} (hg : R < g) (hf : Far h g) : ∀ (vs : List Value) (W : World) (p : Nat), St w k a n c zs R r h W → St w k a n c zs R r h (writeCells W g p vs)
 | [], _, _, s => s
 | v :: vs, _, p, s => St.write hg hf vs _ (p + 1) (s.setFar hg hf p v)
theorem size_write {g : Nat} : ∀ (vs : List Value) (W : World) (p : Nat), (writeCells W g p vs).heap.size = W.heap.size
 | [], _, _ => rfl
 | v :: vs, W, p => (size_write vs _ (p + 1)).trans (by simp)
/-- The item that is being drawn, in a block of its own. -/
structure Itm (w : World) (k : Nat) (a : Option Addr) (n c : Nat) (zs : List Int) (R : Nat) (r : ReqV) (h : ReqH) (g : Nat) (q : ItemV) (wr : World) : Prop where
 st : St w k a n c zs R r h wr
 blk : Blk wr g (ItemV.cells q)
 gR : R < g
 gz : g < wr.heap.size
 far : Far h g
theorem Itm.call {g : Nat} {q : ItemV} (s : Itm w k a n c zs R r h g q wr) (hg : wr.grownBy w' (some k)) (hs : St w k a n c zs R r h w') : Itm w k a n c zs R r h g q w' := by
 have h1 := s.st.hk; have h2 := s.st.hR; have h3 := s.gR
 exact ⟨hs, s.blk.grown hg s.gz (by intro e; injection e with e; omega), s.gR, Nat.lt_of_lt_of_le s.gz hg.size, s.far⟩
theorem Itm.set {g : Nat} {q q' : ItemV} (s : Itm w k a n c zs R r h g q wr) (j : Nat) (v : Value) (hj : j < 7) (hq : (ItemV.cells q).set j v = ItemV.cells q') : Itm w k a n c zs R r h g q' (wr.setCell ⟨g, j, none⟩ v) :=
 ⟨s.st.setFar s.gR s.far j v, by rw [← hq]; exact s.blk.set (by simpa [ItemV.cells] using hj), s.gR, by simpa using s.gz, s.far⟩
end
end Go.Proofs.YtcblpoeeembniabGreatDoor
