/- The structs of numbers, as plain Lean structures; how each lies in cells; what a slice of them reads as. -/
import Derived.Test.YtcblpoeeembniaaRd
namespace Go.Proofs.Ytcblpoeeembniaa
open Go.RowKit
set_option linter.unusedVariables false

structure ItemV where (id wd ht dp gram cls cnt : Int)
deriving Inhabited, DecidableEq
def ItemV.cells (q : ItemV) : List Value := [.int .i64 q.id, .int .i64 q.wd, .int .i64 q.ht, .int .i64 q.dp, .int .i64 q.gram, .int .i64 q.cls, .int .i64 q.cnt]
theorem ItemV.ext_cells {p q : ItemV} (h : p.cells = q.cells) : p = q := by
 cases p; cases q; simpa [ItemV.cells] using h
theorem ItemV.len (q : ItemV) : q.cells.length = 7 := rfl
structure TypeV where (id wd ht dp tare gram cost : Int)
deriving Inhabited, DecidableEq
def TypeV.cells (q : TypeV) : List Value := [.int .i64 q.id, .int .i64 q.wd, .int .i64 q.ht, .int .i64 q.dp, .int .i64 q.tare, .int .i64 q.gram, .int .i64 q.cost]
theorem TypeV.ext_cells {p q : TypeV} (h : p.cells = q.cells) : p = q := by
 cases p; cases q; simpa [TypeV.cells] using h
theorem TypeV.len (q : TypeV) : q.cells.length = 7 := rfl
structure PalletV where (wd dp ht gram : Int)
deriving Inhabited, DecidableEq
def PalletV.cells (q : PalletV) : List Value := [.int .i64 q.wd, .int .i64 q.dp, .int .i64 q.ht, .int .i64 q.gram]
theorem PalletV.ext_cells {p q : PalletV} (h : p.cells = q.cells) : p = q := by
 cases p; cases q; simpa [PalletV.cells] using h
theorem PalletV.len (q : PalletV) : q.cells.length = 4 := rfl
structure PairV where (a b : Int)
deriving Inhabited, DecidableEq
def PairV.cells (q : PairV) : List Value := [.int .i64 q.a, .int .i64 q.b]
theorem PairV.ext_cells {p q : PairV} (h : p.cells = q.cells) : p = q := by
 cases p; cases q; simpa [PairV.cells] using h
theorem PairV.len (q : PairV) : q.cells.length = 2 := rfl
structure BoxV where (wd dp ht gram : Int)
deriving Inhabited, DecidableEq
def BoxV.cells (q : BoxV) : List Value := [.int .i64 q.wd, .int .i64 q.dp, .int .i64 q.ht, .int .i64 q.gram]
theorem BoxV.ext_cells {p q : BoxV} (h : p.cells = q.cells) : p = q := by
 cases p; cases q; simpa [BoxV.cells] using h
theorem BoxV.len (q : BoxV) : q.cells.length = 4 := rfl
structure SpotV where (pal x y z : Int)
deriving Inhabited, DecidableEq
def SpotV.cells (q : SpotV) : List Value := [.int .i64 q.pal, .int .i64 q.x, .int .i64 q.y, .int .i64 q.z]
theorem SpotV.ext_cells {p q : SpotV} (h : p.cells = q.cells) : p = q := by
 cases p; cases q; simpa [SpotV.cells] using h
theorem SpotV.len (q : SpotV) : q.cells.length = 4 := rfl
structure BillV where (code ncar npal cost gram : Int)
deriving Inhabited, DecidableEq
def BillV.cells (q : BillV) : List Value := [.int .i64 q.code, .int .i64 q.ncar, .int .i64 q.npal, .int .i64 q.cost, .int .i64 q.gram]
theorem BillV.ext_cells {p q : BillV} (h : p.cells = q.cells) : p = q := by
 cases p; cases q; simpa [BillV.cells] using h
theorem BillV.len (q : BillV) : q.cells.length = 5 := rfl

/-- The slice at 'a' of length 'n', its elements of 'k' cells each, holds 'xs'. -/
def RdR {α : Type} [Inhabited α] (cells : α → List Value) (k : Nat) (w : World) (a : Option Addr) (n : Nat) (xs : List α) : Prop :=
 xs.length = n ∧ ∀ i, i < n → ∃ b off, a = some ⟨b, off, none⟩ ∧ ∀ j, j < k → w.cell? ⟨b, off + i * k + j, none⟩ = (cells (xs.getD i default))[j]?

theorem RdR.mono {α : Type} [Inhabited α] {cells : α → List Value} {k : Nat} (hk : 0 < k) (hlen : ∀ q, (cells q).length = k) {w w' : World} {a : Option Addr} {n : Nat} {xs : List α} (h : RdR cells k w a n xs) (hb : Below w.heap.size w w') : RdR cells k w' a n xs :=
 ⟨h.1, fun i hi => by
  obtain ⟨b, off, ha, hc⟩ := h.2 i hi
  refine ⟨b, off, ha, fun j hj => ?_⟩
  have h0 := hc 0 hk
  have hl := hlen (xs.getD i default)
  have hlt : b < w.heap.size := by
   have e : (cells (xs.getD i default))[0]? = some ((cells (xs.getD i default))[0]'(by omega)) := List.getElem?_eq_getElem (by omega)
   rw [e] at h0
   exact World.block_lt_of_cell? w _ h0
  exact (hb.cell (p := ⟨b, off + i * k + j, none⟩) hlt).trans (hc j hj)⟩

theorem RdR.other {α : Type} [Inhabited α] {cells : α → List Value} {k : Nat} {w : World} {a : Option Addr} {n g j : Nat} {v : Value} {xs : List α} (h : RdR cells k w a n xs) (hne : ∀ x, a = some x → x.block ≠ g) : RdR cells k (w.setCell ⟨g, j, none⟩ v) a n xs :=
 ⟨h.1, fun i hi => by
  obtain ⟨b, off, ha, hc⟩ := h.2 i hi
  refine ⟨b, off, ha, fun m hm => ?_⟩
  have hb : b ≠ g := hne _ ha
  exact (World.cell?_of_block (w := w) (a := ⟨b, off + i * k + m, none⟩) (Below.heap_setCell w _ v b (by simpa using hb))).trans (hc m hm)⟩

/-- Below keeps what is read: the block's number is what counts. -/
theorem RdR.lt {α : Type} [Inhabited α] {cells : α → List Value} {k : Nat} (hk : 0 < k) (hlen : ∀ q, (cells q).length = k) {w : World} {b off n : Nat} {xs : List α} (h : RdR cells k w (some ⟨b, off, none⟩) n xs) (hn : 0 < n) : b < w.heap.size := by
 obtain ⟨b', off', ha, hc⟩ := h.2 0 hn
 simp only [Option.some.injEq, Addr.mk.injEq] at ha
 obtain ⟨rfl, rfl, _⟩ := ha
 have h0 := hc 0 hk
 have hl := hlen (xs.getD 0 default)
 rw [List.getElem?_eq_getElem (by omega)] at h0
 exact World.block_lt_of_cell? w _ h0

/-- The block 'g' holds these cells, free to be written. -/
def Blk (w : World) (g : Nat) (cs : List Value) : Prop := ∀ j, j < cs.length → w.cell? ⟨g, j, none⟩ = cs[j]? ∧ w.frozen? ⟨g, j, none⟩ = false
/-- Ten cells at once. -/
theorem Blk.cs10 {w : World} {g : Nat} {a0 a1 a2 a3 a4 a5 a6 a7 a8 a9 : Value} (h : Blk w g [a0, a1, a2, a3, a4, a5, a6, a7, a8, a9]) : w.cell? ⟨g, 0, none⟩ = some a0 ∧ w.cell? ⟨g, 1, none⟩ = some a1 ∧ w.cell? ⟨g, 2, none⟩ = some a2 ∧ w.cell? ⟨g, 3, none⟩ = some a3 ∧ w.cell? ⟨g, 4, none⟩ = some a4 ∧ w.cell? ⟨g, 5, none⟩ = some a5 ∧ w.cell? ⟨g, 6, none⟩ = some a6 ∧ w.cell? ⟨g, 7, none⟩ = some a7 ∧ w.cell? ⟨g, 8, none⟩ = some a8 ∧ w.cell? ⟨g, 9, none⟩ = some a9 :=
 ⟨(h 0 (by simp)).1, (h 1 (by simp)).1, (h 2 (by simp)).1, (h 3 (by simp)).1, (h 4 (by simp)).1, (h 5 (by simp)).1, (h 6 (by simp)).1, (h 7 (by simp)).1, (h 8 (by simp)).1, (h 9 (by simp)).1⟩
theorem Blk.below {w w' : World} {g : Nat} {cs : List Value} (hb : Below w.heap.size w w') (hg : g < w.heap.size) (h : Blk w g cs) : Blk w' g cs :=
 fun j hj => ⟨(hb.cell (p := ⟨g, j, none⟩) hg).trans (h j hj).1, (hb.frozen (p := ⟨g, j, none⟩) hg).trans (h j hj).2⟩
theorem Blk.other {w : World} {g g' j : Nat} {v : Value} {cs : List Value} (h : Blk w g cs) (hne : g ≠ g') : Blk (w.setCell ⟨g', j, none⟩ v) g cs :=
 fun i hi => ⟨(World.cell?_of_block (w := w) (Below.heap_setCell w _ v g (by simpa using hne))).trans (h i hi).1, (World.frozen?_of_block (w := w) (Below.heap_setCell w _ v g (by simpa using hne))).trans (h i hi).2⟩
theorem Blk.set {w : World} {g j : Nat} {v : Value} {cs : List Value} (h : Blk w g cs) (hj : j < cs.length) : Blk (w.setCell ⟨g, j, none⟩ v) g (cs.set j v) := by
 intro i hi
 rw [List.length_set] at hi
 have h1 := h i hi
 have hfz : ∀ p, (w.setCell ⟨g, j, none⟩ v).frozen? p = w.frozen? p := fun p => World.frozen?_setCell w _ _ _
 refine ⟨?_, (hfz _).trans h1.2⟩
 by_cases e : i = j
 · subst e
   rw [List.getElem?_set_self hi]
   rw [List.getElem?_eq_getElem hi] at h1
   exact World.cell?_setCell_same _ _ _ h1.1
 · rw [List.getElem?_set_ne (by omega), World.cell?_setCell_other _ _ _ _ (fun hh => e (by injection hh with _ h2 _; exact h2.symm))]
   exact h1.1
theorem Blk.alloc (w : World) (cs : List Value) (t : TypeId) : Blk (w.alloc (.cells cs.toArray t)) w.heap.size cs := by
 intro j hj
 constructor <;> simp [hj]
theorem Blk.allocAt {w : World} {g : Nat} {t : TypeId} (cs : List Value) (hg : g = w.heap.size) : Blk (w.alloc (.cells cs.toArray t)) g cs := by
 subst hg
 exact Blk.alloc w cs t
theorem Blk.allocOld {w : World} {g : Nat} {cs : List Value} (h : Blk w g cs) (hg : g < w.heap.size) (o : Obj) : Blk (w.alloc o) g cs :=
 fun i hi => ⟨(World.cell?_of_block (w := w) (Below.heap_alloc w o g hg)).trans (h i hi).1, (World.frozen?_of_block (w := w) (Below.heap_alloc w o g hg)).trans (h i hi).2⟩

/-- The first cells of a block, with or without that they are free. -/
theorem Blk.cs3 {w : World} {g : Nat} {a0 a1 a2 : Value} {l : List Value} (h : Blk w g (a0 :: a1 :: a2 :: l)) : w.cell? ⟨g, 0, none⟩ = some a0 ∧ w.cell? ⟨g, 1, none⟩ = some a1 ∧ w.cell? ⟨g, 2, none⟩ = some a2 :=
 ⟨(h 0 (by simp)).1, (h 1 (by simp)).1, (h 2 (by simp)).1⟩
theorem Blk.cf3 {w : World} {g : Nat} {a0 a1 a2 : Value} {l : List Value} (h : Blk w g (a0 :: a1 :: a2 :: l)) : w.cell? ⟨g, 0, none⟩ = some a0 ∧ w.frozen? ⟨g, 0, none⟩ = false ∧ w.cell? ⟨g, 1, none⟩ = some a1 ∧ w.frozen? ⟨g, 1, none⟩ = false ∧ w.cell? ⟨g, 2, none⟩ = some a2 ∧ w.frozen? ⟨g, 2, none⟩ = false :=
 ⟨(h 0 (by simp)).1, (h 0 (by simp)).2, (h 1 (by simp)).1, (h 1 (by simp)).2, (h 2 (by simp)).1, (h 2 (by simp)).2⟩
theorem Blk.cs4 {w : World} {g : Nat} {a0 a1 a2 a3 : Value} {l : List Value} (h : Blk w g (a0 :: a1 :: a2 :: a3 :: l)) : w.cell? ⟨g, 0, none⟩ = some a0 ∧ w.cell? ⟨g, 1, none⟩ = some a1 ∧ w.cell? ⟨g, 2, none⟩ = some a2 ∧ w.cell? ⟨g, 3, none⟩ = some a3 :=
 ⟨(h 0 (by simp)).1, (h 1 (by simp)).1, (h 2 (by simp)).1, (h 3 (by simp)).1⟩
theorem Blk.cf4 {w : World} {g : Nat} {a0 a1 a2 a3 : Value} {l : List Value} (h : Blk w g (a0 :: a1 :: a2 :: a3 :: l)) : w.cell? ⟨g, 0, none⟩ = some a0 ∧ w.frozen? ⟨g, 0, none⟩ = false ∧ w.cell? ⟨g, 1, none⟩ = some a1 ∧ w.frozen? ⟨g, 1, none⟩ = false ∧ w.cell? ⟨g, 2, none⟩ = some a2 ∧ w.frozen? ⟨g, 2, none⟩ = false ∧ w.cell? ⟨g, 3, none⟩ = some a3 ∧ w.frozen? ⟨g, 3, none⟩ = false :=
 ⟨(h 0 (by simp)).1, (h 0 (by simp)).2, (h 1 (by simp)).1, (h 1 (by simp)).2, (h 2 (by simp)).1, (h 2 (by simp)).2, (h 3 (by simp)).1, (h 3 (by simp)).2⟩
theorem Blk.cs5 {w : World} {g : Nat} {a0 a1 a2 a3 a4 : Value} {l : List Value} (h : Blk w g (a0 :: a1 :: a2 :: a3 :: a4 :: l)) : w.cell? ⟨g, 0, none⟩ = some a0 ∧ w.cell? ⟨g, 1, none⟩ = some a1 ∧ w.cell? ⟨g, 2, none⟩ = some a2 ∧ w.cell? ⟨g, 3, none⟩ = some a3 ∧ w.cell? ⟨g, 4, none⟩ = some a4 :=
 ⟨(h 0 (by simp)).1, (h 1 (by simp)).1, (h 2 (by simp)).1, (h 3 (by simp)).1, (h 4 (by simp)).1⟩
theorem Blk.cf5 {w : World} {g : Nat} {a0 a1 a2 a3 a4 : Value} {l : List Value} (h : Blk w g (a0 :: a1 :: a2 :: a3 :: a4 :: l)) : w.cell? ⟨g, 0, none⟩ = some a0 ∧ w.frozen? ⟨g, 0, none⟩ = false ∧ w.cell? ⟨g, 1, none⟩ = some a1 ∧ w.frozen? ⟨g, 1, none⟩ = false ∧ w.cell? ⟨g, 2, none⟩ = some a2 ∧ w.frozen? ⟨g, 2, none⟩ = false ∧ w.cell? ⟨g, 3, none⟩ = some a3 ∧ w.frozen? ⟨g, 3, none⟩ = false ∧ w.cell? ⟨g, 4, none⟩ = some a4 ∧ w.frozen? ⟨g, 4, none⟩ = false :=
 ⟨(h 0 (by simp)).1, (h 0 (by simp)).2, (h 1 (by simp)).1, (h 1 (by simp)).2, (h 2 (by simp)).1, (h 2 (by simp)).2, (h 3 (by simp)).1, (h 3 (by simp)).2, (h 4 (by simp)).1, (h 4 (by simp)).2⟩
theorem Blk.cs6 {w : World} {g : Nat} {a0 a1 a2 a3 a4 a5 : Value} {l : List Value} (h : Blk w g (a0 :: a1 :: a2 :: a3 :: a4 :: a5 :: l)) : w.cell? ⟨g, 0, none⟩ = some a0 ∧ w.cell? ⟨g, 1, none⟩ = some a1 ∧ w.cell? ⟨g, 2, none⟩ = some a2 ∧ w.cell? ⟨g, 3, none⟩ = some a3 ∧ w.cell? ⟨g, 4, none⟩ = some a4 ∧ w.cell? ⟨g, 5, none⟩ = some a5 :=
 ⟨(h 0 (by simp)).1, (h 1 (by simp)).1, (h 2 (by simp)).1, (h 3 (by simp)).1, (h 4 (by simp)).1, (h 5 (by simp)).1⟩
theorem Blk.cf6 {w : World} {g : Nat} {a0 a1 a2 a3 a4 a5 : Value} {l : List Value} (h : Blk w g (a0 :: a1 :: a2 :: a3 :: a4 :: a5 :: l)) : w.cell? ⟨g, 0, none⟩ = some a0 ∧ w.frozen? ⟨g, 0, none⟩ = false ∧ w.cell? ⟨g, 1, none⟩ = some a1 ∧ w.frozen? ⟨g, 1, none⟩ = false ∧ w.cell? ⟨g, 2, none⟩ = some a2 ∧ w.frozen? ⟨g, 2, none⟩ = false ∧ w.cell? ⟨g, 3, none⟩ = some a3 ∧ w.frozen? ⟨g, 3, none⟩ = false ∧ w.cell? ⟨g, 4, none⟩ = some a4 ∧ w.frozen? ⟨g, 4, none⟩ = false ∧ w.cell? ⟨g, 5, none⟩ = some a5 ∧ w.frozen? ⟨g, 5, none⟩ = false :=
 ⟨(h 0 (by simp)).1, (h 0 (by simp)).2, (h 1 (by simp)).1, (h 1 (by simp)).2, (h 2 (by simp)).1, (h 2 (by simp)).2, (h 3 (by simp)).1, (h 3 (by simp)).2, (h 4 (by simp)).1, (h 4 (by simp)).2, (h 5 (by simp)).1, (h 5 (by simp)).2⟩
theorem Blk.cs7 {w : World} {g : Nat} {a0 a1 a2 a3 a4 a5 a6 : Value} {l : List Value} (h : Blk w g (a0 :: a1 :: a2 :: a3 :: a4 :: a5 :: a6 :: l)) : w.cell? ⟨g, 0, none⟩ = some a0 ∧ w.cell? ⟨g, 1, none⟩ = some a1 ∧ w.cell? ⟨g, 2, none⟩ = some a2 ∧ w.cell? ⟨g, 3, none⟩ = some a3 ∧ w.cell? ⟨g, 4, none⟩ = some a4 ∧ w.cell? ⟨g, 5, none⟩ = some a5 ∧ w.cell? ⟨g, 6, none⟩ = some a6 :=
 ⟨(h 0 (by simp)).1, (h 1 (by simp)).1, (h 2 (by simp)).1, (h 3 (by simp)).1, (h 4 (by simp)).1, (h 5 (by simp)).1, (h 6 (by simp)).1⟩
theorem Blk.cf7 {w : World} {g : Nat} {a0 a1 a2 a3 a4 a5 a6 : Value} {l : List Value} (h : Blk w g (a0 :: a1 :: a2 :: a3 :: a4 :: a5 :: a6 :: l)) : w.cell? ⟨g, 0, none⟩ = some a0 ∧ w.frozen? ⟨g, 0, none⟩ = false ∧ w.cell? ⟨g, 1, none⟩ = some a1 ∧ w.frozen? ⟨g, 1, none⟩ = false ∧ w.cell? ⟨g, 2, none⟩ = some a2 ∧ w.frozen? ⟨g, 2, none⟩ = false ∧ w.cell? ⟨g, 3, none⟩ = some a3 ∧ w.frozen? ⟨g, 3, none⟩ = false ∧ w.cell? ⟨g, 4, none⟩ = some a4 ∧ w.frozen? ⟨g, 4, none⟩ = false ∧ w.cell? ⟨g, 5, none⟩ = some a5 ∧ w.frozen? ⟨g, 5, none⟩ = false ∧ w.cell? ⟨g, 6, none⟩ = some a6 ∧ w.frozen? ⟨g, 6, none⟩ = false :=
 ⟨(h 0 (by simp)).1, (h 0 (by simp)).2, (h 1 (by simp)).1, (h 1 (by simp)).2, (h 2 (by simp)).1, (h 2 (by simp)).2, (h 3 (by simp)).1, (h 3 (by simp)).2, (h 4 (by simp)).1, (h 4 (by simp)).2, (h 5 (by simp)).1, (h 5 (by simp)).2, (h 6 (by simp)).1, (h 6 (by simp)).2⟩
theorem Blk.cs8 {w : World} {g : Nat} {a0 a1 a2 a3 a4 a5 a6 a7 : Value} {l : List Value} (h : Blk w g (a0 :: a1 :: a2 :: a3 :: a4 :: a5 :: a6 :: a7 :: l)) : w.cell? ⟨g, 0, none⟩ = some a0 ∧ w.cell? ⟨g, 1, none⟩ = some a1 ∧ w.cell? ⟨g, 2, none⟩ = some a2 ∧ w.cell? ⟨g, 3, none⟩ = some a3 ∧ w.cell? ⟨g, 4, none⟩ = some a4 ∧ w.cell? ⟨g, 5, none⟩ = some a5 ∧ w.cell? ⟨g, 6, none⟩ = some a6 ∧ w.cell? ⟨g, 7, none⟩ = some a7 :=
 ⟨(h 0 (by simp)).1, (h 1 (by simp)).1, (h 2 (by simp)).1, (h 3 (by simp)).1, (h 4 (by simp)).1, (h 5 (by simp)).1, (h 6 (by simp)).1, (h 7 (by simp)).1⟩
theorem Blk.cf8 {w : World} {g : Nat} {a0 a1 a2 a3 a4 a5 a6 a7 : Value} {l : List Value} (h : Blk w g (a0 :: a1 :: a2 :: a3 :: a4 :: a5 :: a6 :: a7 :: l)) : w.cell? ⟨g, 0, none⟩ = some a0 ∧ w.frozen? ⟨g, 0, none⟩ = false ∧ w.cell? ⟨g, 1, none⟩ = some a1 ∧ w.frozen? ⟨g, 1, none⟩ = false ∧ w.cell? ⟨g, 2, none⟩ = some a2 ∧ w.frozen? ⟨g, 2, none⟩ = false ∧ w.cell? ⟨g, 3, none⟩ = some a3 ∧ w.frozen? ⟨g, 3, none⟩ = false ∧ w.cell? ⟨g, 4, none⟩ = some a4 ∧ w.frozen? ⟨g, 4, none⟩ = false ∧ w.cell? ⟨g, 5, none⟩ = some a5 ∧ w.frozen? ⟨g, 5, none⟩ = false ∧ w.cell? ⟨g, 6, none⟩ = some a6 ∧ w.frozen? ⟨g, 6, none⟩ = false ∧ w.cell? ⟨g, 7, none⟩ = some a7 ∧ w.frozen? ⟨g, 7, none⟩ = false :=
 ⟨(h 0 (by simp)).1, (h 0 (by simp)).2, (h 1 (by simp)).1, (h 1 (by simp)).2, (h 2 (by simp)).1, (h 2 (by simp)).2, (h 3 (by simp)).1, (h 3 (by simp)).2, (h 4 (by simp)).1, (h 4 (by simp)).2, (h 5 (by simp)).1, (h 5 (by simp)).2, (h 6 (by simp)).1, (h 6 (by simp)).2, (h 7 (by simp)).1, (h 7 (by simp)).2⟩
theorem Blk.cs9 {w : World} {g : Nat} {a0 a1 a2 a3 a4 a5 a6 a7 a8 : Value} {l : List Value} (h : Blk w g (a0 :: a1 :: a2 :: a3 :: a4 :: a5 :: a6 :: a7 :: a8 :: l)) : w.cell? ⟨g, 0, none⟩ = some a0 ∧ w.cell? ⟨g, 1, none⟩ = some a1 ∧ w.cell? ⟨g, 2, none⟩ = some a2 ∧ w.cell? ⟨g, 3, none⟩ = some a3 ∧ w.cell? ⟨g, 4, none⟩ = some a4 ∧ w.cell? ⟨g, 5, none⟩ = some a5 ∧ w.cell? ⟨g, 6, none⟩ = some a6 ∧ w.cell? ⟨g, 7, none⟩ = some a7 ∧ w.cell? ⟨g, 8, none⟩ = some a8 :=
 ⟨(h 0 (by simp)).1, (h 1 (by simp)).1, (h 2 (by simp)).1, (h 3 (by simp)).1, (h 4 (by simp)).1, (h 5 (by simp)).1, (h 6 (by simp)).1, (h 7 (by simp)).1, (h 8 (by simp)).1⟩
theorem Blk.cf9 {w : World} {g : Nat} {a0 a1 a2 a3 a4 a5 a6 a7 a8 : Value} {l : List Value} (h : Blk w g (a0 :: a1 :: a2 :: a3 :: a4 :: a5 :: a6 :: a7 :: a8 :: l)) : w.cell? ⟨g, 0, none⟩ = some a0 ∧ w.frozen? ⟨g, 0, none⟩ = false ∧ w.cell? ⟨g, 1, none⟩ = some a1 ∧ w.frozen? ⟨g, 1, none⟩ = false ∧ w.cell? ⟨g, 2, none⟩ = some a2 ∧ w.frozen? ⟨g, 2, none⟩ = false ∧ w.cell? ⟨g, 3, none⟩ = some a3 ∧ w.frozen? ⟨g, 3, none⟩ = false ∧ w.cell? ⟨g, 4, none⟩ = some a4 ∧ w.frozen? ⟨g, 4, none⟩ = false ∧ w.cell? ⟨g, 5, none⟩ = some a5 ∧ w.frozen? ⟨g, 5, none⟩ = false ∧ w.cell? ⟨g, 6, none⟩ = some a6 ∧ w.frozen? ⟨g, 6, none⟩ = false ∧ w.cell? ⟨g, 7, none⟩ = some a7 ∧ w.frozen? ⟨g, 7, none⟩ = false ∧ w.cell? ⟨g, 8, none⟩ = some a8 ∧ w.frozen? ⟨g, 8, none⟩ = false :=
 ⟨(h 0 (by simp)).1, (h 0 (by simp)).2, (h 1 (by simp)).1, (h 1 (by simp)).2, (h 2 (by simp)).1, (h 2 (by simp)).2, (h 3 (by simp)).1, (h 3 (by simp)).2, (h 4 (by simp)).1, (h 4 (by simp)).2, (h 5 (by simp)).1, (h 5 (by simp)).2, (h 6 (by simp)).1, (h 6 (by simp)).2, (h 7 (by simp)).1, (h 7 (by simp)).2, (h 8 (by simp)).1, (h 8 (by simp)).2⟩
theorem Blk.cf10 {w : World} {g : Nat} {a0 a1 a2 a3 a4 a5 a6 a7 a8 a9 : Value} {l : List Value} (h : Blk w g (a0 :: a1 :: a2 :: a3 :: a4 :: a5 :: a6 :: a7 :: a8 :: a9 :: l)) : w.cell? ⟨g, 0, none⟩ = some a0 ∧ w.frozen? ⟨g, 0, none⟩ = false ∧ w.cell? ⟨g, 1, none⟩ = some a1 ∧ w.frozen? ⟨g, 1, none⟩ = false ∧ w.cell? ⟨g, 2, none⟩ = some a2 ∧ w.frozen? ⟨g, 2, none⟩ = false ∧ w.cell? ⟨g, 3, none⟩ = some a3 ∧ w.frozen? ⟨g, 3, none⟩ = false ∧ w.cell? ⟨g, 4, none⟩ = some a4 ∧ w.frozen? ⟨g, 4, none⟩ = false ∧ w.cell? ⟨g, 5, none⟩ = some a5 ∧ w.frozen? ⟨g, 5, none⟩ = false ∧ w.cell? ⟨g, 6, none⟩ = some a6 ∧ w.frozen? ⟨g, 6, none⟩ = false ∧ w.cell? ⟨g, 7, none⟩ = some a7 ∧ w.frozen? ⟨g, 7, none⟩ = false ∧ w.cell? ⟨g, 8, none⟩ = some a8 ∧ w.frozen? ⟨g, 8, none⟩ = false ∧ w.cell? ⟨g, 9, none⟩ = some a9 ∧ w.frozen? ⟨g, 9, none⟩ = false :=
 ⟨(h 0 (by simp)).1, (h 0 (by simp)).2, (h 1 (by simp)).1, (h 1 (by simp)).2, (h 2 (by simp)).1, (h 2 (by simp)).2, (h 3 (by simp)).1, (h 3 (by simp)).2, (h 4 (by simp)).1, (h 4 (by simp)).2, (h 5 (by simp)).1, (h 5 (by simp)).2, (h 6 (by simp)).1, (h 6 (by simp)).2, (h 7 (by simp)).1, (h 7 (by simp)).2, (h 8 (by simp)).1, (h 8 (by simp)).2, (h 9 (by simp)).1, (h 9 (by simp)).2⟩
/-- What new blocks bring with them. -/
theorem en1 {w W : World} {c : List Value} {t : TypeId} (h : w.alloc (.cells c.toArray t) = W) : Hid (Below w.heap.size w W) ∧ Hid (Blk W w.heap.size c) ∧ w.heap.size < W.heap.size := by
 subst h
 exact ⟨(Below.refl _ _).alloc (Nat.le_refl _) _, Blk.alloc w c t, by simp⟩
theorem en2 {w W : World} {c d : List Value} {t u : TypeId} (h : (w.alloc (.cells c.toArray t)).alloc (.cells d.toArray u) = W) :
 Hid (Below w.heap.size w W) ∧ Hid (Blk W w.heap.size c) ∧ w.heap.size < W.heap.size ∧ Hid (Blk W (w.heap.size + 1) d) ∧ w.heap.size + 1 < W.heap.size := by
 subst h
 exact ⟨((Below.refl _ _).alloc (Nat.le_refl _) _).alloc (by simp) _, (Blk.alloc w c t).allocOld (by simp) _, by simp <;> omega, Blk.allocAt d (by simp), by simp⟩
theorem en3 {w W : World} {c d e : List Value} {t u v : TypeId} (h : ((w.alloc (.cells c.toArray t)).alloc (.cells d.toArray u)).alloc (.cells e.toArray v) = W) :
 Hid (Below w.heap.size w W) ∧ Hid (Blk W w.heap.size c) ∧ w.heap.size < W.heap.size ∧ Hid (Blk W (w.heap.size + 1) d) ∧ w.heap.size + 1 < W.heap.size ∧ Hid (Blk W (w.heap.size + 1 + 1) e) ∧ w.heap.size + 1 + 1 < W.heap.size := by
 obtain ⟨h1, h2, h3, h4, h5⟩ := en2 (w := w) (c := c) (d := d) (t := t) (u := u) rfl
 subst h
 refine ⟨Below.alloc h1 (by simp <;> omega) _, Blk.allocOld h2 h3 _, by simp <;> omega, Blk.allocOld h4 h5 _, by simp <;> omega, Blk.allocAt e (by simp), by simp⟩

/-- 'vs' written over the cells from 'p' on. -/
def writeRow : List Value → Nat → List Value → List Value
 | L, _, [] => L
 | L, p, v :: vs => writeRow (L.set p v) (p + 1) vs
theorem writeRow_length : ∀ (vs L : List Value) (p : Nat), (writeRow L p vs).length = L.length
 | [], L, p => rfl
 | v :: vs, L, p => by rw [writeRow, writeRow_length vs]; simp
theorem writeRow_get : ∀ (vs L : List Value) (p m : Nat), p + vs.length ≤ L.length → (writeRow L p vs)[m]? = if p ≤ m ∧ m < p + vs.length then vs[m - p]? else L[m]?
 | [], L, p, m, h => by simp only [writeRow]; rw [if_neg (by rw [List.length_nil]; omega)]
 | v :: vs, L, p, m, h => by
  simp only [List.length_cons] at h
  rw [writeRow, writeRow_get vs _ (p + 1) m (by simp; omega)]
  by_cases h1 : p + 1 ≤ m ∧ m < p + 1 + vs.length
  · rw [if_pos h1, if_pos (by rw [List.length_cons]; omega), show m - p = (m - (p + 1)) + 1 by omega]
    simp
  · rw [if_neg h1]
    by_cases h2 : m = p
    · subst h2
      rw [if_pos (by simp), List.getElem?_set_self (by omega)]
      simp
    · rw [if_neg (by rw [List.length_cons]; omega), List.getElem?_set_ne (by omega)]

def writeCells : World → Nat → Nat → List Value → World
 | w, _, _, [] => w
 | w, g, p, v :: vs => writeCells (w.setCell ⟨g, p, none⟩ v) g (p + 1) vs
theorem own_write {base e size g n cap : Nat} : ∀ (vs : List Value) (w : World) (L : List Value) (p : Nat), w.ownsRow base e size (.slice (some ⟨g, 0, none⟩) n cap) n L → (writeCells w g p vs).ownsRow base e size (.slice (some ⟨g, 0, none⟩) n cap) n (writeRow L p vs)
 | [], w, L, p, h => h
 | v :: vs, w, L, p, h => own_write vs _ _ _ (h.stored p v).1
theorem below_write {B g : Nat} (hg : B ≤ g) : ∀ (vs : List Value) (w0 w : World) (p : Nat), Below B w0 w → Below B w0 (writeCells w g p vs)
 | [], w0, w, p, h => h
 | v :: vs, w0, w, p, h => below_write hg vs _ _ _ (h.setCell hg _)

/-- What is owned, row by row, is read. -/
theorem RdR.of_owns {α : Type} [Inhabited α] {cells : α → List Value} {k : Nat} {w : World} {base e g n cap : Nat} {xs : List α} {L : List Value} (h : w.ownsRow base e k (.slice (some ⟨g, 0, none⟩) n cap) n L) (hl : xs.length = n)
 (hL : ∀ i, i < n → ∀ j, j < k → L[i * k + j]? = (cells (xs.getD i default))[j]?) : RdR cells k w (some ⟨g, 0, none⟩) n xs :=
 ⟨hl, fun i hi => ⟨g, 0, rfl, fun j hj => by
  have hlt : i * k + j < n * k := by
   have := Nat.mul_le_mul_right k (show i + 1 ≤ n from hi)
   rw [Nat.succ_mul] at this
   omega
  rw [Nat.zero_add, h.cellAt _ hlt]
  exact hL i hi j hj⟩⟩
/-- One row more is written. -/
theorem rows_step {α : Type} [Inhabited α] {cells : α → List Value} {k n r : Nat} {xs : List α} {L : List Value} (hlen : ∀ q, (cells q).length = k) (hLl : L.length = n * k) (hr : r < n)
 (hL : ∀ i, i < r → ∀ j, j < k → L[i * k + j]? = (cells (xs.getD i default))[j]?) :
 ∀ i, i < r + 1 → ∀ j, j < k → (writeRow L (r * k) (cells (xs.getD r default)))[i * k + j]? = (cells (xs.getD i default))[j]? := by
 intro i hi j hj
 have hb : (r + 1) * k ≤ n * k := Nat.mul_le_mul_right k hr
 rw [Nat.succ_mul] at hb
 rw [writeRow_get _ _ _ _ (by rw [hlen, hLl]; exact hb), hlen]
 by_cases h : i < r
 · have : (i + 1) * k ≤ r * k := Nat.mul_le_mul_right k h
   rw [Nat.succ_mul] at this
   rw [if_neg (by omega)]
   exact hL i h j hj
 · obtain rfl : i = r := by omega
   rw [if_pos ⟨by omega, by omega⟩, Nat.add_sub_cancel_left]
theorem row_at {k n r j : Nat} {L : List Value} (hLl : L.length = n * k) (hr : r < n) (hj : j < k) : ∃ v, L[r * k + j]? = some v ∧ r * k + j < n * k := by
 have hb : (r + 1) * k ≤ n * k := Nat.mul_le_mul_right k hr
 rw [Nat.succ_mul] at hb
 exact ⟨_, List.getElem?_eq_getElem (by omega), by omega⟩
end Go.Proofs.Ytcblpoeeembniaa
