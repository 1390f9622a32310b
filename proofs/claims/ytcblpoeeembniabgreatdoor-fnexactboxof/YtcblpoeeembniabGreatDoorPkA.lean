/- Rd, Structs, Bw, Vol, ItemOk, To, ToS, EqS, Req: one text. -/
import Derived.Test.YtcblpoeeembniabGreatDoorRows
import Derived.WalkKit
import Derived.ProofKit
import Derived.Below
import Derived.Deep.QuietTactic
import Derived.BigQuiet
import Derived.WalkLawsBesides
import Derived.Deep.RegionWith
/- What a slice of numbers reads as. -/
namespace Go.Proofs.YtcblpoeeembniabGreatDoor
open Go.RowKit

/- Short names for what the scripts' simp calls name again and again (a claim's size). -/
theorem zz1 {α : Type} {xs : List α} {i : Nat} (h : i < xs.toArray.size) : xs.toArray[i] = xs[i]'(by simpa using h) := rfl
theorem zz2 {α : Type} (a : α) (l : List α) (h : 0 < (a :: l).length) : (a :: l)[0] = a := rfl
theorem zz3 {α : Type} (a : α) (l : List α) (i : Nat) (h : i + 1 < (a :: l).length) : (a :: l)[i + 1] = l[i]'(by simpa using h) := rfl
theorem zz4 {α : Type} (l : List α) (i : Nat) (a : α) : l.toArray.setIfInBounds i a = (l.set i a).toArray := List.setIfInBounds_toArray l i a
theorem zz5 {α : Type} {x : α} {xs : List α} {a : α} : (x :: xs).set 0 a = a :: xs := rfl
theorem zz6 {α : Type} {x : α} {xs : List α} {i : Nat} {a : α} : (x :: xs).set (i + 1) a = x :: xs.set i a := rfl
theorem zz7 {α : Type} {xs : Array α} {i : Nat} {d : α} : xs.getD i d = xs[i]?.getD d := Array.getD_eq_getD_getElem?
theorem zz8 {α : Type} {xs : List α} {i : Nat} : xs.toArray[i]? = xs[i]? := List.getElem?_toArray
theorem zz9 {α : Type} {a : α} {l : List α} : (a :: l)[0]? = some a := rfl
theorem zz10 {α : Type} {a : α} {i : Nat} {l : List α} : (a :: l)[i + 1]? = l[i]? := rfl
theorem zz11 {α : Type} {a b : α} : (some a).getD b = a := rfl
/-- The slice at 'a' of length 'n' holds the numbers 'zs'. -/
def Rd (w : World) (a : Option Addr) (n : Nat) (zs : List Int) : Prop :=
 zs.length = n ∧ ∀ i, i < n → ∃ b off, a = some ⟨b, off, none⟩ ∧ w.cell? ⟨b, off + i, none⟩ = some (.int .i64 (zs.getD i 0))

theorem Rd.mono {w w' : World} {a : Option Addr} {n : Nat} {zs : List Int} (h : Rd w a n zs) (hb : Below w.heap.size w w') : Rd w' a n zs :=
 ⟨h.1, fun i hi => by
  obtain ⟨b, off, ha, hc⟩ := h.2 i hi
  exact ⟨b, off, ha, (hb.cell (World.block_lt_of_cell? w _ hc)).trans hc⟩⟩

theorem getD_map_int (zs : List Int) (i : Nat) (h : i < zs.length) : (zs.map (Value.int .i64))[i]? = some (.int .i64 (zs.getD i 0)) := by
 simp [h]

/-- What is owned is read. -/
theorem Rd.of_owns {w : World} {base g n cap : Nat} {zs : List Int} (h : w.ownsRow base 3 1 (.slice (some ⟨g, 0, none⟩) n cap) n (zs.map (Value.int .i64))) : Rd w (some ⟨g, 0, none⟩) n zs := by
 have hl : zs.length = n := by have := h.1; simpa using this
 refine ⟨hl, fun i hi => ⟨g, 0, rfl, ?_⟩⟩
 have := h.cellAt i (by omega)
 rw [getD_map_int zs i (by omega)] at this
 simpa using this

theorem Tryz.infoInt : (Tryz.prog.info? 3).map (fun i => (i.zero, i.size, i.bytes)) = some (some (.int .i64 0), 1, 8) := by kernel_rfl

theorem fill_step (zs : List Int) (n k : Nat) (hl : zs.length = n) (hk : k < n) :
 ((zs.take k).map (Value.int .i64) ++ List.replicate (n - k) (Value.int .i64 0)).set k (.int .i64 (zs.getD k 0)) = (zs.take (k + 1)).map (Value.int .i64) ++ List.replicate (n - (k + 1)) (.int .i64 0) := by
 have e : n - k = (n - (k + 1)) + 1 := by omega
 have hlen : ((zs.take k).map (Value.int .i64)).length = k := by simp; omega
 rw [e, List.replicate_succ, List.set_append_right _ _ (by omega), hlen, Nat.sub_self, List.set_cons_zero, List.take_succ_eq_append_getElem (by omega), List.map_append, List.append_assoc]
 simp [hl, hk]

theorem fill_at (zs : List Int) (n k : Nat) (hl : zs.length = n) (hk : k < n) :
 ((zs.take k).map (Value.int .i64) ++ List.replicate (n - k) (Value.int .i64 0))[k]? = some (.int .i64 0) := by
 have hlen : ((zs.take k).map (Value.int .i64)).length = k := by simp; omega
 rw [List.getElem?_append_right (by omega), hlen, Nat.sub_self, List.getElem?_replicate, if_pos (by omega)]


theorem gb_below {w wr w1 : World} {row : Option Nat} (h : w.grownBy wr row) (hb : Below wr.heap.size wr w1) : w.grownBy w1 row :=
 ⟨hb.os.trans h.os, hb.tape.trans h.tape, hb.output.trans h.output, Nat.le_trans h.size hb.size, fun k hk hne => (hb.block k (Nat.lt_of_lt_of_le hk h.size)).trans (h.block k hk hne)⟩
theorem gb_set {w wr : World} {g : Nat} (h : w.grownBy wr (some g)) (j : Nat) (u : Value) : w.grownBy (wr.setCell ⟨g, j, none⟩ u) (some g) :=
 ⟨h.os, h.tape, h.output, by simpa using h.size, fun k hk hne => (Below.heap_setCell wr _ u k (fun e => hne (by rw [e]))).trans (h.block k hk hne)⟩
theorem own_later {w w1 : World} {base e size g n cap : Nat} {xs : List Value} (h : w.ownsRow base e size (.slice (some ⟨g, 0, none⟩) n cap) n xs) (hb : Below w.heap.size w w1) : w1.ownsRow base e size (.slice (some ⟨g, 0, none⟩) n cap) n xs := by
 refine ⟨h.1, ?_⟩
 rcases h.2 with h' | ⟨g', cap', cur, h1, h2, h3, h4⟩
 · exact Or.inl h'
 · exact Or.inr ⟨g', cap', cur, h1, h2, (hb.block g' (lt_of_block h3)).trans h3, h4⟩
theorem own_shape {w : World} {base e size n : Nat} {v : Value} {xs : List Value} (h : w.ownsRow base e size v n xs) (hne : ¬ v = .slice none 0 0) : ∃ g cap, v = .slice (some ⟨g, 0, none⟩) n cap := by
 rcases h.2 with ⟨h', _⟩ | ⟨g, cap, cur, h', _⟩
 · exact absurd h' hne
 · exact ⟨g, cap, h'⟩
theorem own_base {w : World} {base e size n g cap : Nat} {xs : List Value} (h : w.ownsRow base e size (.slice (some ⟨g, 0, none⟩) n cap) n xs) : base ≤ g :=
 (h.lt g rfl).1
theorem Rd.grown {w w' : World} {a : Option Addr} {g n : Nat} {zs : List Int} (h : Rd w a n zs) (hg : w.grownBy w' (some g)) (hne : ∀ x, a = some x → x.block ≠ g) : Rd w' a n zs :=
 ⟨h.1, fun i hi => by
  obtain ⟨b, off, ha, hc⟩ := h.2 i hi
  exact ⟨b, off, ha, hg.cell hc (by have := hne _ ha; simpa using this)⟩⟩
theorem ret_num {a b : Int} (h : a = b) : Ending.returned (.int .i64 a) = .returned (.int .i64 b) := by rw [h]
theorem hide {p : Prop} (h : p) : Hid p := h
theorem unhide {p : Prop} (h : Hid p) : p := h
end Go.Proofs.YtcblpoeeembniabGreatDoor

/- The structs of numbers, as plain Lean structures; how each lies in cells; what a slice of them reads as. -/
namespace Go.Proofs.YtcblpoeeembniabGreatDoor
open Go.RowKit
set_option linter.unusedVariables false

structure ItemV where (id wd ht dp gram cls cnt : Int)
deriving Inhabited, DecidableEq
def ItemV.cells (q : ItemV) : List Value := [.int .i64 q.id, .int .i64 q.wd, .int .i64 q.ht, .int .i64 q.dp, .int .i64 q.gram, .int .i64 q.cls, .int .i64 q.cnt]
theorem ItemV.ext_cells {p q : ItemV} (h : p.cells = q.cells) : p = q := by
 cases p; cases q; simpa [ItemV.cells] using h
theorem ItemV.len (q : ItemV) : q.cells.length = 7 := rfl
structure TypeV where (id wd ht dp tare gram cost : Int)
deriving Inhabited, DecidableEq
def TypeV.cells (q : TypeV) : List Value := [.int .i64 q.id, .int .i64 q.wd, .int .i64 q.ht, .int .i64 q.dp, .int .i64 q.tare, .int .i64 q.gram, .int .i64 q.cost]
theorem TypeV.ext_cells {p q : TypeV} (h : p.cells = q.cells) : p = q := by
 cases p; cases q; simpa [TypeV.cells] using h
theorem TypeV.len (q : TypeV) : q.cells.length = 7 := rfl
structure PalletV where (wd dp ht gram : Int)
deriving Inhabited, DecidableEq
def PalletV.cells (q : PalletV) : List Value := [.int .i64 q.wd, .int .i64 q.dp, .int .i64 q.ht, .int .i64 q.gram]
theorem PalletV.ext_cells {p q : PalletV} (h : p.cells = q.cells) : p = q := by
 cases p; cases q; simpa [PalletV.cells] using h
theorem PalletV.len (q : PalletV) : q.cells.length = 4 := rfl
structure PairV where (a b : Int)
deriving Inhabited, DecidableEq
def PairV.cells (q : PairV) : List Value := [.int .i64 q.a, .int .i64 q.b]
theorem PairV.ext_cells {p q : PairV} (h : p.cells = q.cells) : p = q := by
 cases p; cases q; simpa [PairV.cells] using h
theorem PairV.len (q : PairV) : q.cells.length = 2 := rfl
structure BoxV where (wd dp ht gram : Int)
deriving Inhabited, DecidableEq
def BoxV.cells (q : BoxV) : List Value := [.int .i64 q.wd, .int .i64 q.dp, .int .i64 q.ht, .int .i64 q.gram]
theorem BoxV.ext_cells {p q : BoxV} (h : p.cells = q.cells) : p = q := by
 cases p; cases q; simpa [BoxV.cells] using h
theorem BoxV.len (q : BoxV) : q.cells.length = 4 := rfl
structure SpotV where (pal x y z : Int)
deriving Inhabited, DecidableEq
def SpotV.cells (q : SpotV) : List Value := [.int .i64 q.pal, .int .i64 q.x, .int .i64 q.y, .int .i64 q.z]
theorem SpotV.ext_cells {p q : SpotV} (h : p.cells = q.cells) : p = q := by
 cases p; cases q; simpa [SpotV.cells] using h
theorem SpotV.len (q : SpotV) : q.cells.length = 4 := rfl
structure BillV where (code ncar npal cost gram : Int)
deriving Inhabited, DecidableEq
def BillV.cells (q : BillV) : List Value := [.int .i64 q.code, .int .i64 q.ncar, .int .i64 q.npal, .int .i64 q.cost, .int .i64 q.gram]
theorem BillV.ext_cells {p q : BillV} (h : p.cells = q.cells) : p = q := by
 cases p; cases q; simpa [BillV.cells] using h
theorem BillV.len (q : BillV) : q.cells.length = 5 := rfl

/-- The slice at 'a' of length 'n', its elements of 'k' cells each, holds 'xs'. -/
def RdR {α : Type} [Inhabited α] (cells : α → List Value) (k : Nat) (w : World) (a : Option Addr) (n : Nat) (xs : List α) : Prop :=
 xs.length = n ∧ ∀ i, i < n → ∃ b off, a = some ⟨b, off, none⟩ ∧ ∀ j, j < k → w.cell? ⟨b, off + i * k + j, none⟩ = (cells (xs.getD i default))[j]?

theorem RdR.mono {α : Type} [Inhabited α] {cells : α → List Value} {k : Nat} (hk : 0 < k) (hlen : ∀ q, (cells q).length = k) {w w' : World} {a : Option Addr} {n : Nat} {xs : List α} (h : RdR cells k w a n xs) (hb : Below w.heap.size w w') : RdR cells k w' a n xs :=
 ⟨h.1, fun i hi => by
  obtain ⟨b, off, ha, hc⟩ := h.2 i hi
  refine ⟨b, off, ha, fun j hj => ?_⟩
  have h0 := hc 0 hk
  have hl := hlen (xs.getD i default)
  have hlt : b < w.heap.size := by
   have e : (cells (xs.getD i default))[0]? = some ((cells (xs.getD i default))[0]'(by omega)) := List.getElem?_eq_getElem (by omega)
   rw [e] at h0
   exact World.block_lt_of_cell? w _ h0
  exact (hb.cell (p := ⟨b, off + i * k + j, none⟩) hlt).trans (hc j hj)⟩

theorem RdR.other {α : Type} [Inhabited α] {cells : α → List Value} {k : Nat} {w : World} {a : Option Addr} {n g j : Nat} {v : Value} {xs : List α} (h : RdR cells k w a n xs) (hne : ∀ x, a = some x → x.block ≠ g) : RdR cells k (w.setCell ⟨g, j, none⟩ v) a n xs :=
 ⟨h.1, fun i hi => by
  obtain ⟨b, off, ha, hc⟩ := h.2 i hi
  refine ⟨b, off, ha, fun m hm => ?_⟩
  have hb : b ≠ g := hne _ ha
  exact (World.cell?_of_block (w := w) (a := ⟨b, off + i * k + m, none⟩) (Below.heap_setCell w _ v b (by simpa using hb))).trans (hc m hm)⟩

/-- Below keeps what is read: the block's number is what counts. -/
theorem RdR.lt {α : Type} [Inhabited α] {cells : α → List Value} {k : Nat} (hk : 0 < k) (hlen : ∀ q, (cells q).length = k) {w : World} {b off n : Nat} {xs : List α} (h : RdR cells k w (some ⟨b, off, none⟩) n xs) (hn : 0 < n) : b < w.heap.size := by
 obtain ⟨b', off', ha, hc⟩ := h.2 0 hn
 simp only [Option.some.injEq, Addr.mk.injEq] at ha
 obtain ⟨rfl, rfl, _⟩ := ha
 have h0 := hc 0 hk
 have hl := hlen (xs.getD 0 default)
 rw [List.getElem?_eq_getElem (by omega)] at h0
 exact World.block_lt_of_cell? w _ h0

/-- The block 'g' holds these cells, free to be written. -/
def Blk (w : World) (g : Nat) (cs : List Value) : Prop := ∀ j, j < cs.length → w.cell? ⟨g, j, none⟩ = cs[j]? ∧ w.frozen? ⟨g, j, none⟩ = false
/-- Ten cells at once. -/
theorem Blk.cs10 {w : World} {g : Nat} {a0 a1 a2 a3 a4 a5 a6 a7 a8 a9 : Value} (h : Blk w g [a0, a1, a2, a3, a4, a5, a6, a7, a8, a9]) : w.cell? ⟨g, 0, none⟩ = some a0 ∧ w.cell? ⟨g, 1, none⟩ = some a1 ∧ w.cell? ⟨g, 2, none⟩ = some a2 ∧ w.cell? ⟨g, 3, none⟩ = some a3 ∧ w.cell? ⟨g, 4, none⟩ = some a4 ∧ w.cell? ⟨g, 5, none⟩ = some a5 ∧ w.cell? ⟨g, 6, none⟩ = some a6 ∧ w.cell? ⟨g, 7, none⟩ = some a7 ∧ w.cell? ⟨g, 8, none⟩ = some a8 ∧ w.cell? ⟨g, 9, none⟩ = some a9 :=
 ⟨(h 0 (by simp)).1, (h 1 (by simp)).1, (h 2 (by simp)).1, (h 3 (by simp)).1, (h 4 (by simp)).1, (h 5 (by simp)).1, (h 6 (by simp)).1, (h 7 (by simp)).1, (h 8 (by simp)).1, (h 9 (by simp)).1⟩
theorem Blk.below {w w' : World} {g : Nat} {cs : List Value} (hb : Below w.heap.size w w') (hg : g < w.heap.size) (h : Blk w g cs) : Blk w' g cs :=
 fun j hj => ⟨(hb.cell (p := ⟨g, j, none⟩) hg).trans (h j hj).1, (hb.frozen (p := ⟨g, j, none⟩) hg).trans (h j hj).2⟩
theorem Blk.other {w : World} {g g' j : Nat} {v : Value} {cs : List Value} (h : Blk w g cs) (hne : g ≠ g') : Blk (w.setCell ⟨g', j, none⟩ v) g cs :=
 fun i hi => ⟨(World.cell?_of_block (w := w) (Below.heap_setCell w _ v g (by simpa using hne))).trans (h i hi).1, (World.frozen?_of_block (w := w) (Below.heap_setCell w _ v g (by simpa using hne))).trans (h i hi).2⟩
theorem Blk.set {w : World} {g j : Nat} {v : Value} {cs : List Value} (h : Blk w g cs) (hj : j < cs.length) : Blk (w.setCell ⟨g, j, none⟩ v) g (cs.set j v) := by
 intro i hi
 rw [List.length_set] at hi
 have h1 := h i hi
 have hfz : ∀ p, (w.setCell ⟨g, j, none⟩ v).frozen? p = w.frozen? p := fun p => World.frozen?_setCell w _ _ _
 refine ⟨?_, (hfz _).trans h1.2⟩
 by_cases e : i = j
 · subst e
   rw [List.getElem?_set_self hi]
   rw [List.getElem?_eq_getElem hi] at h1
   exact World.cell?_setCell_same _ _ _ h1.1
 · rw [List.getElem?_set_ne (by omega), World.cell?_setCell_other _ _ _ _ (fun hh => e (by injection hh with _ h2 _; exact h2.symm))]
   exact h1.1
theorem Blk.alloc (w : World) (cs : List Value) (t : TypeId) : Blk (w.alloc (.cells cs.toArray t)) w.heap.size cs := by
 intro j hj
 constructor <;> simp [hj]
theorem Blk.allocAt {w : World} {g : Nat} {t : TypeId} (cs : List Value) (hg : g = w.heap.size) : Blk (w.alloc (.cells cs.toArray t)) g cs := by
 subst hg
 exact Blk.alloc w cs t
theorem Blk.allocOld {w : World} {g : Nat} {cs : List Value} (h : Blk w g cs) (hg : g < w.heap.size) (o : Obj) : Blk (w.alloc o) g cs :=
 fun i hi => ⟨(World.cell?_of_block (w := w) (Below.heap_alloc w o g hg)).trans (h i hi).1, (World.frozen?_of_block (w := w) (Below.heap_alloc w o g hg)).trans (h i hi).2⟩

/-- The first cells of a block, with or without that they are free. -/
theorem Blk.cs3 {w : World} {g : Nat} {a0 a1 a2 : Value} {l : List Value} (h : Blk w g (a0 :: a1 :: a2 :: l)) : w.cell? ⟨g, 0, none⟩ = some a0 ∧ w.cell? ⟨g, 1, none⟩ = some a1 ∧ w.cell? ⟨g, 2, none⟩ = some a2 :=
 ⟨(h 0 (by simp)).1, (h 1 (by simp)).1, (h 2 (by simp)).1⟩
theorem Blk.cf3 {w : World} {g : Nat} {a0 a1 a2 : Value} {l : List Value} (h : Blk w g (a0 :: a1 :: a2 :: l)) : w.cell? ⟨g, 0, none⟩ = some a0 ∧ w.frozen? ⟨g, 0, none⟩ = false ∧ w.cell? ⟨g, 1, none⟩ = some a1 ∧ w.frozen? ⟨g, 1, none⟩ = false ∧ w.cell? ⟨g, 2, none⟩ = some a2 ∧ w.frozen? ⟨g, 2, none⟩ = false :=
 ⟨(h 0 (by simp)).1, (h 0 (by simp)).2, (h 1 (by simp)).1, (h 1 (by simp)).2, (h 2 (by simp)).1, (h 2 (by simp)).2⟩
theorem Blk.cs4 {w : World} {g : Nat} {a0 a1 a2 a3 : Value} {l : List Value} (h : Blk w g (a0 :: a1 :: a2 :: a3 :: l)) : w.cell? ⟨g, 0, none⟩ = some a0 ∧ w.cell? ⟨g, 1, none⟩ = some a1 ∧ w.cell? ⟨g, 2, none⟩ = some a2 ∧ w.cell? ⟨g, 3, none⟩ = some a3 :=
 ⟨(h 0 (by simp)).1, (h 1 (by simp)).1, (h 2 (by simp)).1, (h 3 (by simp)).1⟩
theorem Blk.cf4 {w : World} {g : Nat} {a0 a1 a2 a3 : Value} {l : List Value} (h : Blk w g (a0 :: a1 :: a2 :: a3 :: l)) : w.cell? ⟨g, 0, none⟩ = some a0 ∧ w.frozen? ⟨g, 0, none⟩ = false ∧ w.cell? ⟨g, 1, none⟩ = some a1 ∧ w.frozen? ⟨g, 1, none⟩ = false ∧ w.cell? ⟨g, 2, none⟩ = some a2 ∧ w.frozen? ⟨g, 2, none⟩ = false ∧ w.cell? ⟨g, 3, none⟩ = some a3 ∧ w.frozen? ⟨g, 3, none⟩ = false :=
 ⟨(h 0 (by simp)).1, (h 0 (by simp)).2, (h 1 (by simp)).1, (h 1 (by simp)).2, (h 2 (by simp)).1, (h 2 (by simp)).2, (h 3 (by simp)).1, (h 3 (by simp)).2⟩
theorem Blk.cs5 {w : World} {g : Nat} {a0 a1 a2 a3 a4 : Value} {l : List Value} (h : Blk w g (a0 :: a1 :: a2 :: a3 :: a4 :: l)) : w.cell? ⟨g, 0, none⟩ = some a0 ∧ w.cell? ⟨g, 1, none⟩ = some a1 ∧ w.cell? ⟨g, 2, none⟩ = some a2 ∧ w.cell? ⟨g, 3, none⟩ = some a3 ∧ w.cell? ⟨g, 4, none⟩ = some a4 :=
 ⟨(h 0 (by simp)).1, (h 1 (by simp)).1, (h 2 (by simp)).1, (h 3 (by simp)).1, (h 4 (by simp)).1⟩
theorem Blk.cf5 {w : World} {g : Nat} {a0 a1 a2 a3 a4 : Value} {l : List Value} (h : Blk w g (a0 :: a1 :: a2 :: a3 :: a4 :: l)) : w.cell? ⟨g, 0, none⟩ = some a0 ∧ w.frozen? ⟨g, 0, none⟩ = false ∧ w.cell? ⟨g, 1, none⟩ = some a1 ∧ w.frozen? ⟨g, 1, none⟩ = false ∧ w.cell? ⟨g, 2, none⟩ = some a2 ∧ w.frozen? ⟨g, 2, none⟩ = false ∧ w.cell? ⟨g, 3, none⟩ = some a3 ∧ w.frozen? ⟨g, 3, none⟩ = false ∧ w.cell? ⟨g, 4, none⟩ = some a4 ∧ w.frozen? ⟨g, 4, none⟩ = false :=
 ⟨(h 0 (by simp)).1, (h 0 (by simp)).2, (h 1 (by simp)).1, (h 1 (by simp)).2, (h 2 (by simp)).1, (h 2 (by simp)).2, (h 3 (by simp)).1, (h 3 (by simp)).2, (h 4 (by simp)).1, (h 4 (by simp)).2⟩
theorem Blk.cs6 {w : World} {g : Nat} {a0 a1 a2 a3 a4 a5 : Value} {l : List Value} (h : Blk w g (a0 :: a1 :: a2 :: a3 :: a4 :: a5 :: l)) : w.cell? ⟨g, 0, none⟩ = some a0 ∧ w.cell? ⟨g, 1, none⟩ = some a1 ∧ w.cell? ⟨g, 2, none⟩ = some a2 ∧ w.cell? ⟨g, 3, none⟩ = some a3 ∧ w.cell? ⟨g, 4, none⟩ = some a4 ∧ w.cell? ⟨g, 5, none⟩ = some a5 :=
 ⟨(h 0 (by simp)).1, (h 1 (by simp)).1, (h 2 (by simp)).1, (h 3 (by simp)).1, (h 4 (by simp)).1, (h 5 (by simp)).1⟩
theorem Blk.cf6 {w : World} {g : Nat} {a0 a1 a2 a3 a4 a5 : Value} {l : List Value} (h : Blk w g (a0 :: a1 :: a2 :: a3 :: a4 :: a5 :: l)) : w.cell? ⟨g, 0, none⟩ = some a0 ∧ w.frozen? ⟨g, 0, none⟩ = false ∧ w.cell? ⟨g, 1, none⟩ = some a1 ∧ w.frozen? ⟨g, 1, none⟩ = false ∧ w.cell? ⟨g, 2, none⟩ = some a2 ∧ w.frozen? ⟨g, 2, none⟩ = false ∧ w.cell? ⟨g, 3, none⟩ = some a3 ∧ w.frozen? ⟨g, 3, none⟩ = false ∧ w.cell? ⟨g, 4, none⟩ = some a4 ∧ w.frozen? ⟨g, 4, none⟩ = false ∧ w.cell? ⟨g, 5, none⟩ = some a5 ∧ w.frozen? ⟨g, 5, none⟩ = false :=
 ⟨(h 0 (by simp)).1, (h 0 (by simp)).2, (h 1 (by simp)).1, (h 1 (by simp)).2, (h 2 (by simp)).1, (h 2 (by simp)).2, (h 3 (by simp)).1, (h 3 (by simp)).2, (h 4 (by simp)).1, (h 4 (by simp)).2, (h 5 (by simp)).1, (h 5 (by simp)).2⟩
theorem Blk.cs7 {w : World} {g : Nat} {a0 a1 a2 a3 a4 a5 a6 : Value} {l : List Value} (h : Blk w g (a0 :: a1 :: a2 :: a3 :: a4 :: a5 :: a6 :: l)) : w.cell? ⟨g, 0, none⟩ = some a0 ∧ w.cell? ⟨g, 1, none⟩ = some a1 ∧ w.cell? ⟨g, 2, none⟩ = some a2 ∧ w.cell? ⟨g, 3, none⟩ = some a3 ∧ w.cell? ⟨g, 4, none⟩ = some a4 ∧ w.cell? ⟨g, 5, none⟩ = some a5 ∧ w.cell? ⟨g, 6, none⟩ = some a6 :=
 ⟨(h 0 (by simp)).1, (h 1 (by simp)).1, (h 2 (by simp)).1, (h 3 (by simp)).1, (h 4 (by simp)).1, (h 5 (by simp)).1, (h 6 (by simp)).1⟩
theorem Blk.cf7 {w : World} {g : Nat} {a0 a1 a2 a3 a4 a5 a6 : Value} {l : List Value} (h : Blk w g (a0 :: a1 :: a2 :: a3 :: a4 :: a5 :: a6 :: l)) : w.cell? ⟨g, 0, none⟩ = some a0 ∧ w.frozen? ⟨g, 0, none⟩ = false ∧ w.cell? ⟨g, 1, none⟩ = some a1 ∧ w.frozen? ⟨g, 1, none⟩ = false ∧ w.cell? ⟨g, 2, none⟩ = some a2 ∧ w.frozen? ⟨g, 2, none⟩ = false ∧ w.cell? ⟨g, 3, none⟩ = some a3 ∧ w.frozen? ⟨g, 3, none⟩ = false ∧ w.cell? ⟨g, 4, none⟩ = some a4 ∧ w.frozen? ⟨g, 4, none⟩ = false ∧ w.cell? ⟨g, 5, none⟩ = some a5 ∧ w.frozen? ⟨g, 5, none⟩ = false ∧ w.cell? ⟨g, 6, none⟩ = some a6 ∧ w.frozen? ⟨g, 6, none⟩ = false :=
 ⟨(h 0 (by simp)).1, (h 0 (by simp)).2, (h 1 (by simp)).1, (h 1 (by simp)).2, (h 2 (by simp)).1, (h 2 (by simp)).2, (h 3 (by simp)).1, (h 3 (by simp)).2, (h 4 (by simp)).1, (h 4 (by simp)).2, (h 5 (by simp)).1, (h 5 (by simp)).2, (h 6 (by simp)).1, (h 6 (by simp)).2⟩
theorem Blk.cs8 {w : World} {g : Nat} {a0 a1 a2 a3 a4 a5 a6 a7 : Value} {l : List Value} (h : Blk w g (a0 :: a1 :: a2 :: a3 :: a4 :: a5 :: a6 :: a7 :: l)) : w.cell? ⟨g, 0, none⟩ = some a0 ∧ w.cell? ⟨g, 1, none⟩ = some a1 ∧ w.cell? ⟨g, 2, none⟩ = some a2 ∧ w.cell? ⟨g, 3, none⟩ = some a3 ∧ w.cell? ⟨g, 4, none⟩ = some a4 ∧ w.cell? ⟨g, 5, none⟩ = some a5 ∧ w.cell? ⟨g, 6, none⟩ = some a6 ∧ w.cell? ⟨g, 7, none⟩ = some a7 :=
 ⟨(h 0 (by simp)).1, (h 1 (by simp)).1, (h 2 (by simp)).1, (h 3 (by simp)).1, (h 4 (by simp)).1, (h 5 (by simp)).1, (h 6 (by simp)).1, (h 7 (by simp)).1⟩
theorem Blk.cf8 {w : World} {g : Nat} {a0 a1 a2 a3 a4 a5 a6 a7 : Value} {l : List Value} (h : Blk w g (a0 :: a1 :: a2 :: a3 :: a4 :: a5 :: a6 :: a7 :: l)) : w.cell? ⟨g, 0, none⟩ = some a0 ∧ w.frozen? ⟨g, 0, none⟩ = false ∧ w.cell? ⟨g, 1, none⟩ = some a1 ∧ w.frozen? ⟨g, 1, none⟩ = false ∧ w.cell? ⟨g, 2, none⟩ = some a2 ∧ w.frozen? ⟨g, 2, none⟩ = false ∧ w.cell? ⟨g, 3, none⟩ = some a3 ∧ w.frozen? ⟨g, 3, none⟩ = false ∧ w.cell? ⟨g, 4, none⟩ = some a4 ∧ w.frozen? ⟨g, 4, none⟩ = false ∧ w.cell? ⟨g, 5, none⟩ = some a5 ∧ w.frozen? ⟨g, 5, none⟩ = false ∧ w.cell? ⟨g, 6, none⟩ = some a6 ∧ w.frozen? ⟨g, 6, none⟩ = false ∧ w.cell? ⟨g, 7, none⟩ = some a7 ∧ w.frozen? ⟨g, 7, none⟩ = false :=
 ⟨(h 0 (by simp)).1, (h 0 (by simp)).2, (h 1 (by simp)).1, (h 1 (by simp)).2, (h 2 (by simp)).1, (h 2 (by simp)).2, (h 3 (by simp)).1, (h 3 (by simp)).2, (h 4 (by simp)).1, (h 4 (by simp)).2, (h 5 (by simp)).1, (h 5 (by simp)).2, (h 6 (by simp)).1, (h 6 (by simp)).2, (h 7 (by simp)).1, (h 7 (by simp)).2⟩
theorem Blk.cs9 {w : World} {g : Nat} {a0 a1 a2 a3 a4 a5 a6 a7 a8 : Value} {l : List Value} (h : Blk w g (a0 :: a1 :: a2 :: a3 :: a4 :: a5 :: a6 :: a7 :: a8 :: l)) : w.cell? ⟨g, 0, none⟩ = some a0 ∧ w.cell? ⟨g, 1, none⟩ = some a1 ∧ w.cell? ⟨g, 2, none⟩ = some a2 ∧ w.cell? ⟨g, 3, none⟩ = some a3 ∧ w.cell? ⟨g, 4, none⟩ = some a4 ∧ w.cell? ⟨g, 5, none⟩ = some a5 ∧ w.cell? ⟨g, 6, none⟩ = some a6 ∧ w.cell? ⟨g, 7, none⟩ = some a7 ∧ w.cell? ⟨g, 8, none⟩ = some a8 :=
 ⟨(h 0 (by simp)).1, (h 1 (by simp)).1, (h 2 (by simp)).1, (h 3 (by simp)).1, (h 4 (by simp)).1, (h 5 (by simp)).1, (h 6 (by simp)).1, (h 7 (by simp)).1, (h 8 (by simp)).1⟩
theorem Blk.cf9 {w : World} {g : Nat} {a0 a1 a2 a3 a4 a5 a6 a7 a8 : Value} {l : List Value} (h : Blk w g (a0 :: a1 :: a2 :: a3 :: a4 :: a5 :: a6 :: a7 :: a8 :: l)) : w.cell? ⟨g, 0, none⟩ = some a0 ∧ w.frozen? ⟨g, 0, none⟩ = false ∧ w.cell? ⟨g, 1, none⟩ = some a1 ∧ w.frozen? ⟨g, 1, none⟩ = false ∧ w.cell? ⟨g, 2, none⟩ = some a2 ∧ w.frozen? ⟨g, 2, none⟩ = false ∧ w.cell? ⟨g, 3, none⟩ = some a3 ∧ w.frozen? ⟨g, 3, none⟩ = false ∧ w.cell? ⟨g, 4, none⟩ = some a4 ∧ w.frozen? ⟨g, 4, none⟩ = false ∧ w.cell? ⟨g, 5, none⟩ = some a5 ∧ w.frozen? ⟨g, 5, none⟩ = false ∧ w.cell? ⟨g, 6, none⟩ = some a6 ∧ w.frozen? ⟨g, 6, none⟩ = false ∧ w.cell? ⟨g, 7, none⟩ = some a7 ∧ w.frozen? ⟨g, 7, none⟩ = false ∧ w.cell? ⟨g, 8, none⟩ = some a8 ∧ w.frozen? ⟨g, 8, none⟩ = false :=
 ⟨(h 0 (by simp)).1, (h 0 (by simp)).2, (h 1 (by simp)).1, (h 1 (by simp)).2, (h 2 (by simp)).1, (h 2 (by simp)).2, (h 3 (by simp)).1, (h 3 (by simp)).2, (h 4 (by simp)).1, (h 4 (by simp)).2, (h 5 (by simp)).1, (h 5 (by simp)).2, (h 6 (by simp)).1, (h 6 (by simp)).2, (h 7 (by simp)).1, (h 7 (by simp)).2, (h 8 (by simp)).1, (h 8 (by simp)).2⟩
theorem Blk.cf10 {w : World} {g : Nat} {a0 a1 a2 a3 a4 a5 a6 a7 a8 a9 : Value} {l : List Value} (h : Blk w g (a0 :: a1 :: a2 :: a3 :: a4 :: a5 :: a6 :: a7 :: a8 :: a9 :: l)) : w.cell? ⟨g, 0, none⟩ = some a0 ∧ w.frozen? ⟨g, 0, none⟩ = false ∧ w.cell? ⟨g, 1, none⟩ = some a1 ∧ w.frozen? ⟨g, 1, none⟩ = false ∧ w.cell? ⟨g, 2, none⟩ = some a2 ∧ w.frozen? ⟨g, 2, none⟩ = false ∧ w.cell? ⟨g, 3, none⟩ = some a3 ∧ w.frozen? ⟨g, 3, none⟩ = false ∧ w.cell? ⟨g, 4, none⟩ = some a4 ∧ w.frozen? ⟨g, 4, none⟩ = false ∧ w.cell? ⟨g, 5, none⟩ = some a5 ∧ w.frozen? ⟨g, 5, none⟩ = false ∧ w.cell? ⟨g, 6, none⟩ = some a6 ∧ w.frozen? ⟨g, 6, none⟩ = false ∧ w.cell? ⟨g, 7, none⟩ = some a7 ∧ w.frozen? ⟨g, 7, none⟩ = false ∧ w.cell? ⟨g, 8, none⟩ = some a8 ∧ w.frozen? ⟨g, 8, none⟩ = false ∧ w.cell? ⟨g, 9, none⟩ = some a9 ∧ w.frozen? ⟨g, 9, none⟩ = false :=
 ⟨(h 0 (by simp)).1, (h 0 (by simp)).2, (h 1 (by simp)).1, (h 1 (by simp)).2, (h 2 (by simp)).1, (h 2 (by simp)).2, (h 3 (by simp)).1, (h 3 (by simp)).2, (h 4 (by simp)).1, (h 4 (by simp)).2, (h 5 (by simp)).1, (h 5 (by simp)).2, (h 6 (by simp)).1, (h 6 (by simp)).2, (h 7 (by simp)).1, (h 7 (by simp)).2, (h 8 (by simp)).1, (h 8 (by simp)).2, (h 9 (by simp)).1, (h 9 (by simp)).2⟩
/-- What new blocks bring with them. -/
theorem en1 {w W : World} {c : List Value} {t : TypeId} (h : w.alloc (.cells c.toArray t) = W) : Hid (Below w.heap.size w W) ∧ Hid (Blk W w.heap.size c) ∧ w.heap.size < W.heap.size := by
 subst h
 exact ⟨(Below.refl _ _).alloc (Nat.le_refl _) _, Blk.alloc w c t, by simp⟩
theorem en2 {w W : World} {c d : List Value} {t u : TypeId} (h : (w.alloc (.cells c.toArray t)).alloc (.cells d.toArray u) = W) :
 Hid (Below w.heap.size w W) ∧ Hid (Blk W w.heap.size c) ∧ w.heap.size < W.heap.size ∧ Hid (Blk W (w.heap.size + 1) d) ∧ w.heap.size + 1 < W.heap.size := by
 subst h
 exact ⟨((Below.refl _ _).alloc (Nat.le_refl _) _).alloc (by simp) _, (Blk.alloc w c t).allocOld (by simp) _, by simp <;> omega, Blk.allocAt d (by simp), by simp⟩
theorem en3 {w W : World} {c d e : List Value} {t u v : TypeId} (h : ((w.alloc (.cells c.toArray t)).alloc (.cells d.toArray u)).alloc (.cells e.toArray v) = W) :
 Hid (Below w.heap.size w W) ∧ Hid (Blk W w.heap.size c) ∧ w.heap.size < W.heap.size ∧ Hid (Blk W (w.heap.size + 1) d) ∧ w.heap.size + 1 < W.heap.size ∧ Hid (Blk W (w.heap.size + 1 + 1) e) ∧ w.heap.size + 1 + 1 < W.heap.size := by
 obtain ⟨h1, h2, h3, h4, h5⟩ := en2 (w := w) (c := c) (d := d) (t := t) (u := u) rfl
 subst h
 refine ⟨Below.alloc h1 (by simp <;> omega) _, Blk.allocOld h2 h3 _, by simp <;> omega, Blk.allocOld h4 h5 _, by simp <;> omega, Blk.allocAt e (by simp), by simp⟩

/-- 'vs' written over the cells from 'p' on. -/
def writeRow : List Value → Nat → List Value → List Value
 | L, _, [] => L
 | L, p, v :: vs => writeRow (L.set p v) (p + 1) vs
theorem writeRow_length : ∀ (vs L : List Value) (p : Nat), (writeRow L p vs).length = L.length
 | [], L, p => rfl
 | v :: vs, L, p => by rw [writeRow, writeRow_length vs]; simp
theorem writeRow_get : ∀ (vs L : List Value) (p m : Nat), p + vs.length ≤ L.length → (writeRow L p vs)[m]? = if p ≤ m ∧ m < p + vs.length then vs[m - p]? else L[m]?
 | [], L, p, m, h => by simp only [writeRow]; rw [if_neg (by rw [List.length_nil]; omega)]
 | v :: vs, L, p, m, h => by
  simp only [List.length_cons] at h
  rw [writeRow, writeRow_get vs _ (p + 1) m (by simp; omega)]
  by_cases h1 : p + 1 ≤ m ∧ m < p + 1 + vs.length
  · rw [if_pos h1, if_pos (by rw [List.length_cons]; omega), show m - p = (m - (p + 1)) + 1 by omega]
    simp
  · rw [if_neg h1]
    by_cases h2 : m = p
    · subst h2
      rw [if_pos (by simp), List.getElem?_set_self (by omega)]
      simp
    · rw [if_neg (by rw [List.length_cons]; omega), List.getElem?_set_ne (by omega)]

def writeCells : World → Nat → Nat → List Value → World
 | w, _, _, [] => w
 | w, g, p, v :: vs => writeCells (w.setCell ⟨g, p, none⟩ v) g (p + 1) vs
theorem own_write {base e size g n cap : Nat} : ∀ (vs : List Value) (w : World) (L : List Value) (p : Nat), w.ownsRow base e size (.slice (some ⟨g, 0, none⟩) n cap) n L → (writeCells w g p vs).ownsRow base e size (.slice (some ⟨g, 0, none⟩) n cap) n (writeRow L p vs)
 | [], w, L, p, h => h
 | v :: vs, w, L, p, h => own_write vs _ _ _ (h.stored p v).1
theorem below_write {B g : Nat} (hg : B ≤ g) : ∀ (vs : List Value) (w0 w : World) (p : Nat), Below B w0 w → Below B w0 (writeCells w g p vs)
 | [], w0, w, p, h => h
 | v :: vs, w0, w, p, h => below_write hg vs _ _ _ (h.setCell hg _)

/-- What is owned, row by row, is read. -/
theorem RdR.of_owns {α : Type} [Inhabited α] {cells : α → List Value} {k : Nat} {w : World} {base e g n cap : Nat} {xs : List α} {L : List Value} (h : w.ownsRow base e k (.slice (some ⟨g, 0, none⟩) n cap) n L) (hl : xs.length = n)
 (hL : ∀ i, i < n → ∀ j, j < k → L[i * k + j]? = (cells (xs.getD i default))[j]?) : RdR cells k w (some ⟨g, 0, none⟩) n xs :=
 ⟨hl, fun i hi => ⟨g, 0, rfl, fun j hj => by
  have hlt : i * k + j < n * k := by
   have := Nat.mul_le_mul_right k (show i + 1 ≤ n from hi)
   rw [Nat.succ_mul] at this
   omega
  rw [Nat.zero_add, h.cellAt _ hlt]
  exact hL i hi j hj⟩⟩
/-- One row more is written. -/
theorem rows_step {α : Type} [Inhabited α] {cells : α → List Value} {k n r : Nat} {xs : List α} {L : List Value} (hlen : ∀ q, (cells q).length = k) (hLl : L.length = n * k) (hr : r < n)
 (hL : ∀ i, i < r → ∀ j, j < k → L[i * k + j]? = (cells (xs.getD i default))[j]?) :
 ∀ i, i < r + 1 → ∀ j, j < k → (writeRow L (r * k) (cells (xs.getD r default)))[i * k + j]? = (cells (xs.getD i default))[j]? := by
 intro i hi j hj
 have hb : (r + 1) * k ≤ n * k := Nat.mul_le_mul_right k hr
 rw [Nat.succ_mul] at hb
 rw [writeRow_get _ _ _ _ (by rw [hlen, hLl]; exact hb), hlen]
 by_cases h : i < r
 · have : (i + 1) * k ≤ r * k := Nat.mul_le_mul_right k h
   rw [Nat.succ_mul] at this
   rw [if_neg (by omega)]
   exact hL i h j hj
 · obtain rfl : i = r := by omega
   rw [if_pos ⟨by omega, by omega⟩, Nat.add_sub_cancel_left]
theorem row_at {k n r j : Nat} {L : List Value} (hLl : L.length = n * k) (hr : r < n) (hj : j < k) : ∃ v, L[r * k + j]? = some v ∧ r * k + j < n * k := by
 have hb : (r + 1) * k ≤ n * k := Nat.mul_le_mul_right k hr
 rw [Nat.succ_mul] at hb
 exact ⟨_, List.getElem?_eq_getElem (by omega), by omega⟩
end Go.Proofs.YtcblpoeeembniabGreatDoor

/- Worlds that only grew since W; small laws on blocks. -/
namespace Go.Proofs.YtcblpoeeembniabGreatDoor
open Go.RowKit
set_option linter.unusedVariables false

theorem bw_call {W W' w1 : World} (h : Below W.heap.size W W') (hb : Below W'.heap.size W' w1) : Below W.heap.size W w1 := h.trans (hb.mono h.size)
theorem bw_alloc {W w : World} (h : Below W.heap.size W w) (o : Obj) : Below W.heap.size W (w.alloc o) := h.alloc h.size o
theorem bw_set {W w : World} (h : Below W.heap.size W w) {p : Addr} (hp : W.heap.size ≤ p.block) (u : Value) : Below W.heap.size W (w.setCell p u) := h.setCell hp u
theorem ret_boolF {a b : Bool} (h : a = b) : Ending.returned (.bool a) = .returned (.bool b) := by rw [h]
theorem Blk.fill3 {w : World} {g : Nat} {a b c x y z : Value} (h : Blk w g [a, b, c]) : Blk (((w.setCell ⟨g, 0, none⟩ x).setCell ⟨g, 1, none⟩ y).setCell ⟨g, 2, none⟩ z) g [x, y, z] :=
 ((h.set (j := 0) (v := x) (by simp)).set (j := 1) (v := y) (by simp)).set (j := 2) (v := z) (by simp)
theorem Blk.gb {w w' : World} {g g' : Nat} {cs : List Value} (h : Blk w g cs) (hg : w.grownBy w' (some g')) (hlt : g < w.heap.size) (hne : g ≠ g') : Blk w' g cs :=
 fun i hi => ⟨(World.cell?_of_block (w := w) (hg.block g hlt (by intro e; cases e; exact hne rfl))).trans (h i hi).1, (World.frozen?_of_block (w := w) (hg.block g hlt (by intro e; cases e; exact hne rfl))).trans (h i hi).2⟩
end Go.Proofs.YtcblpoeeembniabGreatDoor

/- impl.within, impl.Volume, spec.l1In, spec.Volume, and the law of Volume. -/
namespace Go.Proofs.YtcblpoeeembniabGreatDoor
open Go.RowKit

def inB (n a b : Int) : Bool := decide (a ≤ n) && decide (n ≤ b)
theorem inB_iff {n a b : Int} : inB n a b = true ↔ a ≤ n ∧ n ≤ b := by simp [inB]
theorem inB_no {n a b : Int} : inB n a b = false ↔ n < a ∨ b < n := by
 simp [inB]; omega

theorem within_any (n a b : Int) (w : World) :
 Calls Tryz.prog 73 #[.int .i64 n, .int .i64 a, .int .i64 b] w fun e w' => e = .returned (.bool (inB n a b)) ∧ w' = w := by
 unfold inB
 by_cases h1 : a ≤ n <;> by_cases h2 : n ≤ b <;> (go_enter Tryz.func73, Tryz.ntmps73; go_wp2; go_ret; simp [h1, h2])
theorem l1In_any (n a b : Int) (w : World) :
 Calls Tryz.prog 77 #[.int .i64 n, .int .i64 a, .int .i64 b] w fun e w' => e = .returned (.bool (inB n a b)) ∧ w' = w := by
 unfold inB
 by_cases h1 : a ≤ n <;> by_cases h2 : n ≤ b <;> (go_enter Tryz.func77, Tryz.ntmps77; go_wp2; go_ret; simp [h1, h2])

def vol (x y z : Int) : Int := if inB x 0 2000 && inB y 0 2000 && inB z 0 2000 then x * y * z else 0
theorem mul2000 {x y : Int} (hx : 0 ≤ x ∧ x ≤ 2000) (hy : 0 ≤ y ∧ y ≤ 2000) : 0 ≤ x * y ∧ x * y ≤ 4000000 :=
 ⟨Int.mul_nonneg hx.1 hy.1, Int.le_trans (Int.mul_le_mul hx.2 hy.2 hy.1 (by omega)) (by omega)⟩
theorem mul4m {x y : Int} (hx : 0 ≤ x ∧ x ≤ 4000000) (hy : 0 ≤ y ∧ y ≤ 2000) : 0 ≤ x * y ∧ x * y ≤ 8000000000 :=
 ⟨Int.mul_nonneg hx.1 hy.1, Int.le_trans (Int.mul_le_mul hx.2 hy.2 hy.1 (by omega)) (by omega)⟩

theorem vol_in {x y z : Int} (h1 : inB x 0 2000 = true) (h2 : inB y 0 2000 = true) (h3 : inB z 0 2000 = true) : vol x y z = x * y * z := by simp [vol, h1, h2, h3]
theorem vol_out {x y z : Int} (h : inB x 0 2000 = false ∨ inB y 0 2000 = false ∨ inB z 0 2000 = false) : vol x y z = 0 := by
 rcases h with h | h | h <;> simp [vol, h]
theorem vol_bd (x y z : Int) : 0 ≤ vol x y z ∧ vol x y z ≤ 8000000000 := by
 cases h1 : inB x 0 2000
 · rw [vol_out (.inl h1)]; omega
 cases h2 : inB y 0 2000
 · rw [vol_out (.inr (.inl h2))]; omega
 cases h3 : inB z 0 2000
 · rw [vol_out (.inr (.inr h3))]; omega
 rw [vol_in h1 h2 h3]
 exact mul4m (mul2000 (inB_iff.1 h1) (inB_iff.1 h2)) (inB_iff.1 h3)

theorem volume_any (x y z : Int) (w : World) :
 Calls Tryz.prog 76 #[.int .i64 x, .int .i64 y, .int .i64 z] w fun e w' => e = .returned (.int .i64 (vol x y z)) ∧ w' = w := by
 cases h1 : inB x 0 2000
 · rw [vol_out (.inl h1)]
   go_enter Tryz.func76, Tryz.ntmps76
   go_wp2_with ((go_at_call 73; refine (within_any _ _ _ _).mono ?_; rintro e w' ⟨rfl, rfl⟩))
   go_ret
   exact ⟨rfl, rfl⟩
 cases h2 : inB y 0 2000
 · rw [vol_out (.inr (.inl h2))]
   go_enter Tryz.func76, Tryz.ntmps76
   go_wp2_with ((go_at_call 73; refine (within_any _ _ _ _).mono ?_; rintro e w' ⟨rfl, rfl⟩))
   go_ret
   exact ⟨rfl, rfl⟩
 cases h3 : inB z 0 2000
 · rw [vol_out (.inr (.inr h3))]
   go_enter Tryz.func76, Tryz.ntmps76
   go_wp2_with ((go_at_call 73; refine (within_any _ _ _ _).mono ?_; rintro e w' ⟨rfl, rfl⟩))
   go_ret
   exact ⟨rfl, rfl⟩
 have b1 := mul2000 (inB_iff.1 h1) (inB_iff.1 h2)
 have b2 := mul4m b1 (inB_iff.1 h3)
 rw [vol_in h1 h2 h3]
 obtain ⟨b3, b4⟩ := b1
 obtain ⟨b5, b6⟩ := b2
 go_enter Tryz.func76, Tryz.ntmps76
 go_wp2_with ((go_at_call 73; refine (within_any _ _ _ _).mono ?_; rintro e w' ⟨rfl, rfl⟩))
 go_ret
 exact ⟨rfl, rfl⟩
theorem specVolume_any (x y z : Int) (w : World) :
 Calls Tryz.prog 71 #[.int .i64 x, .int .i64 y, .int .i64 z] w fun e w' => e = .returned (.int .i64 (vol x y z)) ∧ w' = w := by
 cases h1 : inB x 0 2000
 · rw [vol_out (.inl h1)]
   go_enter Tryz.func71, Tryz.ntmps71
   go_wp2_with ((go_at_call 77; refine (l1In_any _ _ _ _).mono ?_; rintro e w' ⟨rfl, rfl⟩))
   go_ret
   exact ⟨rfl, rfl⟩
 cases h2 : inB y 0 2000
 · rw [vol_out (.inr (.inl h2))]
   go_enter Tryz.func71, Tryz.ntmps71
   go_wp2_with ((go_at_call 77; refine (l1In_any _ _ _ _).mono ?_; rintro e w' ⟨rfl, rfl⟩))
   go_ret
   exact ⟨rfl, rfl⟩
 cases h3 : inB z 0 2000
 · rw [vol_out (.inr (.inr h3))]
   go_enter Tryz.func71, Tryz.ntmps71
   go_wp2_with ((go_at_call 77; refine (l1In_any _ _ _ _).mono ?_; rintro e w' ⟨rfl, rfl⟩))
   go_ret
   exact ⟨rfl, rfl⟩
 have b1 := mul2000 (inB_iff.1 h1) (inB_iff.1 h2)
 have b2 := mul4m b1 (inB_iff.1 h3)
 rw [vol_in h1 h2 h3]
 obtain ⟨b3, b4⟩ := b1
 obtain ⟨b5, b6⟩ := b2
 go_enter Tryz.func71, Tryz.ntmps71
 go_wp2_with ((go_at_call 77; refine (l1In_any _ _ _ _).mono ?_; rintro e w' ⟨rfl, rfl⟩))
 go_ret
 exact ⟨rfl, rfl⟩
end Go.Proofs.YtcblpoeeembniabGreatDoor

/- ItemOk, TypeOk, PalletOk of the program and of the model: each answers as the bounds say. -/
namespace Go.Proofs.YtcblpoeeembniabGreatDoor
open Go.RowKit

def sidesB (a b c : Int) : Bool := inB a 1 2000 && inB b 1 2000 && inB c 1 2000
def itemB (id x y z g c n : Int) : Bool := inB id 0 999 && sidesB x y z && inB g 1 100000 && inB c 0 3 && inB n 1 6
def typeB (id x y z t g c : Int) : Bool := inB id 0 999 && sidesB x y z && inB t 0 100000 && inB g 1 100000 && inB c 0 100000
def palletB (x z y g : Int) : Bool := sidesB x y z && inB g 1 100000

theorem sidesOk_any (a b c : Int) (w : World) :
 Calls Tryz.prog 128 #[.int .i64 a, .int .i64 b, .int .i64 c] w fun e w' => e = .returned (.bool (sidesB a b c)) ∧ w' = w := by
 unfold sidesB
 cases h1 : inB a 1 2000 <;> cases h2 : inB b 1 2000 <;> cases h3 : inB c 1 2000 <;>
  (go_enter Tryz.func128, Tryz.ntmps128
   go_wp2_with ((go_at_call 73; refine (within_any _ _ _ _).mono ?_; rintro e w' ⟨rfl, rfl⟩))
   go_ret
   exact ⟨rfl, rfl⟩)
theorem itemOk_any (id x y z g c n : Int) (w : World) :
 Calls Tryz.prog 130 #[.agg #[.int .i64 id, .int .i64 x, .int .i64 y, .int .i64 z, .int .i64 g, .int .i64 c, .int .i64 n]] w fun e w' => e = .returned (.bool (itemB id x y z g c n)) ∧ Below w.heap.size w w' := by
 unfold itemB
 cases h1 : inB id 0 999
 case' true =>
  cases h2 : sidesB x y z
  case' true =>
   cases h3 : inB g 1 100000
   case' true =>
    cases h4 : inB c 0 3
    case' true =>
     cases h5 : inB n 1 6
 all_goals
  go_enter Tryz.func130, Tryz.ntmps130
  go_wp2_with (first | (go_at_call 73; refine (within_any _ _ _ _).mono ?_; rintro e w' ⟨rfl, rfl⟩) | (go_at_call 128; refine (sidesOk_any _ _ _ _).mono ?_; rintro e w' ⟨rfl, rfl⟩))
  go_ret
  exact ⟨rfl, (Below.refl _ _).alloc (Nat.le_refl _) _⟩
theorem typeOk_any (id x y z g c n : Int) (w : World) :
 Calls Tryz.prog 129 #[.agg #[.int .i64 id, .int .i64 x, .int .i64 y, .int .i64 z, .int .i64 g, .int .i64 c, .int .i64 n]] w fun e w' => e = .returned (.bool (typeB id x y z g c n)) ∧ Below w.heap.size w w' := by
 unfold typeB
 cases h1 : inB id 0 999
 case' true =>
  cases h2 : sidesB x y z
  case' true =>
   cases h3 : inB g 0 100000
   case' true =>
    cases h4 : inB c 1 100000
    case' true =>
     cases h5 : inB n 0 100000
 all_goals
  go_enter Tryz.func129, Tryz.ntmps129
  go_wp2_with (first | (go_at_call 73; refine (within_any _ _ _ _).mono ?_; rintro e w' ⟨rfl, rfl⟩) | (go_at_call 128; refine (sidesOk_any _ _ _ _).mono ?_; rintro e w' ⟨rfl, rfl⟩))
  go_ret
  exact ⟨rfl, (Below.refl _ _).alloc (Nat.le_refl _) _⟩
theorem palletOk_any (x z y g : Int) (w : World) :
 Calls Tryz.prog 106 #[.agg #[.int .i64 x, .int .i64 z, .int .i64 y, .int .i64 g]] w fun e w' => e = .returned (.bool (palletB x z y g)) ∧ Below w.heap.size w w' := by
 unfold palletB
 cases h2 : sidesB x y z <;> cases h3 : inB g 1 100000
 all_goals
  go_enter Tryz.func106, Tryz.ntmps106
  go_wp2_with (first | (go_at_call 73; refine (within_any _ _ _ _).mono ?_; rintro e w' ⟨rfl, rfl⟩) | (go_at_call 128; refine (sidesOk_any _ _ _ _).mono ?_; rintro e w' ⟨rfl, rfl⟩))
  go_ret
  exact ⟨rfl, (Below.refl _ _).alloc (Nat.le_refl _) _⟩

/-! The model's. -/
theorem l2Side_any (n : Int) (w : World) :
 Calls Tryz.prog 100 #[.int .i64 n] w fun e w' => e = .returned (.bool (inB n 1 2000)) ∧ w' = w := by
 go_enter Tryz.func100, Tryz.ntmps100
 go_wp2_with ((go_at_call 77; refine (l1In_any _ _ _ _).mono ?_; rintro e w' ⟨rfl, rfl⟩))
 go_ret
 exact ⟨rfl, rfl⟩
theorem l2Id_any (n : Int) (w : World) :
 Calls Tryz.prog 79 #[.int .i64 n] w fun e w' => e = .returned (.bool (inB n 0 999)) ∧ w' = w := by
 go_enter Tryz.func79, Tryz.ntmps79
 go_wp2_with ((go_at_call 77; refine (l1In_any _ _ _ _).mono ?_; rintro e w' ⟨rfl, rfl⟩))
 go_ret
 exact ⟨rfl, rfl⟩
theorem specItemOk_any (id x y z g c n : Int) (w : World) :
 Calls Tryz.prog 81 #[.agg #[.int .i64 id, .int .i64 x, .int .i64 y, .int .i64 z, .int .i64 g, .int .i64 c, .int .i64 n]] w fun e w' => e = .returned (.bool (itemB id x y z g c n)) ∧ Below w.heap.size w w' := by
 unfold itemB sidesB
 cases h1 : inB id 0 999
 case' true =>
  cases h2 : inB x 1 2000
  case' true =>
   cases h3 : inB y 1 2000
   case' true =>
    cases h4 : inB z 1 2000
    case' true =>
     cases h5 : inB g 1 100000
     case' true =>
      cases h6 : inB c 0 3
      case' true =>
       cases h7 : inB n 1 6
 all_goals
  go_enter Tryz.func81, Tryz.ntmps81
  go_wp2_with (first | (go_at_call 77; refine (l1In_any _ _ _ _).mono ?_; rintro e w' ⟨rfl, rfl⟩) | (go_at_call 79; refine (l2Id_any _ _).mono ?_; rintro e w' ⟨rfl, rfl⟩) | (go_at_call 100; refine (l2Side_any _ _).mono ?_; rintro e w' ⟨rfl, rfl⟩))
  go_ret
  exact ⟨rfl, (Below.refl _ _).alloc (Nat.le_refl _) _⟩
theorem specTypeOk_any (id x y z g c n : Int) (w : World) :
 Calls Tryz.prog 80 #[.agg #[.int .i64 id, .int .i64 x, .int .i64 y, .int .i64 z, .int .i64 g, .int .i64 c, .int .i64 n]] w fun e w' => e = .returned (.bool (typeB id x y z g c n)) ∧ Below w.heap.size w w' := by
 unfold typeB sidesB
 cases h1 : inB id 0 999
 case' true =>
  cases h2 : inB x 1 2000
  case' true =>
   cases h3 : inB y 1 2000
   case' true =>
    cases h4 : inB z 1 2000
    case' true =>
     cases h5 : inB g 0 100000
     case' true =>
      cases h6 : inB c 1 100000
      case' true =>
       cases h7 : inB n 0 100000
 all_goals
  go_enter Tryz.func80, Tryz.ntmps80
  go_wp2_with (first | (go_at_call 77; refine (l1In_any _ _ _ _).mono ?_; rintro e w' ⟨rfl, rfl⟩) | (go_at_call 79; refine (l2Id_any _ _).mono ?_; rintro e w' ⟨rfl, rfl⟩) | (go_at_call 100; refine (l2Side_any _ _).mono ?_; rintro e w' ⟨rfl, rfl⟩))
  go_ret
  exact ⟨rfl, (Below.refl _ _).alloc (Nat.le_refl _) _⟩
theorem specPalletOk_any (x z y g : Int) (w : World) :
 Calls Tryz.prog 78 #[.agg #[.int .i64 x, .int .i64 z, .int .i64 y, .int .i64 g]] w fun e w' => e = .returned (.bool (palletB x z y g)) ∧ Below w.heap.size w w' := by
 unfold palletB sidesB
 cases h1 : inB x 1 2000
 case' true =>
  cases h2 : inB z 1 2000
  case' true =>
   cases h3 : inB y 1 2000
   case' true =>
    cases h4 : inB g 1 100000
 all_goals
  go_enter Tryz.func78, Tryz.ntmps78
  go_wp2_with (first | (go_at_call 77; refine (l1In_any _ _ _ _).mono ?_; rintro e w' ⟨rfl, rfl⟩) | (go_at_call 100; refine (l2Side_any _ _).mono ?_; rintro e w' ⟨rfl, rfl⟩))
  go_ret
  exact ⟨by simp, (Below.refl _ _).alloc (Nat.le_refl _) _⟩
end Go.Proofs.YtcblpoeeembniabGreatDoor

/- The laws' own copies of one struct of numbers, and their comparisons of equal ones. -/
namespace Go.Proofs.YtcblpoeeembniabGreatDoor
open Go.RowKit
set_option linter.unusedVariables false

set_option maxHeartbeats 400000 in
theorem toItem_any (a0 a1 a2 a3 a4 a5 a6 : Int) (w : World) :
 Calls Tryz.prog 56 #[.agg #[.int .i64 a0, .int .i64 a1, .int .i64 a2, .int .i64 a3, .int .i64 a4, .int .i64 a5, .int .i64 a6]] w fun e w' => e = .returned (.agg #[.int .i64 a0, .int .i64 a1, .int .i64 a2, .int .i64 a3, .int .i64 a4, .int .i64 a5, .int .i64 a6]) ∧ Below w.heap.size w w' := by
 go_enter Tryz.func56, Tryz.ntmps56
 go_wp2
 exact bodyPost_ret (v := .agg #[.int .i64 a0, .int .i64 a1, .int .i64 a2, .int .i64 a3, .int .i64 a4, .int .i64 a5, .int .i64 a6]) (by simp [results, Tryz.results56, go_sem]) rfl ⟨rfl, (((Below.refl _ _).alloc (Nat.le_refl _) _).alloc (by simp) _).alloc (by simp; omega) _⟩
set_option maxHeartbeats 400000 in
theorem eqItem_same (a0 a1 a2 a3 a4 a5 a6 : Int) (w : World) :
 Calls Tryz.prog 62 #[.agg #[.int .i64 a0, .int .i64 a1, .int .i64 a2, .int .i64 a3, .int .i64 a4, .int .i64 a5, .int .i64 a6], .agg #[.int .i64 a0, .int .i64 a1, .int .i64 a2, .int .i64 a3, .int .i64 a4, .int .i64 a5, .int .i64 a6]] w fun e w' => e = .returned (.bool true) ∧ Below w.heap.size w w' := by
 go_enter Tryz.func62, Tryz.ntmps62
 go_wp2
 go_ret
 exact ⟨rfl, ((Below.refl _ _).alloc (Nat.le_refl _) _).alloc (by simp) _⟩
set_option maxHeartbeats 400000 in
theorem toType_any (a0 a1 a2 a3 a4 a5 a6 : Int) (w : World) :
 Calls Tryz.prog 55 #[.agg #[.int .i64 a0, .int .i64 a1, .int .i64 a2, .int .i64 a3, .int .i64 a4, .int .i64 a5, .int .i64 a6]] w fun e w' => e = .returned (.agg #[.int .i64 a0, .int .i64 a1, .int .i64 a2, .int .i64 a3, .int .i64 a4, .int .i64 a5, .int .i64 a6]) ∧ Below w.heap.size w w' := by
 go_enter Tryz.func55, Tryz.ntmps55
 go_wp2
 exact bodyPost_ret (v := .agg #[.int .i64 a0, .int .i64 a1, .int .i64 a2, .int .i64 a3, .int .i64 a4, .int .i64 a5, .int .i64 a6]) (by simp [results, Tryz.results55, go_sem]) rfl ⟨rfl, (((Below.refl _ _).alloc (Nat.le_refl _) _).alloc (by simp) _).alloc (by simp; omega) _⟩
set_option maxHeartbeats 400000 in
theorem eqType_same (a0 a1 a2 a3 a4 a5 a6 : Int) (w : World) :
 Calls Tryz.prog 61 #[.agg #[.int .i64 a0, .int .i64 a1, .int .i64 a2, .int .i64 a3, .int .i64 a4, .int .i64 a5, .int .i64 a6], .agg #[.int .i64 a0, .int .i64 a1, .int .i64 a2, .int .i64 a3, .int .i64 a4, .int .i64 a5, .int .i64 a6]] w fun e w' => e = .returned (.bool true) ∧ Below w.heap.size w w' := by
 go_enter Tryz.func61, Tryz.ntmps61
 go_wp2
 go_ret
 exact ⟨rfl, ((Below.refl _ _).alloc (Nat.le_refl _) _).alloc (by simp) _⟩
set_option maxHeartbeats 400000 in
theorem toPallet_any (a0 a1 a2 a3 : Int) (w : World) :
 Calls Tryz.prog 27 #[.agg #[.int .i64 a0, .int .i64 a1, .int .i64 a2, .int .i64 a3]] w fun e w' => e = .returned (.agg #[.int .i64 a0, .int .i64 a1, .int .i64 a2, .int .i64 a3]) ∧ Below w.heap.size w w' := by
 go_enter Tryz.func27, Tryz.ntmps27
 go_wp2
 exact bodyPost_ret (v := .agg #[.int .i64 a0, .int .i64 a1, .int .i64 a2, .int .i64 a3]) (by simp [results, Tryz.results27, go_sem]) rfl ⟨rfl, (((Below.refl _ _).alloc (Nat.le_refl _) _).alloc (by simp) _).alloc (by simp; omega) _⟩
set_option maxHeartbeats 400000 in
theorem eqPallet_same (a0 a1 a2 a3 : Int) (w : World) :
 Calls Tryz.prog 35 #[.agg #[.int .i64 a0, .int .i64 a1, .int .i64 a2, .int .i64 a3], .agg #[.int .i64 a0, .int .i64 a1, .int .i64 a2, .int .i64 a3]] w fun e w' => e = .returned (.bool true) ∧ Below w.heap.size w w' := by
 go_enter Tryz.func35, Tryz.ntmps35
 go_wp2
 go_ret
 exact ⟨rfl, ((Below.refl _ _).alloc (Nat.le_refl _) _).alloc (by simp) _⟩
set_option maxHeartbeats 400000 in
theorem toPair_any (a0 a1 : Int) (w : World) :
 Calls Tryz.prog 54 #[.agg #[.int .i64 a0, .int .i64 a1]] w fun e w' => e = .returned (.agg #[.int .i64 a0, .int .i64 a1]) ∧ Below w.heap.size w w' := by
 go_enter Tryz.func54, Tryz.ntmps54
 go_wp2
 exact bodyPost_ret (v := .agg #[.int .i64 a0, .int .i64 a1]) (by simp [results, Tryz.results54, go_sem]) rfl ⟨rfl, (((Below.refl _ _).alloc (Nat.le_refl _) _).alloc (by simp) _).alloc (by simp; omega) _⟩
set_option maxHeartbeats 400000 in
theorem eqPair_same (a0 a1 : Int) (w : World) :
 Calls Tryz.prog 60 #[.agg #[.int .i64 a0, .int .i64 a1], .agg #[.int .i64 a0, .int .i64 a1]] w fun e w' => e = .returned (.bool true) ∧ Below w.heap.size w w' := by
 go_enter Tryz.func60, Tryz.ntmps60
 go_wp2
 go_ret
 exact ⟨rfl, ((Below.refl _ _).alloc (Nat.le_refl _) _).alloc (by simp) _⟩
set_option maxHeartbeats 400000 in
theorem eqBox_same (a0 a1 a2 a3 : Int) (w : World) :
 Calls Tryz.prog 11 #[.agg #[.int .i64 a0, .int .i64 a1, .int .i64 a2, .int .i64 a3], .agg #[.int .i64 a0, .int .i64 a1, .int .i64 a2, .int .i64 a3]] w fun e w' => e = .returned (.bool true) ∧ Below w.heap.size w w' := by
 go_enter Tryz.func11, Tryz.ntmps11
 go_wp2
 go_ret
 exact ⟨rfl, ((Below.refl _ _).alloc (Nat.le_refl _) _).alloc (by simp) _⟩
end Go.Proofs.YtcblpoeeembniabGreatDoor

/- The laws' own copies, sizes and comparisons of slices of structs of numbers. -/
namespace Go.Proofs.YtcblpoeeembniabGreatDoor
open Go.RowKit
set_option linter.unusedVariables false

theorem Tryz.infoItem : (Tryz.prog.info? 89).map (fun i => (i.zero, i.size, i.bytes)) = some (some (.agg #[.int .i64 0, .int .i64 0, .int .i64 0, .int .i64 0, .int .i64 0, .int .i64 0, .int .i64 0]), 7, 56) := by kernel_rfl
set_option maxHeartbeats 1000000 in
theorem toItemS_any (a : Option Addr) (n c : Nat) (xs : List ItemV) (w : World) (hr : RdR ItemV.cells 7 w a n xs) (hn : n ≤ 1048576) :
 Calls Tryz.prog 30 #[.slice a n c] w fun e w' => ∃ g, e = .returned (.slice (some ⟨g, 0, none⟩) n n) ∧
  RdR ItemV.cells 7 w' (some ⟨g, 0, none⟩) n xs ∧ Below w.heap.size w w' ∧ w.heap.size ≤ g ∧ g < w'.heap.size := by
 obtain ⟨i0, hi, hz0, hz1, hz2⟩ := info_parts Tryz.infoItem
 have hbb : i0.bytes * n ≤ 281474976710656 := by rw [hz2]; omega
 go_enter Tryz.func30, Tryz.ntmps30
 go_wp2_with (first
  | (at_make; refine wpList_make_full _ rfl _ _ 39 rfl w.heap.size 89 i0 (.agg #[.int .i64 0, .int .i64 0, .int .i64 0, .int .i64 0, .int .i64 0, .int .i64 0, .int .i64 0]) 7 Tryz.underlying39 hi hz0 hz1 .i64 .i64 n n n rfl rfl rfl rfl hbb (by unfold maxLen; omega) (Nat.le_refl _) ?_; intro w1 hown hgrow)
  | go_in)
 have hb1 : Below w.heap.size w w1 := (Below.refl _ _).grown hgrow (Nat.le_refl _) (by simp)
 have hs1 : w.heap.size < w1.heap.size := (hown.lt _ rfl).2
 clear hgrow
 go_loopw [4] (fun i wr => ∃ (k : Nat) (L : List Value), k ≤ n ∧ i = .int .i64 k ∧ wr.ownsRow w.heap.size 89 7 (.slice (some ⟨w.heap.size, 0, none⟩) n n) n L ∧
  (∀ i, i < k → ∀ j, j < 7 → L[i * 7 + j]? = (ItemV.cells (xs.getD i default))[j]?) ∧ Below w.heap.size w wr) (fun i _ => n - (intOf i).toNat)
 case atStart => exact ⟨0, _, Nat.zero_le _, rfl, hown, fun i hi => absurd hi (Nat.not_lt_zero _), hb1⟩
 case round =>
  obtain ⟨k, L, hk, rfl, hownL, hL, hbel⟩ := hrel
  by_cases hlt : k < n
  · obtain ⟨b, off, rfl, hc⟩ := hr.2 k hlt
    have HL := hide (rows_step (cells := ItemV.cells) (xs := xs) ItemV.len hownL.1 hlt hL)
    generalize xs.getD k default = q at hc HL
    have d0 : wr.cell? ⟨b, off + k * 7, none⟩ = some (.int .i64 q.id) := (hbel.cell (World.block_lt_of_cell? w _ (hc 0 (by omega)))).trans (hc 0 (by omega))
    have d1 : wr.cell? ⟨b, off + k * 7 + 1, none⟩ = some (.int .i64 q.wd) := (hbel.cell (World.block_lt_of_cell? w _ (hc 1 (by omega)))).trans (hc 1 (by omega))
    have d2 : wr.cell? ⟨b, off + k * 7 + 2, none⟩ = some (.int .i64 q.ht) := (hbel.cell (World.block_lt_of_cell? w _ (hc 2 (by omega)))).trans (hc 2 (by omega))
    have d3 : wr.cell? ⟨b, off + k * 7 + 3, none⟩ = some (.int .i64 q.dp) := (hbel.cell (World.block_lt_of_cell? w _ (hc 3 (by omega)))).trans (hc 3 (by omega))
    have d4 : wr.cell? ⟨b, off + k * 7 + 4, none⟩ = some (.int .i64 q.gram) := (hbel.cell (World.block_lt_of_cell? w _ (hc 4 (by omega)))).trans (hc 4 (by omega))
    have d5 : wr.cell? ⟨b, off + k * 7 + 5, none⟩ = some (.int .i64 q.cls) := (hbel.cell (World.block_lt_of_cell? w _ (hc 5 (by omega)))).trans (hc 5 (by omega))
    have d6 : wr.cell? ⟨b, off + k * 7 + 6, none⟩ = some (.int .i64 q.cnt) := (hbel.cell (World.block_lt_of_cell? w _ (hc 6 (by omega)))).trans (hc 6 (by omega))
    have HO := hide hownL
    have HB := hide hbel
    clear hc hr hown hbel hownL hL hb1
    go_wp2_with fail
    refine (toItem_any _ _ _ _ _ _ _ _).mono ?_
    rintro e w2 ⟨rfl, hb2⟩
    have hown2 := own_later HO.out hb2
    obtain ⟨u0, e0, t0⟩ := row_at (j := 0) hown2.1 hlt (by omega)
    have f0 : w2.cell? ⟨w.heap.size, k * 7, none⟩ = some u0 := (hown2.cellAt _ t0).trans e0
    have z0 : w2.frozen? ⟨w.heap.size, k * 7, none⟩ = false := hown2.frozenAt (k * 7)
    obtain ⟨u1, e1, t1⟩ := row_at (j := 1) hown2.1 hlt (by omega)
    have f1 : w2.cell? ⟨w.heap.size, k * 7 + 1, none⟩ = some u1 := (hown2.cellAt _ t1).trans e1
    have z1 : w2.frozen? ⟨w.heap.size, k * 7 + 1, none⟩ = false := hown2.frozenAt (k * 7 + 1)
    obtain ⟨u2, e2, t2⟩ := row_at (j := 2) hown2.1 hlt (by omega)
    have f2 : w2.cell? ⟨w.heap.size, k * 7 + 2, none⟩ = some u2 := (hown2.cellAt _ t2).trans e2
    have z2 : w2.frozen? ⟨w.heap.size, k * 7 + 2, none⟩ = false := hown2.frozenAt (k * 7 + 2)
    obtain ⟨u3, e3, t3⟩ := row_at (j := 3) hown2.1 hlt (by omega)
    have f3 : w2.cell? ⟨w.heap.size, k * 7 + 3, none⟩ = some u3 := (hown2.cellAt _ t3).trans e3
    have z3 : w2.frozen? ⟨w.heap.size, k * 7 + 3, none⟩ = false := hown2.frozenAt (k * 7 + 3)
    obtain ⟨u4, e4, t4⟩ := row_at (j := 4) hown2.1 hlt (by omega)
    have f4 : w2.cell? ⟨w.heap.size, k * 7 + 4, none⟩ = some u4 := (hown2.cellAt _ t4).trans e4
    have z4 : w2.frozen? ⟨w.heap.size, k * 7 + 4, none⟩ = false := hown2.frozenAt (k * 7 + 4)
    obtain ⟨u5, e5, t5⟩ := row_at (j := 5) hown2.1 hlt (by omega)
    have f5 : w2.cell? ⟨w.heap.size, k * 7 + 5, none⟩ = some u5 := (hown2.cellAt _ t5).trans e5
    have z5 : w2.frozen? ⟨w.heap.size, k * 7 + 5, none⟩ = false := hown2.frozenAt (k * 7 + 5)
    obtain ⟨u6, e6, t6⟩ := row_at (j := 6) hown2.1 hlt (by omega)
    have f6 : w2.cell? ⟨w.heap.size, k * 7 + 6, none⟩ = some u6 := (hown2.cellAt _ t6).trans e6
    have z6 : w2.frozen? ⟨w.heap.size, k * 7 + 6, none⟩ = false := hown2.frozenAt (k * 7 + 6)
    have HO2 := hide (own_write (ItemV.cells q) _ _ (k * 7) hown2)
    have HB2 := hide (below_write (Nat.le_refl _) (ItemV.cells q) _ _ (k * 7) (HB.out.trans (hb2.mono HB.out.size)))
    clear hown2 HO HB hb2 e0 t0 e1 t1 e2 t2 e3 t3 e4 t4 e5 t5 e6 t6
    go_wp2
    go_roundw
    case rel => exact ⟨k + 1, _, by omega, by go_num, unhide HO2, unhide HL, unhide HB2⟩
    case measure => simp [intOf]; omega
  · obtain rfl : k = n := by omega
    have HO := hide hownL
    have HL := hide hL
    have HB := hide hbel
    clear hown hb1 hownL hL hbel
    go_wp2
    go_ret
    exact ⟨_, rfl, RdR.of_owns HO.out hr.1 HL.out, unhide HB, Nat.le_refl _, (HO.out.lt _ rfl).2⟩
theorem Tryz.infoType : (Tryz.prog.info? 54).map (fun i => (i.zero, i.size, i.bytes)) = some (some (.agg #[.int .i64 0, .int .i64 0, .int .i64 0, .int .i64 0, .int .i64 0, .int .i64 0, .int .i64 0]), 7, 56) := by kernel_rfl
set_option maxHeartbeats 1000000 in
theorem toTypeS_any (a : Option Addr) (n c : Nat) (xs : List TypeV) (w : World) (hr : RdR TypeV.cells 7 w a n xs) (hn : n ≤ 1048576) :
 Calls Tryz.prog 29 #[.slice a n c] w fun e w' => ∃ g, e = .returned (.slice (some ⟨g, 0, none⟩) n n) ∧
  RdR TypeV.cells 7 w' (some ⟨g, 0, none⟩) n xs ∧ Below w.heap.size w w' ∧ w.heap.size ≤ g ∧ g < w'.heap.size := by
 obtain ⟨i0, hi, hz0, hz1, hz2⟩ := info_parts Tryz.infoType
 have hbb : i0.bytes * n ≤ 281474976710656 := by rw [hz2]; omega
 go_enter Tryz.func29, Tryz.ntmps29
 go_wp2_with (first
  | (at_make; refine wpList_make_full _ rfl _ _ 38 rfl w.heap.size 54 i0 (.agg #[.int .i64 0, .int .i64 0, .int .i64 0, .int .i64 0, .int .i64 0, .int .i64 0, .int .i64 0]) 7 Tryz.underlying38 hi hz0 hz1 .i64 .i64 n n n rfl rfl rfl rfl hbb (by unfold maxLen; omega) (Nat.le_refl _) ?_; intro w1 hown hgrow)
  | go_in)
 have hb1 : Below w.heap.size w w1 := (Below.refl _ _).grown hgrow (Nat.le_refl _) (by simp)
 have hs1 : w.heap.size < w1.heap.size := (hown.lt _ rfl).2
 clear hgrow
 go_loopw [4] (fun i wr => ∃ (k : Nat) (L : List Value), k ≤ n ∧ i = .int .i64 k ∧ wr.ownsRow w.heap.size 54 7 (.slice (some ⟨w.heap.size, 0, none⟩) n n) n L ∧
  (∀ i, i < k → ∀ j, j < 7 → L[i * 7 + j]? = (TypeV.cells (xs.getD i default))[j]?) ∧ Below w.heap.size w wr) (fun i _ => n - (intOf i).toNat)
 case atStart => exact ⟨0, _, Nat.zero_le _, rfl, hown, fun i hi => absurd hi (Nat.not_lt_zero _), hb1⟩
 case round =>
  obtain ⟨k, L, hk, rfl, hownL, hL, hbel⟩ := hrel
  by_cases hlt : k < n
  · obtain ⟨b, off, rfl, hc⟩ := hr.2 k hlt
    have HL := hide (rows_step (cells := TypeV.cells) (xs := xs) TypeV.len hownL.1 hlt hL)
    generalize xs.getD k default = q at hc HL
    have d0 : wr.cell? ⟨b, off + k * 7, none⟩ = some (.int .i64 q.id) := (hbel.cell (World.block_lt_of_cell? w _ (hc 0 (by omega)))).trans (hc 0 (by omega))
    have d1 : wr.cell? ⟨b, off + k * 7 + 1, none⟩ = some (.int .i64 q.wd) := (hbel.cell (World.block_lt_of_cell? w _ (hc 1 (by omega)))).trans (hc 1 (by omega))
    have d2 : wr.cell? ⟨b, off + k * 7 + 2, none⟩ = some (.int .i64 q.ht) := (hbel.cell (World.block_lt_of_cell? w _ (hc 2 (by omega)))).trans (hc 2 (by omega))
    have d3 : wr.cell? ⟨b, off + k * 7 + 3, none⟩ = some (.int .i64 q.dp) := (hbel.cell (World.block_lt_of_cell? w _ (hc 3 (by omega)))).trans (hc 3 (by omega))
    have d4 : wr.cell? ⟨b, off + k * 7 + 4, none⟩ = some (.int .i64 q.tare) := (hbel.cell (World.block_lt_of_cell? w _ (hc 4 (by omega)))).trans (hc 4 (by omega))
    have d5 : wr.cell? ⟨b, off + k * 7 + 5, none⟩ = some (.int .i64 q.gram) := (hbel.cell (World.block_lt_of_cell? w _ (hc 5 (by omega)))).trans (hc 5 (by omega))
    have d6 : wr.cell? ⟨b, off + k * 7 + 6, none⟩ = some (.int .i64 q.cost) := (hbel.cell (World.block_lt_of_cell? w _ (hc 6 (by omega)))).trans (hc 6 (by omega))
    have HO := hide hownL
    have HB := hide hbel
    clear hc hr hown hbel hownL hL hb1
    go_wp2_with fail
    refine (toType_any _ _ _ _ _ _ _ _).mono ?_
    rintro e w2 ⟨rfl, hb2⟩
    have hown2 := own_later HO.out hb2
    obtain ⟨u0, e0, t0⟩ := row_at (j := 0) hown2.1 hlt (by omega)
    have f0 : w2.cell? ⟨w.heap.size, k * 7, none⟩ = some u0 := (hown2.cellAt _ t0).trans e0
    have z0 : w2.frozen? ⟨w.heap.size, k * 7, none⟩ = false := hown2.frozenAt (k * 7)
    obtain ⟨u1, e1, t1⟩ := row_at (j := 1) hown2.1 hlt (by omega)
    have f1 : w2.cell? ⟨w.heap.size, k * 7 + 1, none⟩ = some u1 := (hown2.cellAt _ t1).trans e1
    have z1 : w2.frozen? ⟨w.heap.size, k * 7 + 1, none⟩ = false := hown2.frozenAt (k * 7 + 1)
    obtain ⟨u2, e2, t2⟩ := row_at (j := 2) hown2.1 hlt (by omega)
    have f2 : w2.cell? ⟨w.heap.size, k * 7 + 2, none⟩ = some u2 := (hown2.cellAt _ t2).trans e2
    have z2 : w2.frozen? ⟨w.heap.size, k * 7 + 2, none⟩ = false := hown2.frozenAt (k * 7 + 2)
    obtain ⟨u3, e3, t3⟩ := row_at (j := 3) hown2.1 hlt (by omega)
    have f3 : w2.cell? ⟨w.heap.size, k * 7 + 3, none⟩ = some u3 := (hown2.cellAt _ t3).trans e3
    have z3 : w2.frozen? ⟨w.heap.size, k * 7 + 3, none⟩ = false := hown2.frozenAt (k * 7 + 3)
    obtain ⟨u4, e4, t4⟩ := row_at (j := 4) hown2.1 hlt (by omega)
    have f4 : w2.cell? ⟨w.heap.size, k * 7 + 4, none⟩ = some u4 := (hown2.cellAt _ t4).trans e4
    have z4 : w2.frozen? ⟨w.heap.size, k * 7 + 4, none⟩ = false := hown2.frozenAt (k * 7 + 4)
    obtain ⟨u5, e5, t5⟩ := row_at (j := 5) hown2.1 hlt (by omega)
    have f5 : w2.cell? ⟨w.heap.size, k * 7 + 5, none⟩ = some u5 := (hown2.cellAt _ t5).trans e5
    have z5 : w2.frozen? ⟨w.heap.size, k * 7 + 5, none⟩ = false := hown2.frozenAt (k * 7 + 5)
    obtain ⟨u6, e6, t6⟩ := row_at (j := 6) hown2.1 hlt (by omega)
    have f6 : w2.cell? ⟨w.heap.size, k * 7 + 6, none⟩ = some u6 := (hown2.cellAt _ t6).trans e6
    have z6 : w2.frozen? ⟨w.heap.size, k * 7 + 6, none⟩ = false := hown2.frozenAt (k * 7 + 6)
    have HO2 := hide (own_write (TypeV.cells q) _ _ (k * 7) hown2)
    have HB2 := hide (below_write (Nat.le_refl _) (TypeV.cells q) _ _ (k * 7) (HB.out.trans (hb2.mono HB.out.size)))
    clear hown2 HO HB hb2 e0 t0 e1 t1 e2 t2 e3 t3 e4 t4 e5 t5 e6 t6
    go_wp2
    go_roundw
    case rel => exact ⟨k + 1, _, by omega, by go_num, unhide HO2, unhide HL, unhide HB2⟩
    case measure => simp [intOf]; omega
  · obtain rfl : k = n := by omega
    have HO := hide hownL
    have HL := hide hL
    have HB := hide hbel
    clear hown hb1 hownL hL hbel
    go_wp2
    go_ret
    exact ⟨_, rfl, RdR.of_owns HO.out hr.1 HL.out, unhide HB, Nat.le_refl _, (HO.out.lt _ rfl).2⟩
theorem Tryz.infoPair : (Tryz.prog.info? 92).map (fun i => (i.zero, i.size, i.bytes)) = some (some (.agg #[.int .i64 0, .int .i64 0]), 2, 16) := by kernel_rfl
set_option maxHeartbeats 1000000 in
theorem toPairS_any (a : Option Addr) (n c : Nat) (xs : List PairV) (w : World) (hr : RdR PairV.cells 2 w a n xs) (hn : n ≤ 1048576) :
 Calls Tryz.prog 28 #[.slice a n c] w fun e w' => ∃ g, e = .returned (.slice (some ⟨g, 0, none⟩) n n) ∧
  RdR PairV.cells 2 w' (some ⟨g, 0, none⟩) n xs ∧ Below w.heap.size w w' ∧ w.heap.size ≤ g ∧ g < w'.heap.size := by
 obtain ⟨i0, hi, hz0, hz1, hz2⟩ := info_parts Tryz.infoPair
 have hbb : i0.bytes * n ≤ 281474976710656 := by rw [hz2]; omega
 go_enter Tryz.func28, Tryz.ntmps28
 go_wp2_with (first
  | (at_make; refine wpList_make_full _ rfl _ _ 37 rfl w.heap.size 92 i0 (.agg #[.int .i64 0, .int .i64 0]) 2 Tryz.underlying37 hi hz0 hz1 .i64 .i64 n n n rfl rfl rfl rfl hbb (by unfold maxLen; omega) (Nat.le_refl _) ?_; intro w1 hown hgrow)
  | go_in)
 have hb1 : Below w.heap.size w w1 := (Below.refl _ _).grown hgrow (Nat.le_refl _) (by simp)
 have hs1 : w.heap.size < w1.heap.size := (hown.lt _ rfl).2
 clear hgrow
 go_loopw [4] (fun i wr => ∃ (k : Nat) (L : List Value), k ≤ n ∧ i = .int .i64 k ∧ wr.ownsRow w.heap.size 92 2 (.slice (some ⟨w.heap.size, 0, none⟩) n n) n L ∧
  (∀ i, i < k → ∀ j, j < 2 → L[i * 2 + j]? = (PairV.cells (xs.getD i default))[j]?) ∧ Below w.heap.size w wr) (fun i _ => n - (intOf i).toNat)
 case atStart => exact ⟨0, _, Nat.zero_le _, rfl, hown, fun i hi => absurd hi (Nat.not_lt_zero _), hb1⟩
 case round =>
  obtain ⟨k, L, hk, rfl, hownL, hL, hbel⟩ := hrel
  by_cases hlt : k < n
  · obtain ⟨b, off, rfl, hc⟩ := hr.2 k hlt
    have HL := hide (rows_step (cells := PairV.cells) (xs := xs) PairV.len hownL.1 hlt hL)
    generalize xs.getD k default = q at hc HL
    have d0 : wr.cell? ⟨b, off + k * 2, none⟩ = some (.int .i64 q.a) := (hbel.cell (World.block_lt_of_cell? w _ (hc 0 (by omega)))).trans (hc 0 (by omega))
    have d1 : wr.cell? ⟨b, off + k * 2 + 1, none⟩ = some (.int .i64 q.b) := (hbel.cell (World.block_lt_of_cell? w _ (hc 1 (by omega)))).trans (hc 1 (by omega))
    have HO := hide hownL
    have HB := hide hbel
    clear hc hr hown hbel hownL hL hb1
    go_wp2_with fail
    refine (toPair_any _ _ _).mono ?_
    rintro e w2 ⟨rfl, hb2⟩
    have hown2 := own_later HO.out hb2
    obtain ⟨u0, e0, t0⟩ := row_at (j := 0) hown2.1 hlt (by omega)
    have f0 : w2.cell? ⟨w.heap.size, k * 2, none⟩ = some u0 := (hown2.cellAt _ t0).trans e0
    have z0 : w2.frozen? ⟨w.heap.size, k * 2, none⟩ = false := hown2.frozenAt (k * 2)
    obtain ⟨u1, e1, t1⟩ := row_at (j := 1) hown2.1 hlt (by omega)
    have f1 : w2.cell? ⟨w.heap.size, k * 2 + 1, none⟩ = some u1 := (hown2.cellAt _ t1).trans e1
    have z1 : w2.frozen? ⟨w.heap.size, k * 2 + 1, none⟩ = false := hown2.frozenAt (k * 2 + 1)
    have HO2 := hide (own_write (PairV.cells q) _ _ (k * 2) hown2)
    have HB2 := hide (below_write (Nat.le_refl _) (PairV.cells q) _ _ (k * 2) (HB.out.trans (hb2.mono HB.out.size)))
    clear hown2 HO HB hb2 e0 t0 e1 t1
    go_wp2
    go_roundw
    case rel => exact ⟨k + 1, _, by omega, by go_num, unhide HO2, unhide HL, unhide HB2⟩
    case measure => simp [intOf]; omega
  · obtain rfl : k = n := by omega
    have HO := hide hownL
    have HL := hide hL
    have HB := hide hbel
    clear hown hb1 hownL hL hbel
    go_wp2
    go_ret
    exact ⟨_, rfl, RdR.of_owns HO.out hr.1 HL.out, unhide HB, Nat.le_refl _, (HO.out.lt _ rfl).2⟩
end Go.Proofs.YtcblpoeeembniabGreatDoor

/- The laws' own sizes and comparisons of slices of structs of numbers. -/
namespace Go.Proofs.YtcblpoeeembniabGreatDoor
open Go.RowKit
set_option linter.unusedVariables false

theorem szItemS_any (a : Option Addr) (n c : Nat) (l : Int) (w : World) (hn : n ≤ maxLen) (h0 : 0 ≤ l) (hl : l ≤ 1048576) :
 Calls Tryz.prog 22 #[.slice a n c, .int .i64 l] w fun e w' => e = .returned (.int .i64 (if l - n < 0 then -1 else l - n)) ∧ w' = w := by
 unfold maxLen at hn
 by_cases h : l - n < 0
 all_goals
  go_enter Tryz.func22, Tryz.ntmps22
  go_wp2
  go_ret
  exact ⟨rfl, rfl⟩
set_option maxHeartbeats 1000000 in
theorem eqItemS_same (a : Option Addr) (n c : Nat) (a' : Option Addr) (c' : Nat) (xs : List ItemV) (w : World) (hr : RdR ItemV.cells 7 w a n xs) (hr' : RdR ItemV.cells 7 w a' n xs) (hn : n ≤ 1048576) :
 Calls Tryz.prog 38 #[.slice a n c, .slice a' n c'] w fun e w' => e = .returned (.bool true) ∧ Below w.heap.size w w' := by
 have hne : ((n : Int) != (n : Int)) = false := by simp
 go_enter Tryz.func38, Tryz.ntmps38
 go_wp2
 go_loopw [5] (fun i wr => ∃ k : Nat, k ≤ n ∧ i = .int .i64 k ∧ Below w.heap.size w wr) (fun i _ => n - (intOf i).toNat)
 case atStart => exact ⟨0, Nat.zero_le _, rfl, Below.refl _ _⟩
 case round =>
  obtain ⟨k, hk, rfl, hbel⟩ := hrel
  by_cases hlt : k < n
  · obtain ⟨b, off, rfl, hc⟩ := hr.2 k hlt
    obtain ⟨b', off', rfl, hc'⟩ := hr'.2 k hlt
    generalize xs.getD k default = q at hc hc'
    have d0 : wr.cell? ⟨b, off + k * 7, none⟩ = some (.int .i64 q.id) := (hbel.cell (World.block_lt_of_cell? w _ (hc 0 (by omega)))).trans (hc 0 (by omega))
    have d1 : wr.cell? ⟨b, off + k * 7 + 1, none⟩ = some (.int .i64 q.wd) := (hbel.cell (World.block_lt_of_cell? w _ (hc 1 (by omega)))).trans (hc 1 (by omega))
    have d2 : wr.cell? ⟨b, off + k * 7 + 2, none⟩ = some (.int .i64 q.ht) := (hbel.cell (World.block_lt_of_cell? w _ (hc 2 (by omega)))).trans (hc 2 (by omega))
    have d3 : wr.cell? ⟨b, off + k * 7 + 3, none⟩ = some (.int .i64 q.dp) := (hbel.cell (World.block_lt_of_cell? w _ (hc 3 (by omega)))).trans (hc 3 (by omega))
    have d4 : wr.cell? ⟨b, off + k * 7 + 4, none⟩ = some (.int .i64 q.gram) := (hbel.cell (World.block_lt_of_cell? w _ (hc 4 (by omega)))).trans (hc 4 (by omega))
    have d5 : wr.cell? ⟨b, off + k * 7 + 5, none⟩ = some (.int .i64 q.cls) := (hbel.cell (World.block_lt_of_cell? w _ (hc 5 (by omega)))).trans (hc 5 (by omega))
    have d6 : wr.cell? ⟨b, off + k * 7 + 6, none⟩ = some (.int .i64 q.cnt) := (hbel.cell (World.block_lt_of_cell? w _ (hc 6 (by omega)))).trans (hc 6 (by omega))
    have e0 : wr.cell? ⟨b', off' + k * 7, none⟩ = some (.int .i64 q.id) := (hbel.cell (World.block_lt_of_cell? w _ (hc' 0 (by omega)))).trans (hc' 0 (by omega))
    have e1 : wr.cell? ⟨b', off' + k * 7 + 1, none⟩ = some (.int .i64 q.wd) := (hbel.cell (World.block_lt_of_cell? w _ (hc' 1 (by omega)))).trans (hc' 1 (by omega))
    have e2 : wr.cell? ⟨b', off' + k * 7 + 2, none⟩ = some (.int .i64 q.ht) := (hbel.cell (World.block_lt_of_cell? w _ (hc' 2 (by omega)))).trans (hc' 2 (by omega))
    have e3 : wr.cell? ⟨b', off' + k * 7 + 3, none⟩ = some (.int .i64 q.dp) := (hbel.cell (World.block_lt_of_cell? w _ (hc' 3 (by omega)))).trans (hc' 3 (by omega))
    have e4 : wr.cell? ⟨b', off' + k * 7 + 4, none⟩ = some (.int .i64 q.gram) := (hbel.cell (World.block_lt_of_cell? w _ (hc' 4 (by omega)))).trans (hc' 4 (by omega))
    have e5 : wr.cell? ⟨b', off' + k * 7 + 5, none⟩ = some (.int .i64 q.cls) := (hbel.cell (World.block_lt_of_cell? w _ (hc' 5 (by omega)))).trans (hc' 5 (by omega))
    have e6 : wr.cell? ⟨b', off' + k * 7 + 6, none⟩ = some (.int .i64 q.cnt) := (hbel.cell (World.block_lt_of_cell? w _ (hc' 6 (by omega)))).trans (hc' 6 (by omega))
    have HB := hide hbel
    clear hc hc' hr hr' hbel
    go_wp2_with fail
    go_region_with ((go_at_call 62; refine (eqItem_same _ _ _ _ _ _ _ _).mono ?_; rintro e w2 ⟨rfl, hb2⟩))
    all_goals
     go_wp2
     go_roundw
     case rel => exact ⟨k + 1, by omega, by go_num, HB.out.drew.trans (hb2.mono HB.out.size)⟩
     case measure => simp [intOf]; omega
  · go_wp2
    go_ret
    exact ⟨rfl, hbel⟩
theorem szTypeS_any (a : Option Addr) (n c : Nat) (l : Int) (w : World) (hn : n ≤ maxLen) (h0 : 0 ≤ l) (hl : l ≤ 1048576) :
 Calls Tryz.prog 21 #[.slice a n c, .int .i64 l] w fun e w' => e = .returned (.int .i64 (if l - n < 0 then -1 else l - n)) ∧ w' = w := by
 unfold maxLen at hn
 by_cases h : l - n < 0
 all_goals
  go_enter Tryz.func21, Tryz.ntmps21
  go_wp2
  go_ret
  exact ⟨rfl, rfl⟩
set_option maxHeartbeats 1000000 in
theorem eqTypeS_same (a : Option Addr) (n c : Nat) (a' : Option Addr) (c' : Nat) (xs : List TypeV) (w : World) (hr : RdR TypeV.cells 7 w a n xs) (hr' : RdR TypeV.cells 7 w a' n xs) (hn : n ≤ 1048576) :
 Calls Tryz.prog 37 #[.slice a n c, .slice a' n c'] w fun e w' => e = .returned (.bool true) ∧ Below w.heap.size w w' := by
 have hne : ((n : Int) != (n : Int)) = false := by simp
 go_enter Tryz.func37, Tryz.ntmps37
 go_wp2
 go_loopw [5] (fun i wr => ∃ k : Nat, k ≤ n ∧ i = .int .i64 k ∧ Below w.heap.size w wr) (fun i _ => n - (intOf i).toNat)
 case atStart => exact ⟨0, Nat.zero_le _, rfl, Below.refl _ _⟩
 case round =>
  obtain ⟨k, hk, rfl, hbel⟩ := hrel
  by_cases hlt : k < n
  · obtain ⟨b, off, rfl, hc⟩ := hr.2 k hlt
    obtain ⟨b', off', rfl, hc'⟩ := hr'.2 k hlt
    generalize xs.getD k default = q at hc hc'
    have d0 : wr.cell? ⟨b, off + k * 7, none⟩ = some (.int .i64 q.id) := (hbel.cell (World.block_lt_of_cell? w _ (hc 0 (by omega)))).trans (hc 0 (by omega))
    have d1 : wr.cell? ⟨b, off + k * 7 + 1, none⟩ = some (.int .i64 q.wd) := (hbel.cell (World.block_lt_of_cell? w _ (hc 1 (by omega)))).trans (hc 1 (by omega))
    have d2 : wr.cell? ⟨b, off + k * 7 + 2, none⟩ = some (.int .i64 q.ht) := (hbel.cell (World.block_lt_of_cell? w _ (hc 2 (by omega)))).trans (hc 2 (by omega))
    have d3 : wr.cell? ⟨b, off + k * 7 + 3, none⟩ = some (.int .i64 q.dp) := (hbel.cell (World.block_lt_of_cell? w _ (hc 3 (by omega)))).trans (hc 3 (by omega))
    have d4 : wr.cell? ⟨b, off + k * 7 + 4, none⟩ = some (.int .i64 q.tare) := (hbel.cell (World.block_lt_of_cell? w _ (hc 4 (by omega)))).trans (hc 4 (by omega))
    have d5 : wr.cell? ⟨b, off + k * 7 + 5, none⟩ = some (.int .i64 q.gram) := (hbel.cell (World.block_lt_of_cell? w _ (hc 5 (by omega)))).trans (hc 5 (by omega))
    have d6 : wr.cell? ⟨b, off + k * 7 + 6, none⟩ = some (.int .i64 q.cost) := (hbel.cell (World.block_lt_of_cell? w _ (hc 6 (by omega)))).trans (hc 6 (by omega))
    have e0 : wr.cell? ⟨b', off' + k * 7, none⟩ = some (.int .i64 q.id) := (hbel.cell (World.block_lt_of_cell? w _ (hc' 0 (by omega)))).trans (hc' 0 (by omega))
    have e1 : wr.cell? ⟨b', off' + k * 7 + 1, none⟩ = some (.int .i64 q.wd) := (hbel.cell (World.block_lt_of_cell? w _ (hc' 1 (by omega)))).trans (hc' 1 (by omega))
    have e2 : wr.cell? ⟨b', off' + k * 7 + 2, none⟩ = some (.int .i64 q.ht) := (hbel.cell (World.block_lt_of_cell? w _ (hc' 2 (by omega)))).trans (hc' 2 (by omega))
    have e3 : wr.cell? ⟨b', off' + k * 7 + 3, none⟩ = some (.int .i64 q.dp) := (hbel.cell (World.block_lt_of_cell? w _ (hc' 3 (by omega)))).trans (hc' 3 (by omega))
    have e4 : wr.cell? ⟨b', off' + k * 7 + 4, none⟩ = some (.int .i64 q.tare) := (hbel.cell (World.block_lt_of_cell? w _ (hc' 4 (by omega)))).trans (hc' 4 (by omega))
    have e5 : wr.cell? ⟨b', off' + k * 7 + 5, none⟩ = some (.int .i64 q.gram) := (hbel.cell (World.block_lt_of_cell? w _ (hc' 5 (by omega)))).trans (hc' 5 (by omega))
    have e6 : wr.cell? ⟨b', off' + k * 7 + 6, none⟩ = some (.int .i64 q.cost) := (hbel.cell (World.block_lt_of_cell? w _ (hc' 6 (by omega)))).trans (hc' 6 (by omega))
    have HB := hide hbel
    clear hc hc' hr hr' hbel
    go_wp2_with fail
    go_region_with ((go_at_call 61; refine (eqType_same _ _ _ _ _ _ _ _).mono ?_; rintro e w2 ⟨rfl, hb2⟩))
    all_goals
     go_wp2
     go_roundw
     case rel => exact ⟨k + 1, by omega, by go_num, HB.out.drew.trans (hb2.mono HB.out.size)⟩
     case measure => simp [intOf]; omega
  · go_wp2
    go_ret
    exact ⟨rfl, hbel⟩
theorem szPairS_any (a : Option Addr) (n c : Nat) (l : Int) (w : World) (hn : n ≤ maxLen) (h0 : 0 ≤ l) (hl : l ≤ 1048576) :
 Calls Tryz.prog 20 #[.slice a n c, .int .i64 l] w fun e w' => e = .returned (.int .i64 (if l - n < 0 then -1 else l - n)) ∧ w' = w := by
 unfold maxLen at hn
 by_cases h : l - n < 0
 all_goals
  go_enter Tryz.func20, Tryz.ntmps20
  go_wp2
  go_ret
  exact ⟨rfl, rfl⟩
set_option maxHeartbeats 1000000 in
theorem eqPairS_same (a : Option Addr) (n c : Nat) (a' : Option Addr) (c' : Nat) (xs : List PairV) (w : World) (hr : RdR PairV.cells 2 w a n xs) (hr' : RdR PairV.cells 2 w a' n xs) (hn : n ≤ 1048576) :
 Calls Tryz.prog 36 #[.slice a n c, .slice a' n c'] w fun e w' => e = .returned (.bool true) ∧ Below w.heap.size w w' := by
 have hne : ((n : Int) != (n : Int)) = false := by simp
 go_enter Tryz.func36, Tryz.ntmps36
 go_wp2
 go_loopw [5] (fun i wr => ∃ k : Nat, k ≤ n ∧ i = .int .i64 k ∧ Below w.heap.size w wr) (fun i _ => n - (intOf i).toNat)
 case atStart => exact ⟨0, Nat.zero_le _, rfl, Below.refl _ _⟩
 case round =>
  obtain ⟨k, hk, rfl, hbel⟩ := hrel
  by_cases hlt : k < n
  · obtain ⟨b, off, rfl, hc⟩ := hr.2 k hlt
    obtain ⟨b', off', rfl, hc'⟩ := hr'.2 k hlt
    generalize xs.getD k default = q at hc hc'
    have d0 : wr.cell? ⟨b, off + k * 2, none⟩ = some (.int .i64 q.a) := (hbel.cell (World.block_lt_of_cell? w _ (hc 0 (by omega)))).trans (hc 0 (by omega))
    have d1 : wr.cell? ⟨b, off + k * 2 + 1, none⟩ = some (.int .i64 q.b) := (hbel.cell (World.block_lt_of_cell? w _ (hc 1 (by omega)))).trans (hc 1 (by omega))
    have e0 : wr.cell? ⟨b', off' + k * 2, none⟩ = some (.int .i64 q.a) := (hbel.cell (World.block_lt_of_cell? w _ (hc' 0 (by omega)))).trans (hc' 0 (by omega))
    have e1 : wr.cell? ⟨b', off' + k * 2 + 1, none⟩ = some (.int .i64 q.b) := (hbel.cell (World.block_lt_of_cell? w _ (hc' 1 (by omega)))).trans (hc' 1 (by omega))
    have HB := hide hbel
    clear hc hc' hr hr' hbel
    go_wp2_with fail
    go_region_with ((go_at_call 60; refine (eqPair_same _ _ _).mono ?_; rintro e w2 ⟨rfl, hb2⟩))
    all_goals
     go_wp2
     go_roundw
     case rel => exact ⟨k + 1, by omega, by go_num, HB.out.drew.trans (hb2.mono HB.out.size)⟩
     case measure => simp [intOf]; omega
  · go_wp2
    go_ret
    exact ⟨rfl, hbel⟩
end Go.Proofs.YtcblpoeeembniabGreatDoor

/- An order as a plain value: how it lies in memory; the laws' copy, size and comparison of it. -/
namespace Go.Proofs.YtcblpoeeembniabGreatDoor
open Go.RowKit
set_option linter.unusedVariables false

structure ReqV where
 (way : Int) (pal : PalletV) (classes : Int) (pairs : List PairV) (types : List TypeV) (master : Int) (items : List ItemV)
deriving Inhabited, DecidableEq
/-- Where its lists lie. -/
structure ReqH where
 (ap at' ai : Option Addr) (cp ct ci : Nat)
def reqVal (r : ReqV) (h : ReqH) : Value :=
 .agg #[.int .i64 r.way, .int .i64 r.pal.wd, .int .i64 r.pal.dp, .int .i64 r.pal.ht, .int .i64 r.pal.gram, .int .i64 r.classes, .slice h.ap r.pairs.length h.cp, .slice h.at' r.types.length h.ct, .int .i64 r.master, .slice h.ai r.items.length h.ci]
def RdReq (w : World) (r : ReqV) (h : ReqH) : Prop :=
 RdR PairV.cells 2 w h.ap r.pairs.length r.pairs ∧ RdR TypeV.cells 7 w h.at' r.types.length r.types ∧ RdR ItemV.cells 7 w h.ai r.items.length r.items
theorem RdReq.mono {w w' : World} {r : ReqV} {h : ReqH} (hr : RdReq w r h) (hb : Below w.heap.size w w') : RdReq w' r h :=
 ⟨hr.1.mono (by omega) PairV.len hb, hr.2.1.mono (by omega) TypeV.len hb, hr.2.2.mono (by omega) ItemV.len hb⟩
/-- Its lists are new memory. -/
def ReqH.fresh (B : Nat) (h : ReqH) : Prop := (∃ b, h.ap = some ⟨b, 0, none⟩ ∧ B ≤ b) ∧ (∃ b, h.at' = some ⟨b, 0, none⟩ ∧ B ≤ b) ∧ (∃ b, h.ai = some ⟨b, 0, none⟩ ∧ B ≤ b)
def ReqV.small (r : ReqV) : Prop := r.pairs.length + r.types.length + r.items.length ≤ 1048576

def reqCells (r : ReqV) (h : ReqH) : List Value :=
 [.int .i64 r.way, .int .i64 r.pal.wd, .int .i64 r.pal.dp, .int .i64 r.pal.ht, .int .i64 r.pal.gram, .int .i64 r.classes, .slice h.ap r.pairs.length h.cp, .slice h.at' r.types.length h.ct, .int .i64 r.master, .slice h.ai r.items.length h.ci]
/-- An order's ten cells at block g. -/
def RqC (w : World) (g : Nat) (r : ReqV) (h : ReqH) : Prop := w.cell? ⟨g, 0, none⟩ = some (.int .i64 r.way) ∧ w.cell? ⟨g, 1, none⟩ = some (.int .i64 r.pal.wd) ∧ w.cell? ⟨g, 2, none⟩ = some (.int .i64 r.pal.dp) ∧ w.cell? ⟨g, 3, none⟩ = some (.int .i64 r.pal.ht) ∧ w.cell? ⟨g, 4, none⟩ = some (.int .i64 r.pal.gram) ∧ w.cell? ⟨g, 5, none⟩ = some (.int .i64 r.classes) ∧ w.cell? ⟨g, 6, none⟩ = some (.slice h.ap r.pairs.length h.cp) ∧ w.cell? ⟨g, 7, none⟩ = some (.slice h.at' r.types.length h.ct) ∧ w.cell? ⟨g, 8, none⟩ = some (.int .i64 r.master) ∧ w.cell? ⟨g, 9, none⟩ = some (.slice h.ai r.items.length h.ci)
theorem RqC.of {w : World} {g : Nat} {r : ReqV} {h : ReqH} (k : Blk w g [.int .i64 r.way, .int .i64 r.pal.wd, .int .i64 r.pal.dp, .int .i64 r.pal.ht, .int .i64 r.pal.gram, .int .i64 r.classes, .slice h.ap r.pairs.length h.cp, .slice h.at' r.types.length h.ct, .int .i64 r.master, .slice h.ai r.items.length h.ci]) : RqC w g r h := Blk.cs10 k
theorem reqFacts {w : World} {b : Nat} {r : ReqV} {h : ReqH} (H : Blk w b (reqCells r h)) :
 w.cell? ⟨b, 0, none⟩ = some (.int .i64 r.way) ∧ w.cell? ⟨b, 1, none⟩ = some (.int .i64 r.pal.wd) ∧ w.cell? ⟨b, 2, none⟩ = some (.int .i64 r.pal.dp) ∧ w.cell? ⟨b, 3, none⟩ = some (.int .i64 r.pal.ht) ∧ w.cell? ⟨b, 4, none⟩ = some (.int .i64 r.pal.gram) ∧
 w.cell? ⟨b, 5, none⟩ = some (.int .i64 r.classes) ∧ w.cell? ⟨b, 6, none⟩ = some (.slice h.ap r.pairs.length h.cp) ∧ w.cell? ⟨b, 7, none⟩ = some (.slice h.at' r.types.length h.ct) ∧ w.cell? ⟨b, 8, none⟩ = some (.int .i64 r.master) ∧ w.cell? ⟨b, 9, none⟩ = some (.slice h.ai r.items.length h.ci) :=
 ⟨(H 0 (by simp [reqCells])).1, (H 1 (by simp [reqCells])).1, (H 2 (by simp [reqCells])).1, (H 3 (by simp [reqCells])).1, (H 4 (by simp [reqCells])).1, (H 5 (by simp [reqCells])).1, (H 6 (by simp [reqCells])).1, (H 7 (by simp [reqCells])).1, (H 8 (by simp [reqCells])).1, (H 9 (by simp [reqCells])).1⟩
theorem bcell {W w1 : World} (hb : Below W.heap.size W w1) : (∀ b o, b < W.heap.size → w1.cell? ⟨b, o, none⟩ = W.cell? ⟨b, o, none⟩) ∧ (∀ b o, b < W.heap.size → w1.frozen? ⟨b, o, none⟩ = W.frozen? ⟨b, o, none⟩) :=
 ⟨fun b o h => hb.cell (p := ⟨b, o, none⟩) h, fun b o h => hb.frozen (p := ⟨b, o, none⟩) h⟩
set_option maxHeartbeats 1000000 in
theorem szRequest_any (r : ReqV) (h : ReqH) (l : Int) (w : World) (h0 : 0 ≤ l) (hl : l ≤ 1048576) (hp : r.pairs.length ≤ maxLen) (ht : r.types.length ≤ maxLen) (hi : r.items.length ≤ maxLen) :
 Calls Tryz.prog 5 #[reqVal r h, .int .i64 l] w fun e w' =>
  e = .returned (.int .i64 (if l - r.pairs.length - r.types.length - r.items.length < 0 then -1 else l - r.pairs.length - r.types.length - r.items.length)) ∧ Below w.heap.size w w' := by
 unfold reqVal
 by_cases h1 : l - r.pairs.length < 0
 · rw [if_pos (by omega)]
   go_enter Tryz.func5, Tryz.ntmps5
   go_wp2_with fail
   refine (szPairS_any _ _ _ _ _ hp h0 hl).mono ?_
   rintro e w' ⟨rfl, rfl⟩
   rw [if_pos (by omega)]
   go_wp2_with fail
   go_ret
   exact ⟨rfl, (Below.refl _ _).alloc (Nat.le_refl _) _⟩
 by_cases h2 : l - r.pairs.length - r.types.length < 0
 · rw [if_pos (by omega)]
   go_enter Tryz.func5, Tryz.ntmps5
   go_wp2_with fail
   refine (szPairS_any _ _ _ _ _ hp h0 hl).mono ?_
   rintro e w' ⟨rfl, rfl⟩
   rw [if_neg (by omega)]
   go_wp2_with fail
   refine (szTypeS_any _ _ _ _ _ ht (by omega) (by omega)).mono ?_
   rintro e w' ⟨rfl, rfl⟩
   rw [if_pos (by omega)]
   go_wp2_with fail
   go_ret
   exact ⟨rfl, (Below.refl _ _).alloc (Nat.le_refl _) _⟩
 by_cases h3 : l - r.pairs.length - r.types.length - r.items.length < 0
 all_goals
  go_enter Tryz.func5, Tryz.ntmps5
  go_wp2_with fail
  refine (szPairS_any _ _ _ _ _ hp h0 hl).mono ?_
  rintro e w' ⟨rfl, rfl⟩
  rw [if_neg (by omega)]
  go_wp2_with fail
  refine (szTypeS_any _ _ _ _ _ ht (by omega) (by omega)).mono ?_
  rintro e w' ⟨rfl, rfl⟩
  rw [if_neg (by omega)]
  go_wp2_with fail
  refine (szItemS_any _ _ _ _ _ hi (by omega) (by omega)).mono ?_
  rintro e w' ⟨rfl, rfl⟩
  first | rw [if_pos (by omega)] | rw [if_neg (by omega)]
  go_wp2_with fail
  go_ret
  exact ⟨rfl, (Below.refl _ _).alloc (Nat.le_refl _) _⟩
set_option maxHeartbeats 1000000 in
theorem toRequest_any (r : ReqV) (h : ReqH) (w : World) (hr : RdReq w r h) (hs : r.small) :
 Calls Tryz.prog 8 #[reqVal r h] w fun e w' => ∃ h', e = .returned (reqVal r h') ∧ RdReq w' r h' ∧ h'.fresh w.heap.size ∧ Below w.heap.size w w' := by
 unfold ReqV.small at hs
 unfold reqVal
 obtain ⟨hp, ht, hi⟩ := hr
 go_enter Tryz.func8, Tryz.ntmps8
 go_wp2_with fail
 refine (toPallet_any _ _ _ _ _).mono ?_
 rintro e w1 ⟨rfl, hb1⟩
 have H1 : Hid (Below w.heap.size w w1) := ((((Below.refl w.heap.size w).alloc (Nat.le_refl _) _).alloc (by simp) _).alloc (by simp; omega) _).trans (hb1.mono (by simp; omega))
 have z1 : w.heap.size + 1 + 1 < w1.heap.size := by have := hb1.size; simp at this; omega
 have A1 : Blk w1 w.heap.size [.int .i64 r.way, .int .i64 r.pal.wd, .int .i64 r.pal.dp, .int .i64 r.pal.ht, .int .i64 r.pal.gram, .int .i64 r.classes, .slice h.ap r.pairs.length h.cp, .slice h.at' r.types.length h.ct, .int .i64 r.master, .slice h.ai r.items.length h.ci] := Blk.below hb1 (by simp; omega) (((Blk.allocAt [.int .i64 r.way, .int .i64 r.pal.wd, .int .i64 r.pal.dp, .int .i64 r.pal.ht, .int .i64 r.pal.gram, .int .i64 r.classes, .slice h.ap r.pairs.length h.cp, .slice h.at' r.types.length h.ct, .int .i64 r.master, .slice h.ai r.items.length h.ci] (by simp)).allocOld (by simp) _).allocOld (by simp; omega) _)
 have R1 : Blk w1 (w.heap.size + 1) [.int .i64 0, .int .i64 0, .int .i64 0, .int .i64 0, .int .i64 0, .int .i64 0, .slice none 0 0, .slice none 0 0, .int .i64 0, .slice none 0 0] := Blk.below hb1 (by simp) ((Blk.allocAt [.int .i64 0, .int .i64 0, .int .i64 0, .int .i64 0, .int .i64 0, .int .i64 0, .slice none 0 0, .slice none 0 0, .int .i64 0, .slice none 0 0] (by simp)).allocOld (by simp) _)
 have O1 : Blk w1 (w.heap.size + 1 + 1) [.int .i64 r.way, .int .i64 0, .int .i64 0, .int .i64 0, .int .i64 0, .int .i64 0, .slice none 0 0, .slice none 0 0, .int .i64 0, .slice none 0 0] := Blk.below hb1 (by simp) (Blk.allocAt [.int .i64 r.way, .int .i64 0, .int .i64 0, .int .i64 0, .int .i64 0, .int .i64 0, .slice none 0 0, .slice none 0 0, .int .i64 0, .slice none 0 0] (by simp))
 have a1_1 : w1.cell? ⟨w.heap.size, 1, none⟩ = some (.int .i64 r.pal.wd) := (A1 1 (by simp)).1
 have a1_5 : w1.cell? ⟨w.heap.size, 5, none⟩ = some (.int .i64 r.classes) := (A1 5 (by simp)).1
 have a1_6 : w1.cell? ⟨w.heap.size, 6, none⟩ = some (.slice h.ap r.pairs.length h.cp) := (A1 6 (by simp)).1
 have o1_0 := (O1 0 (by simp)).1
 have f1_0 := (O1 0 (by simp)).2
 have o1_1 := (O1 1 (by simp)).1
 have f1_1 := (O1 1 (by simp)).2
 have o1_2 := (O1 2 (by simp)).1
 have f1_2 := (O1 2 (by simp)).2
 have o1_3 := (O1 3 (by simp)).1
 have f1_3 := (O1 3 (by simp)).2
 have o1_4 := (O1 4 (by simp)).1
 have f1_4 := (O1 4 (by simp)).2
 have o1_5 := (O1 5 (by simp)).1
 have f1_5 := (O1 5 (by simp)).2
 have o1_6 := (O1 6 (by simp)).1
 have f1_6 := (O1 6 (by simp)).2
 have o1_7 := (O1 7 (by simp)).1
 have f1_7 := (O1 7 (by simp)).2
 have o1_8 := (O1 8 (by simp)).1
 have f1_8 := (O1 8 (by simp)).2
 have o1_9 := (O1 9 (by simp)).1
 have f1_9 := (O1 9 (by simp)).2
 have HA1 := hide A1
 have HO1 := hide O1
 have HR1 := hide R1
 clear hb1 A1 O1 R1
 go_wp2_with fail
 refine (toPairS_any _ _ _ r.pairs _ ?hr2 (by omega)).mono ?_
 case hr2 => exact hp.mono (by omega) PairV.len (by repeat' (first | refine Below.setCell ?_ (by (try dsimp only); omega) _ | exact unhide H1))
 rintro e w2 ⟨g2, rfl, hq2, hb2, hg2, hs2⟩
 clear a1_1 a1_5 a1_6 o1_0 f1_0 o1_1 f1_1 o1_2 f1_2 o1_3 f1_3 o1_4 f1_4 o1_5 f1_5 o1_6 f1_6 o1_7 f1_7 o1_8 f1_8 o1_9 f1_9
 have H2 : Hid (Below w.heap.size w w2) := Below.trans (by repeat' (first | refine Below.setCell ?_ (by (try dsimp only); omega) _ | exact unhide H1)) (hb2.mono (by simp; omega))
 have z2 : w1.heap.size ≤ g2 := by simpa using hg2
 have A2 := Blk.below hb2 (by simp; omega) (((((HA1.out.other (by omega)).other (by omega)).other (by omega)).other (by omega)).other (by omega))
 have R2 := Blk.below hb2 (by simp; omega) (((((HR1.out.other (by omega)).other (by omega)).other (by omega)).other (by omega)).other (by omega))
 have O2 : Blk w2 (w.heap.size + 1 + 1) [.int .i64 r.way, .int .i64 r.pal.wd, .int .i64 r.pal.dp, .int .i64 r.pal.ht, .int .i64 r.pal.gram, .int .i64 r.classes, .slice none 0 0, .slice none 0 0, .int .i64 0, .slice none 0 0] := Blk.below hb2 (by simp; omega) (((((HO1.out.set (by simp)).set (by simp)).set (by simp)).set (by simp)).set (by simp))
 have a2_7 : w2.cell? ⟨w.heap.size, 7, none⟩ = some (.slice h.at' r.types.length h.ct) := (A2 7 (by simp)).1
 have o2_0 := (O2 0 (by simp)).1
 have f2_0 := (O2 0 (by simp)).2
 have o2_1 := (O2 1 (by simp)).1
 have f2_1 := (O2 1 (by simp)).2
 have o2_2 := (O2 2 (by simp)).1
 have f2_2 := (O2 2 (by simp)).2
 have o2_3 := (O2 3 (by simp)).1
 have f2_3 := (O2 3 (by simp)).2
 have o2_4 := (O2 4 (by simp)).1
 have f2_4 := (O2 4 (by simp)).2
 have o2_5 := (O2 5 (by simp)).1
 have f2_5 := (O2 5 (by simp)).2
 have o2_6 := (O2 6 (by simp)).1
 have f2_6 := (O2 6 (by simp)).2
 have o2_7 := (O2 7 (by simp)).1
 have f2_7 := (O2 7 (by simp)).2
 have o2_8 := (O2 8 (by simp)).1
 have f2_8 := (O2 8 (by simp)).2
 have o2_9 := (O2 9 (by simp)).1
 have f2_9 := (O2 9 (by simp)).2
 have HA2 := hide A2
 have HO2 := hide O2
 have HR2 := hide R2
 have G2 := hide hq2
 clear hb2 hg2 hq2 A2 O2 R2 H1 HA1 HO1 HR1
 go_wp2_with fail
 refine (toTypeS_any _ _ _ r.types _ ?hr3 (by omega)).mono ?_
 case hr3 => exact ht.mono (by omega) TypeV.len (by repeat' (first | refine Below.setCell ?_ (by (try dsimp only); omega) _ | exact unhide H2))
 rintro e w3 ⟨g3, rfl, hq3, hb3, hg3, hs3⟩
 clear a2_7 o2_0 f2_0 o2_1 f2_1 o2_2 f2_2 o2_3 f2_3 o2_4 f2_4 o2_5 f2_5 o2_6 f2_6 o2_7 f2_7 o2_8 f2_8 o2_9 f2_9
 have H3 : Hid (Below w.heap.size w w3) := Below.trans (by repeat' (first | refine Below.setCell ?_ (by (try dsimp only); omega) _ | exact unhide H2)) (hb3.mono (by simp; omega))
 have z3 : w2.heap.size ≤ g3 := by simpa using hg3
 have A3 := Blk.below hb3 (by simp; omega) (HA2.out.other (by omega))
 have R3 := Blk.below hb3 (by simp; omega) (HR2.out.other (by omega))
 have O3 : Blk w3 (w.heap.size + 1 + 1) [.int .i64 r.way, .int .i64 r.pal.wd, .int .i64 r.pal.dp, .int .i64 r.pal.ht, .int .i64 r.pal.gram, .int .i64 r.classes, .slice (some ⟨g2, 0, none⟩) r.pairs.length r.pairs.length, .slice none 0 0, .int .i64 0, .slice none 0 0] := Blk.below hb3 (by simp; omega) (HO2.out.set (by simp))
 have a3_8 : w3.cell? ⟨w.heap.size, 8, none⟩ = some (.int .i64 r.master) := (A3 8 (by simp)).1
 have a3_9 : w3.cell? ⟨w.heap.size, 9, none⟩ = some (.slice h.ai r.items.length h.ci) := (A3 9 (by simp)).1
 have o3_0 := (O3 0 (by simp)).1
 have f3_0 := (O3 0 (by simp)).2
 have o3_1 := (O3 1 (by simp)).1
 have f3_1 := (O3 1 (by simp)).2
 have o3_2 := (O3 2 (by simp)).1
 have f3_2 := (O3 2 (by simp)).2
 have o3_3 := (O3 3 (by simp)).1
 have f3_3 := (O3 3 (by simp)).2
 have o3_4 := (O3 4 (by simp)).1
 have f3_4 := (O3 4 (by simp)).2
 have o3_5 := (O3 5 (by simp)).1
 have f3_5 := (O3 5 (by simp)).2
 have o3_6 := (O3 6 (by simp)).1
 have f3_6 := (O3 6 (by simp)).2
 have o3_7 := (O3 7 (by simp)).1
 have f3_7 := (O3 7 (by simp)).2
 have o3_8 := (O3 8 (by simp)).1
 have f3_8 := (O3 8 (by simp)).2
 have o3_9 := (O3 9 (by simp)).1
 have f3_9 := (O3 9 (by simp)).2
 have HA3 := hide A3
 have HO3 := hide O3
 have HR3 := hide R3
 have G3 := hide hq3
 have G2b := hide ((G2.out.other (fun x hx => by simp only [Option.some.injEq] at hx; subst hx; show g2 ≠ _; omega)).mono (by omega) PairV.len hb3)
 clear hb3 hg3 hq3 A3 O3 R3 H2 HA2 HO2 HR2
 go_wp2_with fail
 refine (toItemS_any _ _ _ r.items _ ?hr4 (by omega)).mono ?_
 case hr4 => exact hi.mono (by omega) ItemV.len (by repeat' (first | refine Below.setCell ?_ (by (try dsimp only); omega) _ | exact unhide H3))
 rintro e w4 ⟨g4, rfl, hq4, hb4, hg4, hs4⟩
 clear a3_8 a3_9 o3_0 f3_0 o3_1 f3_1 o3_2 f3_2 o3_3 f3_3 o3_4 f3_4 o3_5 f3_5 o3_6 f3_6 o3_7 f3_7 o3_8 f3_8 o3_9 f3_9
 have H4 : Hid (Below w.heap.size w w4) := Below.trans (by repeat' (first | refine Below.setCell ?_ (by (try dsimp only); omega) _ | exact unhide H3)) (hb4.mono (by simp; omega))
 have z4 : w3.heap.size ≤ g4 := by simpa using hg4
 have R4 := Blk.below hb4 (by simp; omega) ((HR3.out.other (by omega)).other (by omega))
 have O4 : Blk w4 (w.heap.size + 1 + 1) [.int .i64 r.way, .int .i64 r.pal.wd, .int .i64 r.pal.dp, .int .i64 r.pal.ht, .int .i64 r.pal.gram, .int .i64 r.classes, .slice (some ⟨g2, 0, none⟩) r.pairs.length r.pairs.length, .slice (some ⟨g3, 0, none⟩) r.types.length r.types.length, .int .i64 r.master, .slice none 0 0] := Blk.below hb4 (by simp; omega) ((HO3.out.set (by simp)).set (by simp))
 have o4_0 := (O4 0 (by simp)).1
 have f4_0 := (O4 0 (by simp)).2
 have q4_0 := (R4 0 (by simp)).1
 have t4_0 := (R4 0 (by simp)).2
 have o4_1 := (O4 1 (by simp)).1
 have f4_1 := (O4 1 (by simp)).2
 have q4_1 := (R4 1 (by simp)).1
 have t4_1 := (R4 1 (by simp)).2
 have o4_2 := (O4 2 (by simp)).1
 have f4_2 := (O4 2 (by simp)).2
 have q4_2 := (R4 2 (by simp)).1
 have t4_2 := (R4 2 (by simp)).2
 have o4_3 := (O4 3 (by simp)).1
 have f4_3 := (O4 3 (by simp)).2
 have q4_3 := (R4 3 (by simp)).1
 have t4_3 := (R4 3 (by simp)).2
 have o4_4 := (O4 4 (by simp)).1
 have f4_4 := (O4 4 (by simp)).2
 have q4_4 := (R4 4 (by simp)).1
 have t4_4 := (R4 4 (by simp)).2
 have o4_5 := (O4 5 (by simp)).1
 have f4_5 := (O4 5 (by simp)).2
 have q4_5 := (R4 5 (by simp)).1
 have t4_5 := (R4 5 (by simp)).2
 have o4_6 := (O4 6 (by simp)).1
 have f4_6 := (O4 6 (by simp)).2
 have q4_6 := (R4 6 (by simp)).1
 have t4_6 := (R4 6 (by simp)).2
 have o4_7 := (O4 7 (by simp)).1
 have f4_7 := (O4 7 (by simp)).2
 have q4_7 := (R4 7 (by simp)).1
 have t4_7 := (R4 7 (by simp)).2
 have o4_8 := (O4 8 (by simp)).1
 have f4_8 := (O4 8 (by simp)).2
 have q4_8 := (R4 8 (by simp)).1
 have t4_8 := (R4 8 (by simp)).2
 have o4_9 := (O4 9 (by simp)).1
 have f4_9 := (O4 9 (by simp)).2
 have q4_9 := (R4 9 (by simp)).1
 have t4_9 := (R4 9 (by simp)).2
 have G2c := hide (((G2b.out.other (fun x hx => by simp only [Option.some.injEq] at hx; subst hx; show g2 ≠ _; omega)).other (fun x hx => by simp only [Option.some.injEq] at hx; subst hx; show g2 ≠ _; omega)).mono (by omega) PairV.len hb4)
 have G3c := hide (((G3.out.other (fun x hx => by simp only [Option.some.injEq] at hx; subst hx; show g3 ≠ _; omega)).other (fun x hx => by simp only [Option.some.injEq] at hx; subst hx; show g3 ≠ _; omega)).mono (by omega) TypeV.len hb4)
 have G4c := hide hq4
 clear hb4 hg4 hq4 R4 O4 HR3 HO3 HA3 H3 G2 G2b G3
 go_wp2_with fail
 refine bodyPost_ret (v := .agg #[.int .i64 r.way, .int .i64 r.pal.wd, .int .i64 r.pal.dp, .int .i64 r.pal.ht, .int .i64 r.pal.gram, .int .i64 r.classes, .slice (some ⟨g2, 0, none⟩) r.pairs.length r.pairs.length, .slice (some ⟨g3, 0, none⟩) r.types.length r.types.length, .int .i64 r.master, .slice (some ⟨g4, 0, none⟩) r.items.length r.items.length]) (by simp [results, Tryz.results8, go_sem, q4_0, q4_1, q4_2, q4_3, q4_4, q4_5, q4_6, q4_7, q4_8, q4_9]) rfl ?_
 clear o4_0 f4_0 q4_0 t4_0 o4_1 f4_1 q4_1 t4_1 o4_2 f4_2 q4_2 t4_2 o4_3 f4_3 q4_3 t4_3 o4_4 f4_4 q4_4 t4_4 o4_5 f4_5 q4_5 t4_5 o4_6 f4_6 q4_6 t4_6 o4_7 f4_7 q4_7 t4_7 o4_8 f4_8 q4_8 t4_8 o4_9 f4_9 q4_9 t4_9
 refine ⟨⟨some ⟨g2, 0, none⟩, some ⟨g3, 0, none⟩, some ⟨g4, 0, none⟩, r.pairs.length, r.types.length, r.items.length⟩, rfl, ⟨?_, ?_, ?_⟩, ⟨⟨_, rfl, by omega⟩, ⟨_, rfl, by omega⟩, ⟨_, rfl, by omega⟩⟩, ?_⟩
 · repeat' (first | refine RdR.other ?_ (fun x hx => by simp only [Option.some.injEq] at hx; subst hx; show g2 ≠ _; omega) | exact unhide G2c)
 · repeat' (first | refine RdR.other ?_ (fun x hx => by simp only [Option.some.injEq] at hx; subst hx; show g3 ≠ _; omega) | exact unhide G3c)
 · repeat' (first | refine RdR.other ?_ (fun x hx => by simp only [Option.some.injEq] at hx; subst hx; show g4 ≠ _; omega) | exact unhide G4c)
 · exact (by repeat' (first | refine Below.setCell ?_ (by (try dsimp only); omega) _ | exact unhide H4))
set_option maxHeartbeats 1000000 in
theorem eqRequest_same (r : ReqV) (h h' : ReqH) (w : World) (hr : RdReq w r h) (hr' : RdReq w r h') (hs : r.small) :
 Calls Tryz.prog 12 #[reqVal r h, reqVal r h'] w fun e w' => e = .returned (.bool true) ∧ Below w.heap.size w w' := by
 unfold ReqV.small at hs
 unfold reqVal
 go_enter Tryz.func12, Tryz.ntmps12
 go_wp2_with fail
 refine (eqPallet_same _ _ _ _ _).mono ?_
 rintro e w1 ⟨rfl, hb1⟩
 have H1 : Hid (Below w.heap.size w w1) := (((Below.refl w.heap.size w).alloc (Nat.le_refl _) _).alloc (by simp) _).trans (hb1.mono (by simp; omega))
 have z1 : w.heap.size + 1 < w1.heap.size := by have := hb1.size; simp at this; omega
 have A1 : Blk w1 w.heap.size [.int .i64 r.way, .int .i64 r.pal.wd, .int .i64 r.pal.dp, .int .i64 r.pal.ht, .int .i64 r.pal.gram, .int .i64 r.classes, .slice h.ap r.pairs.length h.cp, .slice h.at' r.types.length h.ct, .int .i64 r.master, .slice h.ai r.items.length h.ci] := Blk.below hb1 (by simp; omega) ((Blk.allocAt [.int .i64 r.way, .int .i64 r.pal.wd, .int .i64 r.pal.dp, .int .i64 r.pal.ht, .int .i64 r.pal.gram, .int .i64 r.classes, .slice h.ap r.pairs.length h.cp, .slice h.at' r.types.length h.ct, .int .i64 r.master, .slice h.ai r.items.length h.ci] (by simp)).allocOld (by simp) _)
 have B1 : Blk w1 (w.heap.size + 1) [.int .i64 r.way, .int .i64 r.pal.wd, .int .i64 r.pal.dp, .int .i64 r.pal.ht, .int .i64 r.pal.gram, .int .i64 r.classes, .slice h'.ap r.pairs.length h'.cp, .slice h'.at' r.types.length h'.ct, .int .i64 r.master, .slice h'.ai r.items.length h'.ci] := Blk.below hb1 (by simp) (Blk.allocAt [.int .i64 r.way, .int .i64 r.pal.wd, .int .i64 r.pal.dp, .int .i64 r.pal.ht, .int .i64 r.pal.gram, .int .i64 r.classes, .slice h'.ap r.pairs.length h'.cp, .slice h'.at' r.types.length h'.ct, .int .i64 r.master, .slice h'.ai r.items.length h'.ci] (by simp))
 have a1_0 : w1.cell? ⟨w.heap.size, 0, none⟩ = some (.int .i64 r.way) := (A1 0 (by simp)).1
 have b1_0 : w1.cell? ⟨w.heap.size + 1, 0, none⟩ = some (.int .i64 r.way) := (B1 0 (by simp)).1
 have a1_1 : w1.cell? ⟨w.heap.size, 1, none⟩ = some (.int .i64 r.pal.wd) := (A1 1 (by simp)).1
 have b1_1 : w1.cell? ⟨w.heap.size + 1, 1, none⟩ = some (.int .i64 r.pal.wd) := (B1 1 (by simp)).1
 have a1_2 : w1.cell? ⟨w.heap.size, 2, none⟩ = some (.int .i64 r.pal.dp) := (A1 2 (by simp)).1
 have b1_2 : w1.cell? ⟨w.heap.size + 1, 2, none⟩ = some (.int .i64 r.pal.dp) := (B1 2 (by simp)).1
 have a1_3 : w1.cell? ⟨w.heap.size, 3, none⟩ = some (.int .i64 r.pal.ht) := (A1 3 (by simp)).1
 have b1_3 : w1.cell? ⟨w.heap.size + 1, 3, none⟩ = some (.int .i64 r.pal.ht) := (B1 3 (by simp)).1
 have a1_4 : w1.cell? ⟨w.heap.size, 4, none⟩ = some (.int .i64 r.pal.gram) := (A1 4 (by simp)).1
 have b1_4 : w1.cell? ⟨w.heap.size + 1, 4, none⟩ = some (.int .i64 r.pal.gram) := (B1 4 (by simp)).1
 have a1_5 : w1.cell? ⟨w.heap.size, 5, none⟩ = some (.int .i64 r.classes) := (A1 5 (by simp)).1
 have b1_5 : w1.cell? ⟨w.heap.size + 1, 5, none⟩ = some (.int .i64 r.classes) := (B1 5 (by simp)).1
 have a1_6 : w1.cell? ⟨w.heap.size, 6, none⟩ = some (.slice h.ap r.pairs.length h.cp) := (A1 6 (by simp)).1
 have b1_6 : w1.cell? ⟨w.heap.size + 1, 6, none⟩ = some (.slice h'.ap r.pairs.length h'.cp) := (B1 6 (by simp)).1
 have a1_7 : w1.cell? ⟨w.heap.size, 7, none⟩ = some (.slice h.at' r.types.length h.ct) := (A1 7 (by simp)).1
 have b1_7 : w1.cell? ⟨w.heap.size + 1, 7, none⟩ = some (.slice h'.at' r.types.length h'.ct) := (B1 7 (by simp)).1
 have a1_8 : w1.cell? ⟨w.heap.size, 8, none⟩ = some (.int .i64 r.master) := (A1 8 (by simp)).1
 have b1_8 : w1.cell? ⟨w.heap.size + 1, 8, none⟩ = some (.int .i64 r.master) := (B1 8 (by simp)).1
 have a1_9 : w1.cell? ⟨w.heap.size, 9, none⟩ = some (.slice h.ai r.items.length h.ci) := (A1 9 (by simp)).1
 have b1_9 : w1.cell? ⟨w.heap.size + 1, 9, none⟩ = some (.slice h'.ai r.items.length h'.ci) := (B1 9 (by simp)).1
 have HA1 := hide A1
 have HB1 := hide B1
 clear hb1 A1 B1
 go_wp2_with fail
 refine (eqPairS_same _ _ _ _ _ r.pairs _ ?ha2 ?hb2 (by omega)).mono ?_
 case ha2 => exact (hr.mono H1.out).1
 case hb2 => exact (hr'.mono H1.out).1
 rintro e w2 ⟨rfl, hb2⟩
 clear a1_0 b1_0 a1_1 b1_1 a1_2 b1_2 a1_3 b1_3 a1_4 b1_4 a1_5 b1_5 a1_6 b1_6 a1_7 b1_7 a1_8 b1_8 a1_9 b1_9
 have H2 : Hid (Below w.heap.size w w2) := H1.out.trans (hb2.mono H1.out.size)
 have z2 : w1.heap.size ≤ w2.heap.size := hb2.size
 have A2 := Blk.below hb2 (by omega) HA1.out
 have B2 := Blk.below hb2 (by omega) HB1.out
 have a2_0 : w2.cell? ⟨w.heap.size, 0, none⟩ = some (.int .i64 r.way) := (A2 0 (by simp)).1
 have b2_0 : w2.cell? ⟨w.heap.size + 1, 0, none⟩ = some (.int .i64 r.way) := (B2 0 (by simp)).1
 have a2_1 : w2.cell? ⟨w.heap.size, 1, none⟩ = some (.int .i64 r.pal.wd) := (A2 1 (by simp)).1
 have b2_1 : w2.cell? ⟨w.heap.size + 1, 1, none⟩ = some (.int .i64 r.pal.wd) := (B2 1 (by simp)).1
 have a2_2 : w2.cell? ⟨w.heap.size, 2, none⟩ = some (.int .i64 r.pal.dp) := (A2 2 (by simp)).1
 have b2_2 : w2.cell? ⟨w.heap.size + 1, 2, none⟩ = some (.int .i64 r.pal.dp) := (B2 2 (by simp)).1
 have a2_3 : w2.cell? ⟨w.heap.size, 3, none⟩ = some (.int .i64 r.pal.ht) := (A2 3 (by simp)).1
 have b2_3 : w2.cell? ⟨w.heap.size + 1, 3, none⟩ = some (.int .i64 r.pal.ht) := (B2 3 (by simp)).1
 have a2_4 : w2.cell? ⟨w.heap.size, 4, none⟩ = some (.int .i64 r.pal.gram) := (A2 4 (by simp)).1
 have b2_4 : w2.cell? ⟨w.heap.size + 1, 4, none⟩ = some (.int .i64 r.pal.gram) := (B2 4 (by simp)).1
 have a2_5 : w2.cell? ⟨w.heap.size, 5, none⟩ = some (.int .i64 r.classes) := (A2 5 (by simp)).1
 have b2_5 : w2.cell? ⟨w.heap.size + 1, 5, none⟩ = some (.int .i64 r.classes) := (B2 5 (by simp)).1
 have a2_6 : w2.cell? ⟨w.heap.size, 6, none⟩ = some (.slice h.ap r.pairs.length h.cp) := (A2 6 (by simp)).1
 have b2_6 : w2.cell? ⟨w.heap.size + 1, 6, none⟩ = some (.slice h'.ap r.pairs.length h'.cp) := (B2 6 (by simp)).1
 have a2_7 : w2.cell? ⟨w.heap.size, 7, none⟩ = some (.slice h.at' r.types.length h.ct) := (A2 7 (by simp)).1
 have b2_7 : w2.cell? ⟨w.heap.size + 1, 7, none⟩ = some (.slice h'.at' r.types.length h'.ct) := (B2 7 (by simp)).1
 have a2_8 : w2.cell? ⟨w.heap.size, 8, none⟩ = some (.int .i64 r.master) := (A2 8 (by simp)).1
 have b2_8 : w2.cell? ⟨w.heap.size + 1, 8, none⟩ = some (.int .i64 r.master) := (B2 8 (by simp)).1
 have a2_9 : w2.cell? ⟨w.heap.size, 9, none⟩ = some (.slice h.ai r.items.length h.ci) := (A2 9 (by simp)).1
 have b2_9 : w2.cell? ⟨w.heap.size + 1, 9, none⟩ = some (.slice h'.ai r.items.length h'.ci) := (B2 9 (by simp)).1
 have HA2 := hide A2
 have HB2 := hide B2
 clear hb2 A2 B2 HA1 HB1 H1
 go_wp2_with fail
 refine (eqTypeS_same _ _ _ _ _ r.types _ ?ha3 ?hb3 (by omega)).mono ?_
 case ha3 => exact (hr.mono H2.out).2.1
 case hb3 => exact (hr'.mono H2.out).2.1
 rintro e w3 ⟨rfl, hb3⟩
 clear a2_0 b2_0 a2_1 b2_1 a2_2 b2_2 a2_3 b2_3 a2_4 b2_4 a2_5 b2_5 a2_6 b2_6 a2_7 b2_7 a2_8 b2_8 a2_9 b2_9
 have H3 : Hid (Below w.heap.size w w3) := H2.out.trans (hb3.mono H2.out.size)
 have z3 : w2.heap.size ≤ w3.heap.size := hb3.size
 have A3 := Blk.below hb3 (by omega) HA2.out
 have B3 := Blk.below hb3 (by omega) HB2.out
 have a3_0 : w3.cell? ⟨w.heap.size, 0, none⟩ = some (.int .i64 r.way) := (A3 0 (by simp)).1
 have b3_0 : w3.cell? ⟨w.heap.size + 1, 0, none⟩ = some (.int .i64 r.way) := (B3 0 (by simp)).1
 have a3_1 : w3.cell? ⟨w.heap.size, 1, none⟩ = some (.int .i64 r.pal.wd) := (A3 1 (by simp)).1
 have b3_1 : w3.cell? ⟨w.heap.size + 1, 1, none⟩ = some (.int .i64 r.pal.wd) := (B3 1 (by simp)).1
 have a3_2 : w3.cell? ⟨w.heap.size, 2, none⟩ = some (.int .i64 r.pal.dp) := (A3 2 (by simp)).1
 have b3_2 : w3.cell? ⟨w.heap.size + 1, 2, none⟩ = some (.int .i64 r.pal.dp) := (B3 2 (by simp)).1
 have a3_3 : w3.cell? ⟨w.heap.size, 3, none⟩ = some (.int .i64 r.pal.ht) := (A3 3 (by simp)).1
 have b3_3 : w3.cell? ⟨w.heap.size + 1, 3, none⟩ = some (.int .i64 r.pal.ht) := (B3 3 (by simp)).1
 have a3_4 : w3.cell? ⟨w.heap.size, 4, none⟩ = some (.int .i64 r.pal.gram) := (A3 4 (by simp)).1
 have b3_4 : w3.cell? ⟨w.heap.size + 1, 4, none⟩ = some (.int .i64 r.pal.gram) := (B3 4 (by simp)).1
 have a3_5 : w3.cell? ⟨w.heap.size, 5, none⟩ = some (.int .i64 r.classes) := (A3 5 (by simp)).1
 have b3_5 : w3.cell? ⟨w.heap.size + 1, 5, none⟩ = some (.int .i64 r.classes) := (B3 5 (by simp)).1
 have a3_6 : w3.cell? ⟨w.heap.size, 6, none⟩ = some (.slice h.ap r.pairs.length h.cp) := (A3 6 (by simp)).1
 have b3_6 : w3.cell? ⟨w.heap.size + 1, 6, none⟩ = some (.slice h'.ap r.pairs.length h'.cp) := (B3 6 (by simp)).1
 have a3_7 : w3.cell? ⟨w.heap.size, 7, none⟩ = some (.slice h.at' r.types.length h.ct) := (A3 7 (by simp)).1
 have b3_7 : w3.cell? ⟨w.heap.size + 1, 7, none⟩ = some (.slice h'.at' r.types.length h'.ct) := (B3 7 (by simp)).1
 have a3_8 : w3.cell? ⟨w.heap.size, 8, none⟩ = some (.int .i64 r.master) := (A3 8 (by simp)).1
 have b3_8 : w3.cell? ⟨w.heap.size + 1, 8, none⟩ = some (.int .i64 r.master) := (B3 8 (by simp)).1
 have a3_9 : w3.cell? ⟨w.heap.size, 9, none⟩ = some (.slice h.ai r.items.length h.ci) := (A3 9 (by simp)).1
 have b3_9 : w3.cell? ⟨w.heap.size + 1, 9, none⟩ = some (.slice h'.ai r.items.length h'.ci) := (B3 9 (by simp)).1
 have HA3 := hide A3
 have HB3 := hide B3
 clear hb3 A3 B3 HA2 HB2 H2
 go_wp2_with fail
 refine (eqItemS_same _ _ _ _ _ r.items _ ?ha4 ?hb4 (by omega)).mono ?_
 case ha4 => exact (hr.mono H3.out).2.2
 case hb4 => exact (hr'.mono H3.out).2.2
 rintro e w4 ⟨rfl, hb4⟩
 clear a3_0 b3_0 a3_1 b3_1 a3_2 b3_2 a3_3 b3_3 a3_4 b3_4 a3_5 b3_5 a3_6 b3_6 a3_7 b3_7 a3_8 b3_8 a3_9 b3_9
 have H4 : Hid (Below w.heap.size w w4) := H3.out.trans (hb4.mono H3.out.size)
 have z4 : w3.heap.size ≤ w4.heap.size := hb4.size
 have A4 := Blk.below hb4 (by omega) HA3.out
 have B4 := Blk.below hb4 (by omega) HB3.out
 have a4_0 : w4.cell? ⟨w.heap.size, 0, none⟩ = some (.int .i64 r.way) := (A4 0 (by simp)).1
 have b4_0 : w4.cell? ⟨w.heap.size + 1, 0, none⟩ = some (.int .i64 r.way) := (B4 0 (by simp)).1
 have a4_1 : w4.cell? ⟨w.heap.size, 1, none⟩ = some (.int .i64 r.pal.wd) := (A4 1 (by simp)).1
 have b4_1 : w4.cell? ⟨w.heap.size + 1, 1, none⟩ = some (.int .i64 r.pal.wd) := (B4 1 (by simp)).1
 have a4_2 : w4.cell? ⟨w.heap.size, 2, none⟩ = some (.int .i64 r.pal.dp) := (A4 2 (by simp)).1
 have b4_2 : w4.cell? ⟨w.heap.size + 1, 2, none⟩ = some (.int .i64 r.pal.dp) := (B4 2 (by simp)).1
 have a4_3 : w4.cell? ⟨w.heap.size, 3, none⟩ = some (.int .i64 r.pal.ht) := (A4 3 (by simp)).1
 have b4_3 : w4.cell? ⟨w.heap.size + 1, 3, none⟩ = some (.int .i64 r.pal.ht) := (B4 3 (by simp)).1
 have a4_4 : w4.cell? ⟨w.heap.size, 4, none⟩ = some (.int .i64 r.pal.gram) := (A4 4 (by simp)).1
 have b4_4 : w4.cell? ⟨w.heap.size + 1, 4, none⟩ = some (.int .i64 r.pal.gram) := (B4 4 (by simp)).1
 have a4_5 : w4.cell? ⟨w.heap.size, 5, none⟩ = some (.int .i64 r.classes) := (A4 5 (by simp)).1
 have b4_5 : w4.cell? ⟨w.heap.size + 1, 5, none⟩ = some (.int .i64 r.classes) := (B4 5 (by simp)).1
 have a4_6 : w4.cell? ⟨w.heap.size, 6, none⟩ = some (.slice h.ap r.pairs.length h.cp) := (A4 6 (by simp)).1
 have b4_6 : w4.cell? ⟨w.heap.size + 1, 6, none⟩ = some (.slice h'.ap r.pairs.length h'.cp) := (B4 6 (by simp)).1
 have a4_7 : w4.cell? ⟨w.heap.size, 7, none⟩ = some (.slice h.at' r.types.length h.ct) := (A4 7 (by simp)).1
 have b4_7 : w4.cell? ⟨w.heap.size + 1, 7, none⟩ = some (.slice h'.at' r.types.length h'.ct) := (B4 7 (by simp)).1
 have a4_8 : w4.cell? ⟨w.heap.size, 8, none⟩ = some (.int .i64 r.master) := (A4 8 (by simp)).1
 have b4_8 : w4.cell? ⟨w.heap.size + 1, 8, none⟩ = some (.int .i64 r.master) := (B4 8 (by simp)).1
 have a4_9 : w4.cell? ⟨w.heap.size, 9, none⟩ = some (.slice h.ai r.items.length h.ci) := (A4 9 (by simp)).1
 have b4_9 : w4.cell? ⟨w.heap.size + 1, 9, none⟩ = some (.slice h'.ai r.items.length h'.ci) := (B4 9 (by simp)).1
 have HA4 := hide A4
 have HB4 := hide B4
 clear hb4 A4 B4 HA3 HB3 H3
 go_wp2_with fail
 go_ret
 exact ⟨rfl, unhide H4⟩
end Go.Proofs.YtcblpoeeembniabGreatDoor
