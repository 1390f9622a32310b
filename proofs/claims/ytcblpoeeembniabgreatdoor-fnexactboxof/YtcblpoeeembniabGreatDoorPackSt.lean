/- What a packer holds: its cartons (rows of numbers, a new one may be nil), what they come to; what each of its steps turns. -/
import Derived.Test.YtcblpoeeembniabGreatDoorPackPlain
import Derived.Test.YtcblpoeeembniabGreatDoorAppendSome
import Derived.Test.YtcblpoeeembniabGreatDoorPkE
import Derived.Test.YtcblpoeeembniabGreatDoorOwnO
namespace Go.Proofs.YtcblpoeeembniabGreatDoor
open Go Go.RowKit
set_option linter.unusedVariables false
set_option linter.unusedSimpArgs false

structure BulkV where (v g : Int)
deriving Inhabited
def BulkV.cells (q : BulkV) : List Value := [.int .i64 q.v, .int .i64 q.g]
theorem BulkV.len (q : BulkV) : q.cells.length = 2 := rfl
theorem bulks_len : ∀ fs : List BulkV, (fs.flatMap BulkV.cells).length = fs.length * 2
 | [] => rfl
 | q :: fs => by rw [List.flatMap_cons, List.length_append, bulks_len fs, BulkV.len, List.length_cons]; omega
theorem bulks_at : ∀ (fs : List BulkV) (k : Nat), k < fs.length → (fs.flatMap BulkV.cells)[k * 2]? = some (.int .i64 (fs.getD k default).v) ∧ (fs.flatMap BulkV.cells)[k * 2 + 1]? = some (.int .i64 (fs.getD k default).g)
 | [], k, h => by simp at h
 | q :: fs, 0, _ => ⟨rfl, rfl⟩
 | q :: fs, k + 1, h => by
  have := bulks_at fs k (by simpa using h)
  rw [List.flatMap_cons, show (k + 1) * 2 = k * 2 + 2 by omega]
  simp only [BulkV.cells, List.cons_append, List.nil_append, List.getElem?_cons_succ, List.getD_cons_succ]
  exact this
theorem bulks_set : ∀ (fs : List BulkV) (k : Nat) (a b : Int), k < fs.length → ((fs.flatMap BulkV.cells).set (k * 2) (.int .i64 a)).set (k * 2 + 1) (.int .i64 b) = (fs.set k ⟨a, b⟩).flatMap BulkV.cells
 | [], k, _, _, h => by simp at h
 | q :: fs, 0, a, b, _ => rfl
 | q :: fs, k + 1, a, b, h => by
  have := bulks_set fs k a b (by simpa using h)
  rw [List.set_cons_succ, List.flatMap_cons, List.flatMap_cons, ← this, show (k + 1) * 2 = k * 2 + 2 by omega]
  rfl
structure RowW where (v : Value) (l : List Int)
instance : Inhabited RowW := ⟨⟨.slice none 0 0, []⟩⟩
def RowW.own (w : World) (B : Nat) (r : RowW) : Prop := w.ownsRow B 3 1 r.v r.l.length (r.l.map (Value.int .i64))
structure Rw (w : World) (B : Nat) (ov : Value) (rs : List RowW) : Prop where
 out : w.ownsRow B 29 1 ov rs.length (rs.map RowW.v)
 row : ∀ i, i < rs.length → RowW.own w B (rs.getD i default)
 apart : ∀ i j b, i < rs.length → j < rs.length → (rs.getD i default).v.ownBlock = some b → (rs.getD j default).v.ownBlock = some b → i = j
 far : ∀ i b, i < rs.length → (rs.getD i default).v.ownBlock = some b → ov.ownBlock ≠ some b
structure Pk (base Bk : Nat) (ea : Option Addr) (N ecap : Nat) (M G : Int) (ov fv : Value) (rs : List RowW) (fs : List BulkV) (w : World) : Prop where
 lt : Bk < base
 sz : base ≤ w.heap.size
 blk : Blk w Bk [.slice ea N ecap, .int .i64 M, .int .i64 G, ov, fv]
 cart : Rw w base ov rs
 fill : w.ownsRow base 81 2 fv fs.length (fs.flatMap BulkV.cells)
 off : ∀ b, fv.ownBlock = some b → ov.ownBlock ≠ some b ∧ ∀ i, i < rs.length → (rs.getD i default).v.ownBlock ≠ some b
/-- Below base nothing has turned but block Bk. -/
structure Fr (base Bk : Nat) (w w' : World) : Prop where
 os : w'.os = w.os
 tape : w'.tape = w.tape
 output : w'.output = w.output
 size : w.heap.size ≤ w'.heap.size
 block : ∀ k, k < base → k ≠ Bk → w'.heap[k]? = w.heap[k]?
theorem Fr.refl (base Bk : Nat) (w : World) : Fr base Bk w w := ⟨rfl, rfl, rfl, Nat.le_refl _, fun _ _ _ => rfl⟩
theorem Fr.trans {base Bk : Nat} {a b c : World} (h : Fr base Bk a b) (k : Fr base Bk b c) : Fr base Bk a c :=
 ⟨k.os.trans h.os, k.tape.trans h.tape, k.output.trans h.output, Nat.le_trans h.size k.size, fun i hi hn => (k.block i hi hn).trans (h.block i hi hn)⟩
theorem Fr.of {base Bk : Nat} {a b : World} (h : Below base a b) : Fr base Bk a b := ⟨h.os, h.tape, h.output, h.size, fun k hk _ => h.block k hk⟩
theorem Fr.mono {base base' Bk : Nat} {a b : World} (h : Fr base Bk a b) (hb : base' ≤ base) : Fr base' Bk a b := ⟨h.os, h.tape, h.output, h.size, fun k hk hn => h.block k (by omega) hn⟩
theorem Fr.set {base Bk : Nat} {a b : World} (h : Fr base Bk a b) {p : Addr} (hp : p.block = Bk ∨ base ≤ p.block) (u : Value) : Fr base Bk a (b.setCell p u) :=
 h.trans ⟨rfl, rfl, rfl, by simp [World.setCell], fun k hk hn => Below.heap_setCell _ _ _ _ (by omega)⟩
theorem Fr.grown {base Bk : Nat} {a b c : World} {row : Option Nat} (h : Fr base Bk a b) (hg : b.grownBy c row) (hB : base ≤ b.heap.size) (hr : ∀ k, row = some k → base ≤ k) : Fr base Bk a c :=
 h.trans (Fr.of ((Below.refl _ _).grown hg hB hr))
theorem Fr.below {base Bk B : Nat} {a b : World} (h : Fr base Bk a b) (h1 : B ≤ base) (h2 : B ≤ Bk) : Below B a b := ⟨h.os, h.tape, h.output, h.size, fun k hk => h.block k (by omega) (by omega)⟩
theorem Blk.keep {w w' : World} {g : Nat} {cs : List Value} (h : Blk w g cs) (hb : w'.heap[g]? = w.heap[g]?) : Blk w' g cs := fun j hj => by
 have := h j hj
 exact ⟨(World.cell?_of_block (w := w) hb).trans this.1, (World.frozen?_of_block (w := w) hb).trans this.2⟩
theorem own_none_or {o : Option Nat} {p : Option Nat} (h : ∀ b, o = some b → p ≠ some b) : o = none ∨ o ≠ p := by
 cases o with
 | none => exact .inl rfl
 | some b => exact .inr (fun e => h b rfl e.symm)
theorem new_ne {p : Option Nat} {g H b : Nat} (hat : p = some g ∨ g = H) (hb : b < H) (hp : p ≠ some b) : g ≠ b := by
 rcases hat with h | h
 · intro e; exact hp (by rw [h, e])
 · omega
theorem own_laterV {w w1 : World} {base e size n : Nat} {v : Value} {xs : List Value} (h : w.ownsRow base e size v n xs) (hb : Below w.heap.size w w1) : w1.ownsRow base e size v n xs := by
 refine ⟨h.1, ?_⟩
 rcases h.2 with h' | ⟨g', cap', cur, h1, h2, h3, h4⟩
 · exact Or.inl h'
 · exact Or.inr ⟨g', cap', cur, h1, h2, (hb.block g' (lt_of_block h3)).trans h3, h4⟩
theorem Rw.later {w w' : World} {B : Nat} {ov : Value} {rs : List RowW} (h : Rw w B ov rs) (hb : Below w.heap.size w w') : Rw w' B ov rs :=
 ⟨own_laterV h.out hb, fun i hi => own_laterV (h.row i hi) hb, h.apart, h.far⟩
theorem Pk.later {base Bk : Nat} {ea : Option Addr} {N ecap : Nat} {M G : Int} {ov fv : Value} {rs : List RowW} {fs : List BulkV} {w w' : World} (h : Pk base Bk ea N ecap M G ov fv rs fs w) (hb : Below w.heap.size w w') : Pk base Bk ea N ecap M G ov fv rs fs w' :=
 ⟨h.lt, Nat.le_trans h.sz hb.size, Blk.below hb (Nat.lt_of_lt_of_le h.lt h.sz) h.blk, h.cart.later hb, own_laterV h.fill hb, h.off⟩
/-- A new carton, nil, behind all. -/
theorem Pk.carton {base Bk : Nat} {ea : Option Addr} {N ecap : Nat} {M G : Int} {ov fv : Value} {rs : List RowW} {fs : List BulkV} {w w3 : World} {g3 cap3 H : Nat} (h : Pk base Bk ea N ecap M G ov fv rs fs w)
 (ho : w3.ownsRow base 29 1 (.slice (some ⟨g3, 0, none⟩) (rs.length + 1) cap3) (rs.length + 1) (rs.map RowW.v ++ [.slice none 0 0])) (hg : w.grownBy w3 ov.ownBlock) (hat : ov.ownBlock = some g3 ∨ g3 = H) (hH : w.heap.size = H) :
 Pk base Bk ea N ecap M G (.slice (some ⟨g3, 0, none⟩) (rs.length + 1) cap3) fv (rs ++ [⟨.slice none 0 0, []⟩]) fs (w3.setCell ⟨Bk, 3, none⟩ (.slice (some ⟨g3, 0, none⟩) (rs.length + 1) cap3)) := by
 have hov : ∀ b, ov.ownBlock = some b → base ≤ b ∧ b < w.heap.size := h.cart.out.lt
 have key : ∀ i, i < (rs ++ [(⟨.slice none 0 0, []⟩ : RowW)]).length → i < rs.length ∧ (rs ++ [(⟨.slice none 0 0, []⟩ : RowW)]).getD i default = rs.getD i default ∨ i = rs.length ∧ (rs ++ [(⟨.slice none 0 0, []⟩ : RowW)]).getD i default = ⟨.slice none 0 0, []⟩ := by
  intro i hi
  rw [List.length_append, List.length_singleton] at hi
  by_cases h1 : i < rs.length
  · exact .inl ⟨h1, getD_snoc_lt h1⟩
  · obtain rfl : i = rs.length := by omega
    exact .inr ⟨rfl, getD_snoc_eq⟩
 have hbk : w3.heap[Bk]? = w.heap[Bk]? := hg.block Bk (Nat.lt_of_lt_of_le h.lt h.sz) (fun e => by have := (hov Bk e.symm).1; have := h.lt; omega)
 refine ⟨h.lt, by have := hg.size; have := h.sz; simp [World.setCell]; omega, (h.blk.keep hbk).set (j := 3) (by simp), ⟨?_, fun i hi => ?_, fun i j b hi hj h1 h2 => ?_, fun i b hi h1 => ?_⟩, ?_, fun b hb => ⟨?_, fun i hi h1 => ?_⟩⟩
 · rw [List.length_append, List.map_append]
   exact ownsRow_setCell_below ho h.lt _
 · rcases key i hi with ⟨h1, h2⟩ | ⟨h1, h2⟩ <;> rw [h2]
   · exact ownsRow_setCell_below (World.ownsRow.kept (h.cart.row i h1) hg (own_none_or (fun b e => h.cart.far i b h1 e))) h.lt _
   · exact World.ownsRow_nil _ _ _ _
 · rcases key i hi with ⟨h3, h4⟩ | ⟨h3, h4⟩ <;> rcases key j hj with ⟨h5, h6⟩ | ⟨h5, h6⟩ <;> rw [h4] at h1 <;> rw [h6] at h2
   · exact h.cart.apart i j b h3 h5 h1 h2
   · cases h2
   · cases h1
   · omega
 · rcases key i hi with ⟨h3, h4⟩ | ⟨h3, h4⟩ <;> rw [h4] at h1
   · have hlt := ((h.cart.row i h3).lt b h1).2
     intro e
     injection e with e
     exact new_ne hat (by omega) (h.cart.far i b h3 h1) e
   · cases h1
 · exact ownsRow_setCell_below (World.ownsRow.kept h.fill hg (own_none_or (fun b e => (h.off b e).1))) h.lt _
 · have hlt := (h.fill.lt b hb).2
   intro e
   injection e with e
   exact new_ne hat (by omega) (h.off b hb).1 e
 · rcases key i hi with ⟨h3, h4⟩ | ⟨h3, h4⟩ <;> rw [h4] at h1
   · exact (h.off b hb).2 i h3 h1
   · cases h1
/-- What the new carton comes to, nothing yet. -/
theorem Pk.filled {base Bk : Nat} {ea : Option Addr} {N ecap : Nat} {M G : Int} {ov fv : Value} {rs : List RowW} {fs : List BulkV} {w w3 : World} {g3 cap3 H : Nat} (h : Pk base Bk ea N ecap M G ov fv rs fs w)
 (ho : w3.ownsRow base 81 2 (.slice (some ⟨g3, 0, none⟩) (fs.length + 1) cap3) (fs.length + 1) (fs.flatMap BulkV.cells ++ [.int .i64 0, .int .i64 0])) (hg : w.grownBy w3 fv.ownBlock) (hat : fv.ownBlock = some g3 ∨ g3 = H) (hH : w.heap.size = H) :
 Pk base Bk ea N ecap M G ov (.slice (some ⟨g3, 0, none⟩) (fs.length + 1) cap3) rs (fs ++ [⟨0, 0⟩]) (w3.setCell ⟨Bk, 4, none⟩ (.slice (some ⟨g3, 0, none⟩) (fs.length + 1) cap3)) := by
 have hfv : ∀ b, fv.ownBlock = some b → base ≤ b ∧ b < w.heap.size := h.fill.lt
 have hbk : w3.heap[Bk]? = w.heap[Bk]? := hg.block Bk (Nat.lt_of_lt_of_le h.lt h.sz) (fun e => by have := (hfv Bk e.symm).1; have := h.lt; omega)
 refine ⟨h.lt, by have := hg.size; have := h.sz; simp [World.setCell]; omega, (h.blk.keep hbk).set (j := 4) (by simp), ⟨?_, fun i hi => ?_, h.cart.apart, h.cart.far⟩, ?_, fun b hb => ?_⟩
 · exact ownsRow_setCell_below (World.ownsRow.kept h.cart.out hg (own_none_or (fun b e e2 => (h.off b e2).1 e))) h.lt _
 · exact ownsRow_setCell_below (World.ownsRow.kept (h.cart.row i hi) hg (own_none_or (fun b e e2 => (h.off b e2).2 i hi e))) h.lt _
 · rw [List.length_append, List.flatMap_append]
   exact ownsRow_setCell_below ho h.lt _
 · have hb' : g3 = b := by injection hb
   subst hb'
   refine ⟨fun e => ?_, fun i hi e => ?_⟩
   · have hlt := (h.cart.out.lt g3 e).2
     exact new_ne hat (by omega) (fun e2 => (h.off g3 e2).1 e) rfl
   · have hlt := ((h.cart.row i hi).lt g3 e).2
     exact new_ne hat (by omega) (fun e2 => (h.off g3 e2).2 i hi e) rfl
/-- Carton k is one unit longer. -/
theorem Pk.grew {base Bk : Nat} {ea : Option Addr} {N ecap : Nat} {M G : Int} {go ocap : Nat} {fv : Value} {rs : List RowW} {fs : List BulkV} {w w3 : World} {g3 cap3 H k : Nat} {u : Int} (h : Pk base Bk ea N ecap M G (.slice (some ⟨go, 0, none⟩) rs.length ocap) fv rs fs w) (hk : k < rs.length)
 (ho : w3.ownsRow base 3 1 (.slice (some ⟨g3, 0, none⟩) ((rs.getD k default).l.length + 1) cap3) ((rs.getD k default).l.length + 1) ((rs.getD k default).l.map (Value.int .i64) ++ [.int .i64 u])) (hg : w.grownBy w3 (rs.getD k default).v.ownBlock) (hat : (rs.getD k default).v.ownBlock = some g3 ∨ g3 = H) (hH : w.heap.size = H) :
 w3.cell? ⟨go, k, none⟩ = some (rs.getD k default).v ∧ w3.frozen? ⟨go, k, none⟩ = false ∧ Pk base Bk ea N ecap M G (.slice (some ⟨go, 0, none⟩) rs.length ocap) fv (rs.set k ⟨.slice (some ⟨g3, 0, none⟩) ((rs.getD k default).l.length + 1) cap3, (rs.getD k default).l ++ [u]⟩) fs (w3.setCell ⟨go, k, none⟩ (.slice (some ⟨g3, 0, none⟩) ((rs.getD k default).l.length + 1) cap3)) := by
 have hgo := h.cart.out.lt go rfl
 have hrw : ∀ b, (rs.getD k default).v.ownBlock = some b → base ≤ b ∧ b < w.heap.size := (h.cart.row k hk).lt
 have hbk : w3.heap[Bk]? = w.heap[Bk]? := hg.block Bk (Nat.lt_of_lt_of_le h.lt h.sz) (fun e => by have := (hrw Bk e.symm).1; have := h.lt; omega)
 have hout : w3.ownsRow base 29 1 (.slice (some ⟨go, 0, none⟩) rs.length ocap) rs.length (rs.map RowW.v) := h.cart.out.kept hg (.inr (fun e => h.cart.far k go hk e.symm rfl))
 have hgne : g3 ≠ go := new_ne hat (by omega) (fun e => h.cart.far k go hk e rfl)
 have gset : w3.grownBy (w3.setCell ⟨go, k, none⟩ (.slice (some ⟨g3, 0, none⟩) ((rs.getD k default).l.length + 1) cap3)) (some go) := gb_set (World.grownBy.refl _ _) _ _
 have key : ∀ i, i < (rs.set k ⟨.slice (some ⟨g3, 0, none⟩) ((rs.getD k default).l.length + 1) cap3, (rs.getD k default).l ++ [u]⟩).length → i < rs.length ∧ (i ≠ k ∧ (rs.set k ⟨.slice (some ⟨g3, 0, none⟩) ((rs.getD k default).l.length + 1) cap3, (rs.getD k default).l ++ [u]⟩).getD i default = rs.getD i default ∨ i = k ∧ (rs.set k ⟨.slice (some ⟨g3, 0, none⟩) ((rs.getD k default).l.length + 1) cap3, (rs.getD k default).l ++ [u]⟩).getD i default = ⟨.slice (some ⟨g3, 0, none⟩) ((rs.getD k default).l.length + 1) cap3, (rs.getD k default).l ++ [u]⟩) := by
  intro i hi
  rw [List.length_set] at hi
  refine ⟨hi, ?_⟩
  by_cases h1 : i = k
  · subst h1; exact .inr ⟨rfl, getD_put_eq hi⟩
  · exact .inl ⟨h1, getD_put_ne (fun e => h1 e.symm)⟩
 have rowne : ∀ i b, i < rs.length → i ≠ k → (rs.getD i default).v.ownBlock = some b → (rs.getD k default).v.ownBlock ≠ some b := fun i b hi hik e e2 => hik (h.cart.apart i k b hi hk e e2)
 refine ⟨?_, hout.frozenAt k, h.lt, by have := hg.size; have := h.sz; simp [World.setCell]; omega, ?_, ⟨?_, fun i hi => ?_, fun i j b hi hj h1 h2 => ?_, fun i b hi h1 => ?_⟩, ?_, fun b hb => ⟨(h.off b hb).1, fun i hi h1 => ?_⟩⟩
 · refine (hout.cellAt k (by omega)).trans ?_
   simp [hk]
 · exact (h.blk.keep hbk).keep (Below.heap_setCell _ _ _ _ (by have := h.lt; simp only; omega))
 · have h3 := (hout.stored k (.slice (some ⟨g3, 0, none⟩) ((rs.getD k default).l.length + 1) cap3)).1
   rw [List.length_set, List.map_set]
   exact h3
 · rcases key i hi with ⟨h0, ⟨h1, h2⟩ | ⟨h1, h2⟩⟩ <;> rw [h2]
   · refine World.ownsRow.kept (World.ownsRow.kept (h.cart.row i h0) hg (own_none_or (fun b e => rowne i b h0 h1 e))) gset (own_none_or (fun b e e2 => h.cart.far i b h0 e (by injection e2 with e2; rw [e2]; rfl)))
   · show w3.setCell _ _ |>.ownsRow base 3 1 _ _ _
     rw [List.length_append, List.map_append]
     exact World.ownsRow.kept ho gset (.inr (fun e => hgne (by injection e)))
 · rcases key i hi with ⟨h0, ⟨h3, h4⟩ | ⟨h3, h4⟩⟩ <;> rcases key j hj with ⟨h5, ⟨h6, h7⟩ | ⟨h6, h7⟩⟩ <;> rw [h4] at h1 <;> rw [h7] at h2
   · exact h.cart.apart i j b h0 h5 h1 h2
   · exfalso
     have hlt := ((h.cart.row i h0).lt b h1).2
     injection h2 with h2
     exact new_ne hat (by omega) (rowne i b h0 h3 h1) h2
   · exfalso
     have hlt := ((h.cart.row j h5).lt b h2).2
     injection h1 with h1
     exact new_ne hat (by omega) (rowne j b h5 h6 h2) h1
   · omega
 · rcases key i hi with ⟨h0, ⟨h3, h4⟩ | ⟨h3, h4⟩⟩ <;> rw [h4] at h1
   · exact h.cart.far i b h0 h1
   · intro e
     injection e with e
     injection h1 with h1
     exact hgne (h1.trans e.symm)
 · exact World.ownsRow.kept (World.ownsRow.kept h.fill hg (own_none_or (fun b e e2 => (h.off b e).2 k hk e2))) gset (own_none_or (fun b e e2 => (h.off b e).1 (by injection e2 with e2; rw [← e2]; rfl)))
 · rcases key i hi with ⟨h0, ⟨h3, h4⟩ | ⟨h3, h4⟩⟩ <;> rw [h4] at h1
   · exact (h.off b hb).2 i h0 h1
   · have hlt := (h.fill.lt b hb).2
     injection h1 with h1
     exact new_ne hat (by omega) (fun e => (h.off b hb).2 k hk e) h1
/-- What carton k comes to is told anew. -/
theorem Pk.put {base Bk : Nat} {ea : Option Addr} {N ecap : Nat} {M G : Int} {ov : Value} {gf fcap k : Nat} {rs : List RowW} {fs : List BulkV} {w : World} {a b : Int} (h : Pk base Bk ea N ecap M G ov (.slice (some ⟨gf, 0, none⟩) fs.length fcap) rs fs w) (hk : k < fs.length) :
 Pk base Bk ea N ecap M G ov (.slice (some ⟨gf, 0, none⟩) fs.length fcap) rs (fs.set k ⟨a, b⟩) ((w.setCell ⟨gf, k * 2, none⟩ (.int .i64 a)).setCell ⟨gf, k * 2 + 1, none⟩ (.int .i64 b)) := by
 have hgf := h.fill.lt gf rfl
 have gset : w.grownBy ((w.setCell ⟨gf, k * 2, none⟩ (.int .i64 a)).setCell ⟨gf, k * 2 + 1, none⟩ (.int .i64 b)) (some gf) := gb_set (gb_set (World.grownBy.refl _ _) _ _) _ _
 have hbk : ((w.setCell ⟨gf, k * 2, none⟩ (.int .i64 a)).setCell ⟨gf, k * 2 + 1, none⟩ (.int .i64 b)).heap[Bk]? = w.heap[Bk]? := gset.block Bk (Nat.lt_of_lt_of_le h.lt h.sz) (fun e => by injection e with e; have := h.lt; omega)
 refine ⟨h.lt, Nat.le_trans h.sz gset.size, h.blk.keep hbk, ⟨?_, fun i hi => ?_, h.cart.apart, h.cart.far⟩, ?_, h.off⟩
 · exact World.ownsRow.kept h.cart.out gset (own_none_or (fun b e e2 => (h.off gf rfl).1 (by injection e2 with e2; rw [e]; congr 1; exact e2.symm)))
 · exact World.ownsRow.kept (h.cart.row i hi) gset (own_none_or (fun b e e2 => (h.off gf rfl).2 i hi (by injection e2 with e2; rw [e]; congr 1; exact e2.symm)))
 · have h1 := ((h.fill.stored (k * 2) (.int .i64 a)).1.stored (k * 2 + 1) (.int .i64 b)).1
   rw [bulks_set fs k a b hk] at h1
   rw [List.length_set]
   exact h1
theorem Pk.blkCart {base Bk : Nat} {ea : Option Addr} {N ecap : Nat} {M G : Int} {ov fv : Value} {rs : List RowW} {fs : List BulkV} {w w3 : World} (h : Pk base Bk ea N ecap M G ov fv rs fs w) (hg : w.grownBy w3 ov.ownBlock) : Blk w3 Bk [.slice ea N ecap, .int .i64 M, .int .i64 G, ov, fv] :=
 h.blk.keep (hg.block Bk (Nat.lt_of_lt_of_le h.lt h.sz) (fun e => by have := (h.cart.out.lt Bk e.symm).1; have := h.lt; omega))
theorem Pk.blkFill {base Bk : Nat} {ea : Option Addr} {N ecap : Nat} {M G : Int} {ov fv : Value} {rs : List RowW} {fs : List BulkV} {w w3 : World} (h : Pk base Bk ea N ecap M G ov fv rs fs w) (hg : w.grownBy w3 fv.ownBlock) : Blk w3 Bk [.slice ea N ecap, .int .i64 M, .int .i64 G, ov, fv] :=
 h.blk.keep (hg.block Bk (Nat.lt_of_lt_of_le h.lt h.sz) (fun e => by have := (h.fill.lt Bk e.symm).1; have := h.lt; omega))
theorem Pk.blkRow {base Bk : Nat} {ea : Option Addr} {N ecap : Nat} {M G : Int} {ov fv : Value} {rs : List RowW} {fs : List BulkV} {w w3 : World} {k : Nat} (h : Pk base Bk ea N ecap M G ov fv rs fs w) (hk : k < rs.length) (hg : w.grownBy w3 (rs.getD k default).v.ownBlock) : Blk w3 Bk [.slice ea N ecap, .int .i64 M, .int .i64 G, ov, fv] :=
 h.blk.keep (hg.block Bk (Nat.lt_of_lt_of_le h.lt h.sz) (fun e => by have := ((h.cart.row k hk).lt Bk e.symm).1; have := h.lt; omega))
/-- What each unit comes to, told in a block of its own. -/
def EachOk (w : World) (eb N : Nat) (xs : List ItemV) : Prop := eb < w.heap.size ∧ ∀ i : Nat, i < N → w.cell? ⟨eb, i * 2, none⟩ = some (.int .i64 (volAt xs i)) ∧ w.cell? ⟨eb, i * 2 + 1, none⟩ = some (.int .i64 (gramAt xs i))
theorem EachOk.keep {w w' : World} {eb N : Nat} {xs : List ItemV} (h : EachOk w eb N xs) (hb : w'.heap[eb]? = w.heap[eb]?) (hz : w.heap.size ≤ w'.heap.size) : EachOk w' eb N xs :=
 ⟨Nat.lt_of_lt_of_le h.1 hz, fun i hi => ⟨(World.cell?_of_block (w := w) (a := ⟨eb, i * 2, none⟩) hb).trans (h.2 i hi).1, (World.cell?_of_block (w := w) (a := ⟨eb, i * 2 + 1, none⟩) hb).trans (h.2 i hi).2⟩⟩
theorem EachOk.later {w w' : World} {eb N : Nat} {xs : List ItemV} (h : EachOk w eb N xs) (hb : Below w.heap.size w w') : EachOk w' eb N xs := h.keep (hb.block eb h.1) hb.size
theorem EachOk.fr {w w' : World} {eb N base Bk : Nat} {xs : List ItemV} (h : EachOk w eb N xs) (hf : Fr base Bk w w') (h1 : eb < base) (h2 : eb ≠ Bk) : EachOk w' eb N xs := h.keep (hf.block eb h1 h2) hf.size
def loadV (xs : List ItemV) (l : List Int) : BulkV := ⟨volOf xs l, gramOf xs l⟩
/-- A packer whose cartons are gs. -/
def PkOk (xs : List ItemV) (t : TypeV) (base Bk eb N ecap : Nat) (gs : List (List Int)) (w : World) : Prop :=
 ∃ ea oa oc fa fc n rs fs, (0 < N → ea = some ⟨eb, 0, none⟩) ∧ Pk base Bk ea N ecap (vol t.wd t.ht t.dp) t.gram (.slice oa n oc) (.slice fa n fc) rs fs w ∧ rs.length = n ∧ fs = rs.map (fun r => loadV xs r.l) ∧ rs.map RowW.l = gs ∧
  (∀ i, i < n → ∃ g c, (rs.getD i default).v = .slice (some ⟨g, 0, none⟩) (rs.getD i default).l.length c) ∧ EachOk w eb N xs ∧ eb < base ∧ eb ≠ Bk
theorem PkOk.later {xs : List ItemV} {t : TypeV} {base Bk eb N ecap : Nat} {gs : List (List Int)} {w w' : World} (h : PkOk xs t base Bk eb N ecap gs w) (hb : Below w.heap.size w w') : PkOk xs t base Bk eb N ecap gs w' := by
 obtain ⟨ea, oa, oc, fa, fc, n, rs, fs, h0, hp, h1, h2, h3, h4, h5, h6, h7⟩ := h
 exact ⟨ea, oa, oc, fa, fc, n, rs, fs, h0, hp.later hb, h1, h2, h3, h4, h5.later hb, h6, h7⟩
theorem own_formV {w : World} {base e size n m : Nat} {a : Option Addr} {c : Nat} {xs : List Value} (h : w.ownsRow base e size (.slice a m c) n xs) (hn : 0 < n) : ∃ g, a = some ⟨g, 0, none⟩ := by
 rcases h.2 with ⟨_, h0⟩ | ⟨g, cap, cur, hv, _⟩
 · omega
 · injection hv with hv; exact ⟨g, hv⟩
theorem map_l_getD (rs : List RowW) (i : Nat) (hi : i < rs.length) : (rs.map RowW.l).getD i [] = (rs.getD i default).l := by simp [List.getD_eq_getElem?_getD, hi]
theorem loads_getD (xs : List ItemV) (rs : List RowW) (i : Nat) (hi : i < rs.length) : (rs.map fun r => loadV xs r.l).getD i default = loadV xs (rs.getD i default).l := by simp [List.getD_eq_getElem?_getD, hi]
/-- A packer without cartons. -/
theorem PkOk.new {xs : List ItemV} {t : TypeV} {base Bk eb N ecap : Nat} {ea : Option Addr} {w : World} (hB : Bk < base) (hsz : base ≤ w.heap.size) (hb : Blk w Bk [.slice ea N ecap, .int .i64 (vol t.wd t.ht t.dp), .int .i64 t.gram, .slice none 0 0, .slice none 0 0]) (hea : 0 < N → ea = some ⟨eb, 0, none⟩) (hE : EachOk w eb N xs) (h1 : eb < base) (h2 : eb ≠ Bk) : PkOk xs t base Bk eb N ecap [] w :=
 ⟨ea, none, 0, none, 0, 0, [], [], hea, ⟨hB, hsz, hb, ⟨World.ownsRow_nil _ _ _ _, fun i hi => absurd hi (Nat.not_lt_zero _), fun i j b hi => absurd hi (Nat.not_lt_zero _), fun i b hi => absurd hi (Nat.not_lt_zero _)⟩, World.ownsRow_nil _ _ _ _, fun b hb => by cases hb⟩, rfl, rfl, rfl, fun i hi => absurd hi (Nat.not_lt_zero _), hE, h1, h2⟩
theorem Rd.fr {w w' : World} {base Bk : Nat} {a : Option Addr} {n : Nat} {us : List Int} (h : Rd w a n us) (hf : Fr base Bk w w') (ha : ∀ x, a = some x → x.block < base ∧ x.block ≠ Bk) : Rd w' a n us :=
 ⟨h.1, fun i hi => by
  obtain ⟨b, off, e, hc⟩ := h.2 i hi
  have := ha _ e
  exact ⟨b, off, e, (World.cell?_of_block (w := w) (a := ⟨b, off + i, none⟩) (hf.block b this.1 this.2)).trans hc⟩⟩
/-- The cartons, handed out. -/
theorem PkOk.out {xs : List ItemV} {t : TypeV} {base Bk eb N ecap : Nat} {gs : List (List Int)} {w : World} (h : PkOk xs t base Bk eb N ecap gs w) : ∃ a c rows, w.cell? ⟨Bk, 3, none⟩ = some (.slice a gs.length c) ∧ Own2A w base a c rows ∧ rows.map RowV.l = gs := by
 obtain ⟨ea, oa, oc, fa, fc, n, rs, fs, h0, hp, h1, h2, h3, h4, h5, h6, h7⟩ := h
 have hl : gs.length = n := by rw [← h3, List.length_map, h1]
 have hc := (hp.blk 3 (by simp)).1
 rw [hl]
 by_cases hn : 0 < n
 case neg =>
  have hn0 : n = 0 := by omega
  subst hn0
  obtain rfl : rs = [] := List.eq_nil_of_length_eq_zero h1
  refine ⟨oa, oc, [], hc, ?_, by rw [← h3]; rfl⟩
  have ho := hp.cart.out
  rcases ho.2 with ⟨e, _⟩ | ⟨g, cap, cur, e, r⟩
  · injection e with e1 e2 e3
    exact .inl ⟨e1, e3, rfl⟩
  · injection e with e1 e2 e3
    subst e1
    exact .inr ⟨g, rfl, ⟨ho, Rws.nil⟩⟩
 obtain ⟨go, rfl⟩ := own_formV hp.cart.out (by omega)
 have hch : ∀ i : Nat, ∃ q : RowV, i < n → (rs.getD i default).v = q.val ∧ (rs.getD i default).l = q.l := fun i => by
  by_cases hi : i < n
  · obtain ⟨g, c, e⟩ := h4 i hi
    exact ⟨⟨g, c, (rs.getD i default).l⟩, fun _ => ⟨e, rfl⟩⟩
  · exact ⟨default, fun h => absurd h hi⟩
 obtain ⟨f, hf⟩ := Classical.axiomOfChoice hch
 have hlen : ((List.range n).map f).length = n := by simp
 have hget : ∀ i, i < n → ((List.range n).map f).getD i default = f i := fun i hi => by simp [List.getD_eq_getElem?_getD, hi]
 have hval : ((List.range n).map f).map RowV.val = rs.map RowW.v := by
  apply List.ext_getElem (by simp [h1])
  intro i hi1 hi2
  have hi : i < n := by simpa using hi1
  have := (hf i hi).1
  simp [List.getD_eq_getElem?_getD, h1, hi] at this ⊢
  exact this.symm
 have hll : ((List.range n).map f).map RowV.l = gs := by
  rw [← h3]
  apply List.ext_getElem (by simp [h1])
  intro i hi1 hi2
  have hi : i < n := by simpa using hi1
  have := (hf i hi).2
  simp [List.getD_eq_getElem?_getD, h1, hi] at this ⊢
  exact this.symm
 refine ⟨_, oc, (List.range n).map f, hc, .inr ⟨go, rfl, ?_, fun i hi => ?_, fun i j hi hj e => ?_, fun i hi e => ?_⟩, hll⟩
 · rw [hlen, hval]
   have := hp.cart.out
   rw [h1] at this
   exact this
 · rw [hlen] at hi
   rw [hget i hi]
   have h9 := hp.cart.row i (by omega)
   unfold RowW.own at h9
   rw [(hf i hi).1, (hf i hi).2] at h9
   exact h9
 · rw [hlen] at hi hj
   rw [hget i hi, hget j hj] at e
   refine hp.cart.apart i j (f i).g (by omega) (by omega) (by rw [(hf i hi).1]; rfl) (by rw [(hf j hj).1, e]; rfl)
 · rw [hlen] at hi
   rw [hget i hi] at e
   exact hp.cart.far i (f i).g (by omega) (by rw [(hf i hi).1]; rfl) (by rw [e]; rfl)
end Go.Proofs.YtcblpoeeembniabGreatDoor
