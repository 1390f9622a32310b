/- Shelves that are being filled: what is owned while the last one takes a box. -/
import Derived.Test.YtcblpoeeembniaaShelfRoom
import Derived.Test.YtcblpoeeembniaaShelfs2
namespace Go.Proofs.Ytcblpoeeembniaa
open Go Go.RowKit
set_option linter.unusedVariables false

theorem writeRow_tail {A t v : List Value} (h : t.length = v.length) : writeRow (A ++ t) A.length v = A ++ v := by
 refine List.ext_getElem? fun m => ?_
 rw [writeRow_get _ _ _ _ (by rw [List.length_append]; omega)]
 by_cases h1 : m < A.length
 · rw [if_neg (by omega), List.getElem?_append_left h1, List.getElem?_append_left h1]
 · by_cases h2 : m < A.length + v.length
   · rw [if_pos (by omega), List.getElem?_append_right (by omega)]
   · rw [if_neg (by omega), List.getElem?_append_right (by omega), List.getElem?_append_right (by omega), List.getElem?_eq_none (by omega), List.getElem?_eq_none (by omega)]
theorem gb_writes {g : Nat} : ∀ (vs : List Value) (w0 w : World) (p : Nat), w0.grownBy w (some g) → w0.grownBy (writeCells w g p vs) (some g)
 | [], _, _, _, h => h
 | v :: vs, w0, w, p, h => gb_writes vs w0 _ _ (gb_set h p v)
theorem gb_drews {w0 w : World} {row : Option Nat} (h : w0.grownBy w row) (n : Nat) : w0.grownBy (w.drewN n) row := ⟨h.os, h.tape, h.output, h.size, h.block⟩
theorem own_drews {w : World} {base e size n : Nat} {v : Value} {xs : List Value} (h : w.ownsRow base e size v n xs) (m : Nat) : (w.drewN m).ownsRow base e size v n xs := h
theorem Rws.drews {w : World} {B g : Nat} {xs : List RowV} (h : Rws w B g xs) (n : Nat) : Rws (w.drewN n) B g xs := ⟨fun i hi => own_drews (h.row i hi) n, h.apart, h.far⟩
/-- A slice value whose block lies beside these. -/
structure Aside (w : World) (B g : Nat) (ys : List ShelfW) (lv : Value) : Prop where
 lo : ∀ b, lv.ownBlock = some b → B ≤ b
 lt : ∀ b, lv.ownBlock = some b → b < w.heap.size
 ne : ∀ b, lv.ownBlock = some b → b ≠ g
 nes : ∀ b, lv.ownBlock = some b → ∀ i, i < ys.length → (ys.getD i default).g ≠ b
theorem Aside.none (w : World) (B g : Nat) (ys : List ShelfW) : Aside w B g ys (.slice none 0 0) := ⟨fun b h => (by simp [Value.ownBlock] at h), fun b h => (by simp [Value.ownBlock] at h), fun b h => (by simp [Value.ownBlock] at h), fun b h => (by simp [Value.ownBlock] at h)⟩
theorem row_getD (ys : List ShelfW) (i : Nat) (h : i < (ys.map ShelfW.row).length) : ((ys.map ShelfW.row).getD i default).g = (ys.getD i default).g := by
 rw [ShelfW.getD_row ys i (by simpa using h)]
 rfl
theorem put_own {w w' : World} {B g q cap m : Nat} {ys : List ShelfW} {tail : List Value} {lv : Value} {s : ShelfV} {b : BoxV} {i : Int} (ho : w.ownsRow B 51 5 (.slice (some ⟨g, 0, none⟩) (ys.length + 1) cap) (ys.length + 1) (cellsShelf ys ++ tail)) (ht : tail.length = 5) (hr : Rws w B g (ys.map ShelfW.row)) (ha : Aside w B g ys lv)
 (hq : q = ys.length * 5) (hm : s.us.length = m) (hp : PutPost B g q m i lv s b w w') :
 ∃ R : ShelfW, R.car = s.add i b ∧ OwnShelf w' B g cap (ys ++ [R]) ∧ (lv.ownBlock = some R.g ∨ w.heap.size ≤ R.g) ∧ Below B w w' ∧ (∀ k j u, k < w.heap.size → k ≠ g → lv.ownBlock ≠ some k → w.cell? ⟨k, j, none⟩ = some u → w'.cell? ⟨k, j, none⟩ = some u) := by
 obtain ⟨w3, g3, c3, h3, hg, hat, hlt, rfl⟩ := hp
 obtain ⟨R, hR⟩ : ∃ R : ShelfW, R = ⟨g3, c3, s.us ++ [i], s.wd + b.wd, mx s.dp b.dp, mx s.ht b.ht, s.gram + b.gram⟩ := ⟨_, rfl⟩
 have hRc : R.cells = [.slice (some ⟨g3, 0, none⟩) (m + 1) c3, .int .i64 (s.wd + b.wd), .int .i64 (mx s.dp b.dp), .int .i64 (mx s.ht b.ht), .int .i64 (s.gram + b.gram)] := by rw [hR]; simp [ShelfW.cells, hm]
 have hRr : R.row = ⟨g3, c3, s.us ++ [i]⟩ := by rw [hR]; rfl
 have hRg : R.g = g3 := by rw [hR]
 have hga := ho.lt g rfl
 have hB := own_base ho
 have hlen := cellsShelf_len ys
 have o1 := ho.kept hg (Or.inr (fun e => ha.ne g e.symm rfl))
 have o2 := own_write R.cells w3 _ q o1
 rw [hq, ← hlen, writeRow_tail (by rw [ht, ShelfW.len]), ← cellsShelf_snoc] at o2
 have gw := gb_writes (g := g) R.cells w3 w3 q (World.grownBy.refl _ _)
 have hrl : ∀ j, j < (ys.map ShelfW.row).length → some ((ys.map ShelfW.row).getD j default).g ≠ lv.ownBlock := fun j hj e => by
  have hj' : j < ys.length := by simpa using hj
  exact ha.nes _ e.symm j hj' (row_getD ys j hj).symm
 have r3 := hr.kept hg hrl
 have r4 := r3.kept gw (fun j hj e => by have := hr.far j hj; injection e with e; exact this e)
 have hg3 : g3 ≠ g := by
  rcases hat with e | e
  · exact ha.ne g3 e
  · omega
 rw [← hRc]
 refine ⟨R, by rw [hR]; rfl, ⟨?_, ?_⟩, by rw [hRg]; exact hat, ?_, ?_⟩
 · rw [List.length_append]
   have o3 := own_drews o2 4
   rw [hlen, ← hq] at o3
   exact o3
 · rw [List.map_append]
   have hn : ∀ j, j < (ys.map ShelfW.row).length → ((ys.map ShelfW.row).getD j default).g ≠ R.row.g := fun j hj e => by
    rw [hRr] at e
    rcases hat with e2 | e2
    · exact hrl j hj (by rw [e2]; exact congrArg some e)
    · have := (hr.row j hj).lt.2
      dsimp only at e
      omega
   have hro : RowV.own (writeCells w3 g q R.cells) B R.row := by
    rw [hRr]
    refine RowV.own.kept ?_ gw (by intro e; injection e with e; exact hg3 e)
    unfold RowV.own
    dsimp only
    rw [List.length_append, hm]
    exact h3
   have h5 := r4.snoc hro hn (by rw [hRr]; exact hg3)
   exact Rws.drews h5 4
 · exact below_drewN (below_write hB R.cells _ _ q ((Below.refl B w).grown hg (by omega) (fun k hk => ha.lo k hk))) 4
 · intro k j u hk hkg hkl hc
   have h1 := (hg.cell_far ⟨k, j, none⟩ hk (fun e => hkl e.symm)).trans hc
   exact (World.cell?_drewN (w := writeCells w3 g q R.cells) (n := 4) _).trans (gw.cell h1 (by intro e; injection e with e; exact hkg e))
/-- The shelves so far, beside the order of the boxes' places. -/
structure Sv (w : World) (B gO n : Nat) (ord : List Nat) (g cap : Nat) (xs : List ShelfW) : Prop where
 own : OwnShelf w B g cap xs
 ne : gO ≠ g
 nes : ∀ i, i < xs.length → (xs.getD i default).g ≠ gO
 ord : ∀ i, i < n → w.cell? ⟨gO, i, none⟩ = some (.int .i64 ((ord.getD i 0 : Nat) : Int))
 lt : gO < w.heap.size
theorem Sv.later {w w' : World} {B gO n g cap : Nat} {ord : List Nat} {xs : List ShelfW} (h : Sv w B gO n ord g cap xs) (hb : Below w.heap.size w w') : Sv w' B gO n ord g cap xs :=
 ⟨h.own.later hb, h.ne, h.nes, fun i hi => (hb.cell (p := ⟨gO, i, none⟩) h.lt).trans (h.ord i hi), Nat.lt_of_lt_of_le h.lt hb.size⟩
def lastP (g m : Nat) : Value := if m = 0 then .pointer none else .pointer (some ⟨g, (m - 1) * 5, none⟩)
theorem lastP_zero (g : Nat) : lastP g 0 = .pointer none := rfl
theorem lastP_snoc (g : Nat) (ys : List ShelfW) (r : ShelfW) : lastP g (ys ++ [r]).length = .pointer (some ⟨g, ys.length * 5, none⟩) := by simp [lastP]
/-- The last shelf's list, its cells. -/
theorem Sv.last {w : World} {B gO n g cap : Nat} {ord : List Nat} {ys : List ShelfW} {r : ShelfW} (h : Sv w B gO n ord g cap (ys ++ [r])) :
 w.ownsRow B 51 5 (.slice (some ⟨g, 0, none⟩) (ys.length + 1) cap) (ys.length + 1) (cellsShelf ys ++ r.cells) ∧ Rws w B g (ys.map ShelfW.row) ∧ Aside w B g ys (.slice (some ⟨r.g, 0, none⟩) r.l.length r.cap) ∧ RowV.own w B r.row ∧ r.g ≠ g ∧ r.g ≠ gO := by
 have ho := h.own.out
 rw [cellsShelf_snoc, List.length_append] at ho
 have hl : ys.length < (ys ++ [r]).length := by simp
 have hg : (ys ++ [r]).getD ys.length default = r := getD_snoc_eq
 have hr := h.own.rowAt ys.length hl
 have hf := h.own.rws.far ys.length (by simp)
 have hn := h.nes ys.length hl
 rw [hg] at hr hn
 rw [ShelfW.getD_row _ _ hl, hg] at hf
 have hlt := hr.lt
 have hmap : ∀ i, i < ys.length → ((ys ++ [r]).map ShelfW.row).getD i default = (ys.map ShelfW.row).getD i default := fun i hi => by
  rw [ShelfW.getD_row _ _ (by simp; omega), ShelfW.getD_row _ _ hi, getD_snoc_lt hi]
 refine ⟨ho, ⟨fun i hi => ?_, fun i j hi hj e => ?_, fun i hi => ?_⟩, ⟨fun b e => ?_, fun b e => ?_, fun b e => ?_, fun b e i hi x => ?_⟩, hr, hf, hn⟩
 · have hi' : i < ys.length := by simpa using hi
   rw [← hmap i hi']
   exact h.own.rws.row i (by simp; omega)
 · have hi' : i < ys.length := by simpa using hi
   have hj' : j < ys.length := by simpa using hj
   rw [← hmap i hi', ← hmap j hj'] at e
   exact h.own.rws.apart i j (by simp; omega) (by simp; omega) e
 · have hi' : i < ys.length := by simpa using hi
   rw [← hmap i hi']
   exact h.own.rws.far i (by simp; omega)
 · have e' : r.g = b := by simpa [Value.ownBlock] using e
   rw [← e']; exact hlt.1
 · have e' : r.g = b := by simpa [Value.ownBlock] using e
   rw [← e']; exact hlt.2
 · have e' : r.g = b := by simpa [Value.ownBlock] using e
   rw [← e']; exact hf
 · have e' : r.g = b := by simpa [Value.ownBlock] using e
   have h1 := h.own.rws.apart i ys.length (by simp; omega) (by simp) (by
    rw [ShelfW.getD_row _ _ (by simp; omega), ShelfW.getD_row _ _ hl, getD_snoc_lt hi, hg]
    show (ys.getD i default).g = r.g
    rw [x, e'])
   omega
/-- A box has been put onto the last shelf. -/
theorem Sv.put {w w' : World} {B gO n g q cap m : Nat} {ord : List Nat} {ys : List ShelfW} {tail : List Value} {lv : Value} {s : ShelfV} {b : BoxV} {i : Int} (hne : gO ≠ g) (hnes : ∀ j, j < ys.length → (ys.getD j default).g ≠ gO) (hord : ∀ j, j < n → w.cell? ⟨gO, j, none⟩ = some (.int .i64 ((ord.getD j 0 : Nat) : Int))) (hlt : gO < w.heap.size) (hlo : lv.ownBlock ≠ some gO)
 (ho : w.ownsRow B 51 5 (.slice (some ⟨g, 0, none⟩) (ys.length + 1) cap) (ys.length + 1) (cellsShelf ys ++ tail)) (ht : tail.length = 5) (hr : Rws w B g (ys.map ShelfW.row)) (ha : Aside w B g ys lv) (hq : q = ys.length * 5) (hm : s.us.length = m) (hp : PutPost B g q m i lv s b w w') :
 ∃ R : ShelfW, R.car = s.add i b ∧ Sv w' B gO n ord g cap (ys ++ [R]) ∧ Below B w w' := by
 obtain ⟨R, h1, h2, h3, h4, h5⟩ := put_own ho ht hr ha hq hm hp
 have hRg : R.g ≠ gO := by
  rcases h3 with e | e
  · intro x; rw [x] at e; exact hlo e
  · omega
 refine ⟨R, h1, ⟨h2, hne, fun j hj => ?_, fun j hj => h5 gO j _ hlt hne hlo (hord j hj), Nat.lt_of_lt_of_le hlt h4.size⟩, h4⟩
 by_cases e : j < ys.length
 · rw [getD_snoc_lt e]; exact hnes j e
 · obtain rfl : j = ys.length := by simp at hj; omega
   rw [getD_snoc_eq]; exact hRg
/-- A new shelf stands behind all. -/
theorem Sv.push {w w3 : World} {B gO n g cap g3 : Nat} {ord : List Nat} {xs : List ShelfW} (h : Sv w B gO n ord g cap xs) (hg : w.grownBy w3 (some g)) (hat : some g = some g3 ∨ g3 = w.heap.size) :
 gO ≠ g3 ∧ (∀ j, j < xs.length → (xs.getD j default).g ≠ gO) ∧ (∀ j, j < n → w3.cell? ⟨gO, j, none⟩ = some (.int .i64 ((ord.getD j 0 : Nat) : Int))) ∧ gO < w3.heap.size ∧ Rws w3 B g3 (xs.map ShelfW.row) := by
 have hn : ∀ b, b < w.heap.size → b ≠ g → b ≠ g3 := fun b hb hne x => by
  rcases hat with y | y
  · injection y with y; exact hne (x.trans y.symm)
  · omega
 have hk := h.own.rws.kept hg (fun i hi x => h.own.rws.far i hi (by injection x))
 exact ⟨hn _ h.lt h.ne, h.nes, fun j hj => (hg.cell_far ⟨gO, j, none⟩ h.lt (fun e => h.ne (by injection e))).trans (h.ord j hj), Nat.lt_of_lt_of_le h.lt hg.size,
  ⟨hk.row, hk.apart, fun i hi => hn _ (h.own.rws.row i hi).lt.2 (h.own.rws.far i hi)⟩⟩
theorem stepS_room {p : PalletV} {bs : List BoxV} {zs : List ShelfV} {s : ShelfV} {i : Nat} (h : roomS p s (bs.getD i default) = true) : stepS p bs (zs ++ [s]) i = zs ++ [s.add (i : Int) (bs.getD i default)] := by
 have e : (zs ++ [s]).length - 1 = zs.length := by simp
 unfold stepS
 rw [e, getD_snoc_eq, if_pos ⟨by simp, h⟩]
 simp
theorem stepS_new {p : PalletV} {bs : List BoxV} {zs : List ShelfV} {s : ShelfV} {i : Nat} (h : roomS p s (bs.getD i default) = false) : stepS p bs (zs ++ [s]) i = zs ++ [s] ++ [ShelfV.zero.add (i : Int) (bs.getD i default)] := by
 have e : (zs ++ [s]).length - 1 = zs.length := by simp
 unfold stepS
 rw [e, getD_snoc_eq, if_neg (fun x => by rw [h] at x; exact absurd x.2 (by simp))]
theorem stepS_first {p : PalletV} {bs : List BoxV} {i : Nat} : stepS p bs [] i = [ShelfV.zero.add (i : Int) (bs.getD i default)] := by
 unfold stepS
 rw [if_neg (by simp)]
 rfl
end Go.Proofs.Ytcblpoeeembniaa
