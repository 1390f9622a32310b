/- Boxes onto shelves, one after the other: without memory. -/
import Derived.Test.YtcblpoeeembniaaBoxes
import Derived.Test.YtcblpoeeembniaaShelfs
import Derived.Test.YtcblpoeeembniaaSortPlain
namespace Go.Proofs.Ytcblpoeeembniaa
open Go.RowKit
set_option linter.unusedVariables false

def mx (a b : Int) : Int := if a < b then b else a
def ShelfV.add (s : ShelfV) (i : Int) (b : BoxV) : ShelfV := ⟨s.us ++ [i], s.wd + b.wd, mx s.dp b.dp, mx s.ht b.ht, s.gram + b.gram⟩
def ShelfV.zero : ShelfV := ⟨[], 0, 0, 0, 0⟩
def roomS (p : PalletV) (s : ShelfV) (b : BoxV) : Bool := decide (s.wd + b.wd ≤ p.wd) && decide (s.gram + b.gram ≤ p.gram)
def stepS (p : PalletV) (bs : List BoxV) (ss : List ShelfV) (i : Nat) : List ShelfV :=
 if 0 < ss.length ∧ roomS p (ss.getD (ss.length - 1) default) (bs.getD i default) = true then ss.set (ss.length - 1) ((ss.getD (ss.length - 1) default).add (i : Int) (bs.getD i default))
 else ss ++ [ShelfV.zero.add (i : Int) (bs.getD i default)]
def shelvesTo (p : PalletV) (bs : List BoxV) (order : List Nat) : List ShelfV := order.foldl (stepS p bs) []
theorem shelvesTo_step (p : PalletV) (bs : List BoxV) (order : List Nat) (k : Nat) (h : k < order.length) : shelvesTo p bs (order.take (k + 1)) = stepS p bs (shelvesTo p bs (order.take k)) (order.getD k 0) := by
 unfold shelvesTo
 rw [List.take_succ_eq_append_getElem h, List.foldl_append]
 simp [h]
/-- What is known of a shelf. -/
structure ShelfOk (p : PalletV) (s : ShelfV) : Prop where
 w0 : 0 ≤ s.wd
 w1 : s.wd ≤ p.wd
 g0 : 0 ≤ s.gram
 g1 : s.gram ≤ p.gram
theorem box_in {p : PalletV} {b : BoxV} (h : boxB p b = true) : 1 ≤ b.wd ∧ b.wd ≤ p.wd ∧ 1 ≤ b.dp ∧ b.dp ≤ p.dp ∧ 1 ≤ b.ht ∧ b.ht ≤ p.ht ∧ 1 ≤ b.gram ∧ b.gram ≤ p.gram := by
 simp only [boxB, Bool.and_eq_true] at h
 obtain ⟨⟨⟨h1, h2⟩, h3⟩, h4⟩ := h
 have i1 := inB_iff.1 h1
 have i2 := inB_iff.1 h2
 have i3 := inB_iff.1 h3
 have i4 := inB_iff.1 h4
 omega
theorem pal_in {p : PalletV} (h : palletB p.wd p.dp p.ht p.gram = true) : p.wd ≤ 2000 ∧ p.dp ≤ 2000 ∧ p.ht ≤ 2000 ∧ p.gram ≤ 100000 := by
 simp only [palletB, sidesB, Bool.and_eq_true] at h
 obtain ⟨⟨⟨h1, h2⟩, h3⟩, h4⟩ := h
 have i1 := inB_iff.1 h1
 have i2 := inB_iff.1 h2
 have i3 := inB_iff.1 h3
 have i4 := inB_iff.1 h4
 omega
theorem room_iff {p : PalletV} {s : ShelfV} {b : BoxV} : roomS p s b = true ↔ s.wd + b.wd ≤ p.wd ∧ s.gram + b.gram ≤ p.gram := by simp [roomS]
theorem ShelfOk.add {p : PalletV} {s : ShelfV} {b : BoxV} (i : Int) (h : ShelfOk p s) (hb : boxB p b = true) (hr : roomS p s b = true) : ShelfOk p (s.add i b) := by
 obtain ⟨h1, h2⟩ := room_iff.1 hr
 have h3 := box_in hb
 exact ⟨by have := h.w0; show 0 ≤ s.wd + b.wd; omega, h1, by have := h.g0; show 0 ≤ s.gram + b.gram; omega, h2⟩
theorem ShelfOk.one {p : PalletV} {b : BoxV} (i : Int) (hb : boxB p b = true) : ShelfOk p (ShelfV.zero.add i b) := by
 have h3 := box_in hb
 exact ⟨by show 0 ≤ 0 + b.wd; omega, by show 0 + b.wd ≤ p.wd; omega, by show 0 ≤ 0 + b.gram; omega, by show 0 + b.gram ≤ p.gram; omega⟩
theorem getD_mem {α : Type} [Inhabited α] {xs : List α} {i : Nat} (h : i < xs.length) : xs.getD i default ∈ xs := by
 rw [List.getD_eq_getElem?_getD, List.getElem?_eq_getElem h]
 exact List.getElem_mem _
theorem mem_set_cases {α : Type} {xs : List α} {i : Nat} {a x : α} (h : x ∈ xs.set i a) : x ∈ xs ∨ x = a := List.mem_or_eq_of_mem_set h
theorem stepS_ok {p : PalletV} {bs : List BoxV} {ss : List ShelfV} {i : Nat} (h : ∀ s ∈ ss, ShelfOk p s) (hb : boxB p (bs.getD i default) = true) : ∀ s ∈ stepS p bs ss i, ShelfOk p s := by
 intro s hs
 unfold stepS at hs
 by_cases e : 0 < ss.length ∧ roomS p (ss.getD (ss.length - 1) default) (bs.getD i default) = true
 · rw [if_pos e] at hs
   rcases mem_set_cases hs with hs | rfl
   · exact h s hs
   · exact (h _ (getD_mem (by omega))).add _ hb e.2
 · rw [if_neg e] at hs
   rcases List.mem_append.1 hs with hs | hs
   · exact h s hs
   · simp at hs
     subst hs
     exact ShelfOk.one _ hb
theorem shelvesTo_ok {p : PalletV} {bs : List BoxV} : ∀ (order : List Nat) (ss : List ShelfV), (∀ s ∈ ss, ShelfOk p s) → (∀ i ∈ order, boxB p (bs.getD i default) = true) → ∀ s ∈ order.foldl (stepS p bs) ss, ShelfOk p s
 | [], ss, h, _ => h
 | i :: order, ss, h, hb => shelvesTo_ok order _ (stepS_ok h (hb i (by simp))) (fun j hj => hb j (by simp [hj]))
/-- There are no more shelves than boxes; together they hold as many places. -/
theorem stepS_len {p : PalletV} {bs : List BoxV} {ss : List ShelfV} {i : Nat} : (stepS p bs ss i).length ≤ ss.length + 1 := by
 unfold stepS
 split <;> simp
theorem tot_set (ss : List ShelfV) (k : Nat) (s : ShelfV) (h : k < ss.length) : totShelf (ss.set k s) + (ss.getD k default).us.length = totShelf ss + s.us.length := by
 induction ss generalizing k with
 | nil => cases h
 | cons x xs ih =>
  cases k with
  | zero => simp [totShelf]; omega
  | succ k =>
   have := ih k (by simpa using h)
   simp only [totShelf, List.set_cons_succ, List.map_cons, List.sum_cons, List.getD_cons_succ] at this ⊢
   omega
theorem stepS_tot {p : PalletV} {bs : List BoxV} {ss : List ShelfV} {i : Nat} : totShelf (stepS p bs ss i) = totShelf ss + 1 := by
 unfold stepS
 by_cases e : 0 < ss.length ∧ roomS p (ss.getD (ss.length - 1) default) (bs.getD i default) = true
 · rw [if_pos e]
   have := tot_set ss (ss.length - 1) ((ss.getD (ss.length - 1) default).add (i : Int) (bs.getD i default)) (by omega)
   have h2 : ((ss.getD (ss.length - 1) default).add (i : Int) (bs.getD i default)).us.length = (ss.getD (ss.length - 1) default).us.length + 1 := by simp [ShelfV.add]
   omega
 · rw [if_neg e]
   simp [totShelf, ShelfV.add, ShelfV.zero]
theorem shelves_size (p : PalletV) (bs : List BoxV) : ∀ (order : List Nat) (ss : List ShelfV), totShelf (order.foldl (stepS p bs) ss) = totShelf ss + order.length ∧ (order.foldl (stepS p bs) ss).length ≤ ss.length + order.length
 | [], ss => ⟨rfl, Nat.le_refl _⟩
 | i :: order, ss => by
  have h := shelves_size p bs order (stepS p bs ss i)
  have h1 := stepS_tot (p := p) (bs := bs) (ss := ss) (i := i)
  have h2 := stepS_len (p := p) (bs := bs) (ss := ss) (i := i)
  simp only [List.foldl_cons, List.length_cons]
  omega
end Go.Proofs.Ytcblpoeeembniaa
