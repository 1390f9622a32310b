/- What is wrong with an order, plain. -/
import Derived.Test.YtlakbnpinennnaaGreatDoorBounds
import Derived.Test.YtlakbnpinennnaaGreatDoorTable
import Derived.Test.YtlakbnpinennnaaGreatDoorMaster
import Derived.Test.YtlakbnpinennnaaGreatDoorFitsPlain
namespace Go.Proofs.YtlakbnpinennnaaGreatDoor
set_option linter.unusedVariables false

def idsT (ts : List TypeV) : List Int := ts.map (·.id)
def idsI (xs : List ItemV) : List Int := xs.map (·.id)
def onceAt (l : List Int) (i : Nat) : Bool := ! hasI (l.take i) (l.getD i 0)
def onceB (l : List Int) : Bool := (List.range l.length).all (onceAt l)
def kindItem (c : Int) (x : ItemV) : Bool := decide (x.cls < c)
def kindPair (c : Int) (p : PairV) : Bool := decide (p.a < c) && decide (p.b < c)
def kindsB (r : ReqV) : Bool := r.items.all (kindItem r.classes) && r.pairs.all (kindPair r.classes)
def namesB (r : ReqV) : Bool := masterB r && onceB (idsT r.types) && onceB (idsI r.items) && kindsB r
def fitsM (t : TypeV) (x : ItemV) : Bool := fitsB x t
def unitsB (r : ReqV) : Bool := r.items.all (fitsM (masterV r))
def standsB (p : PalletV) (t : TypeV) : Bool := decide (t.wd ≤ p.wd) && decide (t.dp ≤ p.dp) && decide (t.ht ≤ p.ht) && decide (t.tare + t.gram ≤ p.gram)
def loadsB (r : ReqV) : Bool := r.types.all (standsB r.pal)
def classI (r : ReqV) : Int := if boundsB r = false then 2 else if namesB r = false then 3 else if tableB r.pairs r.classes = false then 4 else if unitsB r = false then 5 else if loadsB r = false then 6 else 0

theorem idsT_len (ts : List TypeV) : (idsT ts).length = ts.length := by simp [idsT]
theorem idsI_len (ts : List ItemV) : (idsI ts).length = ts.length := by simp [idsI]
theorem idsT_step (ts : List TypeV) (k : Nat) (h : k < ts.length) : idsT (ts.take (k + 1)) = idsT (ts.take k) ++ [(ts.getD k default).id] := by
  have hg : ts.getD k default = ts[k] := by simp [h]
  rw [List.take_succ_eq_append_getElem h, hg, idsT, List.map_append]; rfl
theorem idsI_step (ts : List ItemV) (k : Nat) (h : k < ts.length) : idsI (ts.take (k + 1)) = idsI (ts.take k) ++ [(ts.getD k default).id] := by
  have hg : ts.getD k default = ts[k] := by simp [h]
  rw [List.take_succ_eq_append_getElem h, hg, idsI, List.map_append]; rfl
theorem onceB_step (l : List Int) (k : Nat) (h0 : (List.range k).all (onceAt l) = true) (h1 : onceAt l k = true) : (List.range (k + 1)).all (onceAt l) = true := by
  rw [List.range_succ, List.all_append, h0]; simp [h1]
theorem onceB_miss (l : List Int) (k : Nat) (hk : k < l.length) (h1 : onceAt l k = false) : onceB l = false := by
  unfold onceB
  rw [List.all_eq_false]
  exact ⟨k, List.mem_range.2 hk, by simp [h1]⟩
theorem pal_nums (r : ReqV) (h : boundsB r = true) : ∀ t ∈ r.types, 0 ≤ t.tare ∧ t.tare ≤ 100000 ∧ 1 ≤ t.gram ∧ t.gram ≤ 100000 := by
  intro t ht
  simp only [boundsB, Bool.and_eq_true] at h
  have h5 := h.1.1.2
  simp only [typesB, Bool.and_eq_true, List.all_eq_true] at h5
  have := h5.2 t ht
  simp only [TypeV.ok, typeB, Bool.and_eq_true, inB_iff] at this
  omega
theorem class_bounds {r : ReqV} (h : boundsB r = false) : classI r = 2 := by simp [classI, h]
theorem class_names {r : ReqV} (h1 : boundsB r = true) (h : namesB r = false) : classI r = 3 := by simp [classI, h1, h]
theorem class_table {r : ReqV} (h1 : boundsB r = true) (h2 : namesB r = true) (h : tableB r.pairs r.classes = false) : classI r = 4 := by simp [classI, h1, h2, h]
theorem class_units {r : ReqV} (h1 : boundsB r = true) (h2 : namesB r = true) (h3 : tableB r.pairs r.classes = true) (h : unitsB r = false) : classI r = 5 := by simp [classI, h1, h2, h3, h]
theorem class_loads {r : ReqV} (h1 : boundsB r = true) (h2 : namesB r = true) (h3 : tableB r.pairs r.classes = true) (h4 : unitsB r = true) (h : loadsB r = false) : classI r = 6 := by simp [classI, h1, h2, h3, h4, h]
theorem class_none {r : ReqV} (h1 : boundsB r = true) (h2 : namesB r = true) (h3 : tableB r.pairs r.classes = true) (h4 : unitsB r = true) (h : loadsB r = true) : classI r = 0 := by simp [classI, h1, h2, h3, h4, h]
theorem bounds_lens {r : ReqV} (h : boundsB r = true) : r.pairs.length ≤ 16 ∧ r.types.length ≤ 5 ∧ r.items.length ≤ 8 := by
  simp only [boundsB, Bool.and_eq_true] at h
  have h4 := h.1.1.1.2
  have h5 := h.1.1.2
  have h7 := h.2
  simp only [pairsB, Bool.and_eq_true, decide_eq_true_eq] at h4
  simp only [typesB, Bool.and_eq_true, inB_iff] at h5
  simp only [itemsB, Bool.and_eq_true, decide_eq_true_eq] at h7
  omega
end Go.Proofs.YtlakbnpinennnaaGreatDoor
