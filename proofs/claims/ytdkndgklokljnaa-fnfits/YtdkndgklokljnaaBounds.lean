/- BoundsOk of the program. -/
import Derived.Test.YtdkndgklokljnaaItemOk
import Derived.Test.YtdkndgklokljnaaReq
namespace Go.Proofs.Ytdkndgklokljnaa
open Go.RowKit
set_option linter.unusedVariables false

def pairB (p : PairV) : Bool := inB p.a 0 3 && inB p.b 0 3
def TypeV.ok (t : TypeV) : Bool := typeB t.id t.wd t.ht t.dp t.tare t.gram t.cost
def ItemV.ok (t : ItemV) : Bool := itemB t.id t.wd t.ht t.dp t.gram t.cls t.cnt
def PalletV.ok (t : PalletV) : Bool := palletB t.wd t.dp t.ht t.gram
def cntSum (xs : List ItemV) : Int := (xs.map (·.cnt)).sum
def pairsB (xs : List PairV) : Bool := decide (xs.length ≤ 16) && xs.all pairB
def typesB (xs : List TypeV) : Bool := inB xs.length 1 5 && xs.all TypeV.ok
def itemsB (xs : List ItemV) : Bool := decide (xs.length ≤ 8) && (xs.all ItemV.ok && decide (cntSum xs ≤ 12))
def boundsB (r : ReqV) : Bool := inB r.way 0 1 && r.pal.ok && inB r.classes 1 4 && pairsB r.pairs && typesB r.types && inB r.master 0 999 && itemsB r.items

theorem all_step {α : Type} [Inhabited α] (f : α → Bool) (xs : List α) (k : Nat) (h : k < xs.length) (h0 : (xs.take k).all f = true) (h1 : f (xs.getD k default) = true) : (xs.take (k + 1)).all f = true := by
  rw [List.take_succ_eq_append_getElem h, List.all_append, h0]
  simpa [h] using h1
theorem all_fell {α : Type} [Inhabited α] (f : α → Bool) (xs : List α) (k : Nat) (h : k < xs.length) (h1 : f (xs.getD k default) = false) : xs.all f = false := by
  rw [List.all_eq_false]
  exact ⟨xs[k], List.getElem_mem _, by simpa [h] using h1⟩
theorem all_whole {α : Type} (f : α → Bool) (xs : List α) (k : Nat) (h : xs.length ≤ k) (h0 : (xs.take k).all f = true) : xs.all f = true := by
  rwa [List.take_of_length_le h] at h0
theorem ret_bool {a b : Bool} (h : a = b) : Ending.returned (.bool a) = .returned (.bool b) := by rw [h]
theorem pairsB_long {xs : List PairV} (h : ¬ xs.length ≤ 16) : pairsB xs = false := by simp [pairsB, h]
theorem pairsB_fell {xs : List PairV} (h : xs.all pairB = false) : pairsB xs = false := by simp [pairsB, h]
theorem pairsB_true {xs : List PairV} (h0 : xs.length ≤ 16) (h : xs.all pairB = true) : pairsB xs = true := by simp [pairsB, h, h0]
theorem typesB_long {xs : List TypeV} (h : inB xs.length 1 5 = false) : typesB xs = false := by simp [typesB, h]
theorem typesB_fell {xs : List TypeV} (h : xs.all TypeV.ok = false) : typesB xs = false := by simp [typesB, h]
theorem typesB_true {xs : List TypeV} (h0 : inB xs.length 1 5 = true) (h : xs.all TypeV.ok = true) : typesB xs = true := by simp [typesB, h, h0]
theorem itemsB_long {xs : List ItemV} (h : ¬ xs.length ≤ 8) : itemsB xs = false := by simp [itemsB, h]
theorem itemsB_fell {xs : List ItemV} (h : xs.all ItemV.ok = false) : itemsB xs = false := by simp [itemsB, h]
theorem itemsB_end {xs : List ItemV} (h0 : xs.length ≤ 8) (h : xs.all ItemV.ok = true) : itemsB xs = decide (cntSum xs ≤ 12) := by simp [itemsB, h, h0]
theorem item_cnt {q : ItemV} (h : q.ok = true) : 1 ≤ q.cnt ∧ q.cnt ≤ 6 := by
  simp only [ItemV.ok, itemB, Bool.and_eq_true] at h
  exact inB_iff.1 h.2
theorem cntSum_snoc (l : List ItemV) (x : ItemV) : cntSum (l ++ [x]) = cntSum l + x.cnt := by simp [cntSum, List.sum_append]
theorem cntSum_step (xs : List ItemV) (k : Nat) (h : k < xs.length) : cntSum (xs.take (k + 1)) = cntSum (xs.take k) + (xs.getD k default).cnt := by
  rw [List.take_succ_eq_append_getElem h, cntSum_snoc]
  simp [h]
theorem cntSum_bd (xs : List ItemV) (h : xs.all ItemV.ok = true) : 0 ≤ cntSum xs ∧ cntSum xs ≤ 6 * xs.length := by
  induction xs with
  | nil => simp [cntSum]
  | cons x r ih =>
    simp only [List.all_cons, Bool.and_eq_true] at h
    have := item_cnt h.1
    have := ih h.2
    have e : cntSum (x :: r) = x.cnt + cntSum r := by simp [cntSum]
    rw [e, List.length_cons]
    omega




end Go.Proofs.Ytdkndgklokljnaa
