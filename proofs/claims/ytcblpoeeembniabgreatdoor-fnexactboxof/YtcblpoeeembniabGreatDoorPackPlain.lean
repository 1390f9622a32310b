/- Both ways of packing, plain: where a unit goes; what a search finds; what is known of what went before. -/
import Derived.Test.YtcblpoeeembniabGreatDoorUnitsPlain
import Derived.Test.YtcblpoeeembniabGreatDoorPkB
import Derived.Test.YtcblpoeeembniabGreatDoorPkD
import Derived.Test.YtcblpoeeembniabGreatDoorPkC
namespace Go.Proofs.YtcblpoeeembniabGreatDoor
open Go.RowKit
set_option linter.unusedVariables false

/-- Unit u into carton p; a new one where p is none of them. -/
def putP (gs : List (List Int)) (p : Nat) (u : Int) : List (List Int) := if p < gs.length then gs.set p (gs.getD p [] ++ [u]) else gs ++ [[u]]
theorem putP_old {gs : List (List Int)} {p : Nat} {u : Int} (h : p < gs.length) : putP gs p u = gs.set p (gs.getD p [] ++ [u]) := by rw [putP, if_pos h]
theorem putP_new {gs : List (List Int)} {u : Int} : putP gs gs.length u = gs ++ [[u]] := by rw [putP, if_neg (Nat.lt_irrefl _)]
theorem putP_len (gs : List (List Int)) (p : Nat) (u : Int) : gs.length ≤ (putP gs p u).length ∧ (putP gs p u).length ≤ gs.length + 1 := by
 unfold putP
 split <;> simp
theorem putP_tot (gs : List (List Int)) (p : Nat) (u : Int) : ((putP gs p u).map List.length).sum = (gs.map List.length).sum + 1 := by
 unfold putP
 split
 · rename_i h
   induction gs generalizing p with
   | nil => simp at h
   | cons g gs ih =>
    cases p with
    | zero => simp; omega
    | succ p => simp at h ⊢; have := ih p h; simp at this; omega
 · simp
/-- The first carton in which there is room, or the place behind all. -/
def firstPl (f : List Int → Int → Bool) (gs : List (List Int)) (u : Int) : Nat := gs.findIdx fun g => f g u
def nextPl (f : List Int → Int → Bool) (gs : List (List Int)) (u : Int) : Nat := if 0 < gs.length ∧ f (gs.getD (gs.length - 1) []) u = true then gs.length - 1 else gs.length
theorem firstPl_eq {f : List Int → Int → Bool} {gs : List (List Int)} {u : Int} {p : Nat} (hp : p ≤ gs.length) (h0 : ∀ j, j < p → f (gs.getD j []) u = false) (h1 : p < gs.length → f (gs.getD p []) u = true) : firstPl f gs u = p := by
 unfold firstPl
 induction gs generalizing p with
 | nil => simp at hp; simp [hp]
 | cons g gs ih =>
  rw [List.findIdx_cons]
  cases p with
  | zero => have := h1 (by simp); simp at this; simp [this]
  | succ p =>
   have := h0 0 (by omega)
   simp at this
   rw [this, cond_false]
   congr 1
   exact ih (by simpa using hp) (fun j hj => by simpa using h0 (j + 1) (by omega)) (fun h => by simpa using h1 (by simpa using h))
theorem firstPl_le (f : List Int → Int → Bool) (gs : List (List Int)) (u : Int) : firstPl f gs u ≤ gs.length := List.findIdx_le_length
theorem firstPl_no {f : List Int → Int → Bool} {gs : List (List Int)} {u : Int} {j : Nat} (h : j < firstPl f gs u) : f (gs.getD j []) u = false := by
 have hl : j < gs.length := Nat.lt_of_lt_of_le h (firstPl_le f gs u)
 have := List.not_of_lt_findIdx h
 simpa [List.getD_eq_getElem?_getD, hl] using this
theorem firstPl_yes {f : List Int → Int → Bool} {gs : List (List Int)} {u : Int} (h : firstPl f gs u < gs.length) : f (gs.getD (firstPl f gs u) []) u = true := by
 have h2 : (gs.findIdx fun g => f g u) < gs.length := h
 have := List.findIdx_getElem (w := h2)
 show f (gs.getD (gs.findIdx fun g => f g u) []) u = true
 simpa [List.getD_eq_getElem?_getD, h2] using this
def firstStep (f : List Int → Int → Bool) (gs : List (List Int)) (u : Int) : List (List Int) := putP gs (firstPl f gs u) u
def nextStep (f : List Int → Int → Bool) (gs : List (List Int)) (u : Int) : List (List Int) := putP gs (nextPl f gs u) u
def firstTo (f : List Int → Int → Bool) (us : List Int) (k : Nat) : List (List Int) := (us.take k).foldl (firstStep f) []
def nextTo (f : List Int → Int → Bool) (us : List Int) (k : Nat) : List (List Int) := (us.take k).foldl (nextStep f) []
theorem fold_step {α β : Type} (s : β → α → β) (b : β) (us : List α) (k : Nat) (d : α) (h : k < us.length) : (us.take (k + 1)).foldl s b = s ((us.take k).foldl s b) (us.getD k d) := by
 rw [List.take_succ_eq_append_getElem h, List.foldl_append]
 simp [List.getD_eq_getElem?_getD, h]
theorem firstTo_step (f : List Int → Int → Bool) (us : List Int) (k : Nat) (h : k < us.length) : firstTo f us (k + 1) = firstStep f (firstTo f us k) (us.getD k 0) := fold_step _ _ _ _ _ h
theorem nextTo_step (f : List Int → Int → Bool) (us : List Int) (k : Nat) (h : k < us.length) : nextTo f us (k + 1) = nextStep f (nextTo f us k) (us.getD k 0) := fold_step _ _ _ _ _ h
def tot2 (gs : List (List Int)) : Nat := (gs.map List.length).sum
theorem firstTo_tot (f : List Int → Int → Bool) (us : List Int) (k : Nat) (h : k ≤ us.length) : tot2 (firstTo f us k) = k ∧ (firstTo f us k).length ≤ k := by
 induction k with
 | zero => exact ⟨rfl, Nat.le_refl _⟩
 | succ k ih =>
  have h1 := ih (by omega)
  rw [firstTo_step f us k (by omega)]
  have h2 := putP_tot (firstTo f us k) (firstPl f (firstTo f us k) (us.getD k 0)) (us.getD k 0)
  have h3 := putP_len (firstTo f us k) (firstPl f (firstTo f us k) (us.getD k 0)) (us.getD k 0)
  unfold firstStep tot2 at *
  omega
theorem nextTo_tot (f : List Int → Int → Bool) (us : List Int) (k : Nat) (h : k ≤ us.length) : tot2 (nextTo f us k) = k ∧ (nextTo f us k).length ≤ k := by
 induction k with
 | zero => exact ⟨rfl, Nat.le_refl _⟩
 | succ k ih =>
  have h1 := ih (by omega)
  rw [nextTo_step f us k (by omega)]
  have h2 := putP_tot (nextTo f us k) (nextPl f (nextTo f us k) (us.getD k 0)) (us.getD k 0)
  have h3 := putP_len (nextTo f us k) (nextPl f (nextTo f us k) (us.getD k 0)) (us.getD k 0)
  unfold nextStep tot2 at *
  omega
theorem tot2_row (gs : List (List Int)) (i : Nat) (h : i < gs.length) : (gs.getD i []).length ≤ tot2 gs := by
 unfold tot2
 induction gs generalizing i with
 | nil => simp at h
 | cons g gs ih => cases i with
  | zero => simp
  | succ i => have := ih i (by simpa using h); simp at this ⊢; omega
/-- Where a unit went before: ahead of it there is no room for the like. -/
def FromOk (f : List Int → Int → Bool) (gs : List (List Int)) (fr : List Nat) : Prop := ∀ v : Nat, v < fr.length → fr.getD v 0 ≤ gs.length ∧ ∀ j, j < fr.getD v 0 → f (gs.getD j []) (v : Int) = false
theorem putP_get (gs : List (List Int)) (p j : Nat) (u : Int) (hj : j < gs.length) : (putP gs p u).getD j [] = if j = p then gs.getD j [] ++ [u] else gs.getD j [] := by
 unfold putP
 by_cases h : p < gs.length
 · rw [if_pos h]
   by_cases e : j = p
   · subst e; simp [List.getD_eq_getElem?_getD, hj]
   · rw [if_neg e]; simp only [List.getD_eq_getElem?_getD]; rw [List.getElem?_set_ne (fun x => e x.symm)]
 · rw [if_neg h, if_neg (by omega)]
   simp only [List.getD_eq_getElem?_getD]
   rw [List.getElem?_append_left hj]
theorem FromOk.put {f : List Int → Int → Bool} {gs : List (List Int)} {fr : List Nat} (hm : ∀ g u v, f (g ++ [u]) v = true → f g v = true) (h : FromOk f gs fr) (u : Nat) (hu : u < fr.length) : FromOk f (putP gs (firstPl f gs (u : Int)) (u : Int)) (fr.set u (firstPl f gs (u : Int))) := by
 intro v hv
 rw [List.length_set] at hv
 have hl := (putP_len gs (firstPl f gs (u : Int)) (u : Int)).1
 have mono : ∀ j, j < gs.length → f (gs.getD j []) (v : Int) = false → f ((putP gs (firstPl f gs (u : Int)) (u : Int)).getD j []) (v : Int) = false := by
  intro j hj h0
  rw [putP_get _ _ _ _ hj]
  split
  · cases e : f (gs.getD j [] ++ [(u : Int)]) (v : Int)
    · rfl
    · rw [hm _ _ _ e] at h0; exact h0
  · exact h0
 by_cases e : v = u
 · subst e
   have e1 : (fr.set v (firstPl f gs (v : Int))).getD v 0 = firstPl f gs (v : Int) := by simp [List.getD_eq_getElem?_getD, hv]
   rw [e1]
   have hle := firstPl_le f gs (v : Int)
   exact ⟨by omega, fun j hj => mono j (by omega) (firstPl_no hj)⟩
 · have e1 : (fr.set u (firstPl f gs (u : Int))).getD v 0 = fr.getD v 0 := by simp only [List.getD_eq_getElem?_getD]; rw [List.getElem?_set_ne (fun x => e x.symm)]
   rw [e1]
   have h1 := h v hv
   exact ⟨by omega, fun j hj => mono j (by omega) (h1.2 j hj)⟩
/-- What a search from place k finds. -/
def FoundAt (f : List Int → Int → Bool) (gs : List (List Int)) (u : Int) (k p : Nat) : Prop := k ≤ p ∧ p ≤ gs.length ∧ (∀ j, k ≤ j → j < p → f (gs.getD j []) u = false) ∧ (p < gs.length → f (gs.getD p []) u = true)
theorem FoundAt.first {f : List Int → Int → Bool} {gs : List (List Int)} {u : Int} {k p : Nat} (h : FoundAt f gs u k p) (h0 : ∀ j, j < k → f (gs.getD j []) u = false) : firstPl f gs u = p := by
 obtain ⟨h1, h2, h3, h4⟩ := h
 refine firstPl_eq h2 (fun j hj => ?_) h4
 by_cases e : k ≤ j
 · exact h3 j e hj
 · exact h0 j (by omega)
theorem FoundAt.next {f : List Int → Int → Bool} {gs : List (List Int)} {u : Int} {p : Nat} (h : FoundAt f gs u (gs.length - 1) p) : nextPl f gs u = p := by
 obtain ⟨h1, h2, h3, h4⟩ := h
 unfold nextPl
 by_cases e : 0 < gs.length
 · by_cases e2 : p = gs.length
   · subst e2
     have := h3 (gs.length - 1) (Nat.le_refl _) (by omega)
     rw [if_neg (by rw [this]; simp)]
   · have e3 : p = gs.length - 1 := by omega
     subst e3
     rw [if_pos ⟨e, h4 (by omega)⟩]
 · rw [if_neg (fun x => e x.1)]; omega

/-- Room in a carton of a type for a unit more. -/
def roomB (xs : List ItemV) (t : TypeV) (g : List Int) (u : Int) : Bool := decide (volOf xs g + volAt xs u ≤ vol t.wd t.ht t.dp) && decide (gramOf xs g + gramAt xs u ≤ t.gram)
theorem volOf_snoc (xs : List ItemV) (g : List Int) (u : Int) : volOf xs (g ++ [u]) = volOf xs g + volAt xs u := by simp [volOf]
theorem gramOf_snoc (xs : List ItemV) (g : List Int) (u : Int) : gramOf xs (g ++ [u]) = gramOf xs g + gramAt xs u := by simp [gramOf]
theorem roomB_of (xs : List ItemV) (t : TypeV) (us : List Int) (u : Int) : (decide (volOf xs us + volOf xs [u] ≤ vol t.wd t.ht t.dp) && decide (gramOf xs us + gramOf xs [u] ≤ t.gram)) = roomB xs t us u := by
 have e1 : volOf xs [u] = volAt xs u := by simp [volOf]
 have e2 : gramOf xs [u] = gramAt xs u := by simp [gramOf]
 rw [e1, e2]; rfl
theorem roomB_snoc (xs : List ItemV) (t : TypeV) (us : List Int) (u : Int) : (decide (volOf xs (us ++ [u]) ≤ vol t.wd t.ht t.dp) && decide (gramOf xs (us ++ [u]) ≤ t.gram)) = roomB xs t us u := by
 rw [volOf_snoc, gramOf_snoc]; rfl
theorem roomB_less {xs : List ItemV} {t : TypeV} (hg : ∀ q ∈ xs, 1 ≤ q.gram ∧ q.gram ≤ 100000) (g : List Int) (u v : Int) (h : roomB xs t (g ++ [u]) v = true) : roomB xs t g v = true := by
 unfold roomB at *
 rw [volOf_snoc, gramOf_snoc] at h
 have h1 := (volAt_bd xs u).1
 have h2 := (gramAt_bd xs hg u).1
 simp only [Bool.and_eq_true, decide_eq_true_eq] at h ⊢
 omega
theorem volOf_bd (xs : List ItemV) (g : List Int) (n : Nat) (hn : g.length ≤ n) : 0 ≤ volOf xs g ∧ volOf xs g ≤ 8000000000 * n := by
 have h := sum_bd (volAt xs) 8000000000 (volAt_bd xs) g
 have : volOf xs g = (g.map (volAt xs)).sum := rfl
 omega
theorem gramOf_bd (xs : List ItemV) (hg : ∀ q ∈ xs, 1 ≤ q.gram ∧ q.gram ≤ 100000) (g : List Int) (n : Nat) (hn : g.length ≤ n) : 0 ≤ gramOf xs g ∧ gramOf xs g ≤ 100000 * n := by
 have h := sum_bd (gramAt xs) 100000 (gramAt_bd xs hg) g
 have : gramOf xs g = (g.map (gramAt xs)).sum := rfl
 omega
/-- The units that are there. -/
def knownB (xs : List ItemV) (u : Int) : Bool := inB u 0 (((unitsL xs).length : Int) - 1)
def knownTo (xs : List ItemV) (us : List Int) (k : Nat) : List Int := (us.take k).filter (knownB xs)
def knownL (xs : List ItemV) (us : List Int) : List Int := us.filter (knownB xs)
theorem knownTo_hit {xs : List ItemV} {us : List Int} {k : Nat} (hk : k < us.length) (h : knownB xs (us.getD k 0) = true) : knownTo xs us (k + 1) = knownTo xs us k ++ [us.getD k 0] := by
 have e : us.getD k 0 = us[k] := by simp [List.getD_eq_getElem?_getD, hk]
 rw [e] at h ⊢
 rw [knownTo, List.take_succ_eq_append_getElem hk, List.filter_append, List.filter_cons_of_pos h]; rfl
theorem knownTo_miss {xs : List ItemV} {us : List Int} {k : Nat} (hk : k < us.length) (h : knownB xs (us.getD k 0) = false) : knownTo xs us (k + 1) = knownTo xs us k := by
 have e : us.getD k 0 = us[k] := by simp [List.getD_eq_getElem?_getD, hk]
 rw [e] at h
 rw [knownTo, List.take_succ_eq_append_getElem hk, List.filter_append, List.filter_cons_of_neg (by simp [h])]; simp [knownTo]
theorem knownTo_all {xs : List ItemV} {us : List Int} {k : Nat} (hk : us.length ≤ k) : knownTo xs us k = knownL xs us := by rw [knownTo, List.take_of_length_le hk]; rfl
theorem knownTo_len (xs : List ItemV) (us : List Int) (k : Nat) : (knownTo xs us k).length ≤ k ∧ (knownTo xs us k).length ≤ us.length := by
 have h1 := List.length_filter_le (knownB xs) (us.take k)
 rw [List.length_take] at h1
 unfold knownTo
 omega
theorem knownL_len (xs : List ItemV) (us : List Int) : (knownL xs us).length ≤ us.length := List.length_filter_le _ _
theorem knownL_mem {xs : List ItemV} {us : List Int} {u : Int} (h : u ∈ knownL xs us) : ∃ v : Nat, u = v ∧ v < (unitsL xs).length := by
 have h1 := (List.mem_filter.1 h).2
 unfold knownB at h1
 rw [inB_iff] at h1
 exact ⟨u.toNat, by omega, by omega⟩
theorem knownL_at {xs : List ItemV} {us : List Int} {k : Nat} (hk : k < (knownL xs us).length) : ∃ v : Nat, (knownL xs us).getD k 0 = v ∧ v < (unitsL xs).length :=
 knownL_mem (us := us) (by rw [List.getD_eq_getElem?_getD, List.getElem?_eq_getElem hk]; exact List.getElem_mem _)
theorem knownL_nil (us : List Int) : knownL [] us = [] := by
 unfold knownL
 rw [List.filter_eq_nil_iff]
 intro u _ h
 have e : (unitsL ([] : List ItemV)).length = 0 := rfl
 rw [knownB, e, inB_iff] at h
 omega
/-- The greatest first; of equal ones as they stand. -/
def sortedU (xs : List ItemV) (us : List Int) : List Int := (sortP (us.map (volAt xs)) true (List.range us.length)).map fun p => us.getD p 0
def placesU (xs : List ItemV) (us : List Int) : List Nat := sortP (us.map (volAt xs)) true (List.range us.length)
theorem placesU_len (xs : List ItemV) (us : List Int) : (placesU xs us).length = us.length := by
 have := (sortP_perm (us.map (volAt xs)) true (List.range us.length)).length_eq
 rw [List.length_range] at this
 exact this
theorem placesU_lt {xs : List ItemV} {us : List Int} {k : Nat} (h : k < us.length) : (placesU xs us).getD k 0 < us.length := by
 have hk : k < (placesU xs us).length := by rw [placesU_len]; exact h
 have hm : (placesU xs us).getD k 0 ∈ placesU xs us := by rw [List.getD_eq_getElem?_getD, List.getElem?_eq_getElem hk]; exact List.getElem_mem _
 exact List.mem_range.1 ((sortP_perm (us.map (volAt xs)) true (List.range us.length)).mem_iff.1 hm)
theorem sortedU_len (xs : List ItemV) (us : List Int) : (sortedU xs us).length = us.length := by rw [sortedU, List.length_map]; exact placesU_len xs us
theorem sortedU_at {xs : List ItemV} {us : List Int} {k : Nat} (h : k < us.length) : (sortedU xs us).getD k 0 = us.getD ((placesU xs us).getD k 0) 0 := by
 have hk : k < (placesU xs us).length := by rw [placesU_len]; exact h
 show ((placesU xs us).map fun p => us.getD p 0).getD k 0 = _
 simp [List.getD_eq_getElem?_getD, hk]
theorem sortedU_take {xs : List ItemV} {us : List Int} {k : Nat} (h : k < us.length) : (sortedU xs us).take (k + 1) = (sortedU xs us).take k ++ [us.getD ((placesU xs us).getD k 0) 0] := by
 have hk : k < (sortedU xs us).length := by rw [sortedU_len]; exact h
 rw [List.take_succ_eq_append_getElem hk, ← sortedU_at h]
 simp [List.getD_eq_getElem?_getD, hk]
/-- The cartons of an order's units. -/
def nextR (r : ReqV) (us : List Int) : List (List Int) := nextTo (roomB (itemsR r) (masterV r)) (knownL (itemsR r) us) (knownL (itemsR r) us).length
def firstR (r : ReqV) (us : List Int) : List (List Int) := firstTo (roomB (itemsR r) (masterV r)) (sortedU (itemsR r) (knownL (itemsR r) us)) (knownL (itemsR r) us).length
def packR (r : ReqV) (us : List Int) : List (List Int) := if r.way = 1 then nextR r us else firstR r us
def roomR (r : ReqV) (us : List Int) (u : Int) : Bool := decide (classI r = 0) && roomB (itemsR r) (masterV r) us u
theorem nextR_not {r : ReqV} (h : ¬ classI r = 0) (us : List Int) : nextR r us = [] := by rw [nextR, itemsR_not h, knownL_nil]; rfl
theorem firstR_not {r : ReqV} (h : ¬ classI r = 0) (us : List Int) : firstR r us = [] := by rw [firstR, itemsR_not h, knownL_nil]; rfl
theorem packR_not {r : ReqV} (h : ¬ classI r = 0) (us : List Int) : packR r us = [] := by unfold packR; split; exact nextR_not h us; exact firstR_not h us
theorem nextR_tot (r : ReqV) (us : List Int) : tot2 (nextR r us) ≤ us.length ∧ (nextR r us).length ≤ us.length := by
 have h1 := nextTo_tot (roomB (itemsR r) (masterV r)) (knownL (itemsR r) us) (knownL (itemsR r) us).length (Nat.le_refl _)
 have h2 := knownL_len (itemsR r) us
 unfold nextR
 omega
theorem firstR_tot (r : ReqV) (us : List Int) : tot2 (firstR r us) ≤ us.length ∧ (firstR r us).length ≤ us.length := by
 have h1 := firstTo_tot (roomB (itemsR r) (masterV r)) (sortedU (itemsR r) (knownL (itemsR r) us)) (knownL (itemsR r) us).length (by rw [sortedU_len]; exact Nat.le_refl _)
 have h2 := knownL_len (itemsR r) us
 unfold firstR
 omega
theorem packR_tot (r : ReqV) (us : List Int) : tot2 (packR r us) ≤ us.length ∧ (packR r us).length ≤ us.length := by unfold packR; split; exact nextR_tot r us; exact firstR_tot r us
/-- Each of these fits the type. -/
def fitB (xs : List ItemV) (t : TypeV) (u : Int) : Bool := knownB xs u && fitsB (itemAt xs u) t
def inAll (xs : List ItemV) (t : TypeV) (us : List Int) : Bool := us.all (fitB xs t)
def loadB (xs : List ItemV) (t : TypeV) (us : List Int) : Bool := decide (volOf xs us ≤ vol t.wd t.ht t.dp) && decide (gramOf xs us ≤ t.gram)
def holdsR (r : ReqV) (us : List Int) (t : TypeV) : Bool := decide (classI r = 0) && inAll (itemsR r) t us && loadB (itemsR r) t us
end Go.Proofs.YtcblpoeeembniabGreatDoor
