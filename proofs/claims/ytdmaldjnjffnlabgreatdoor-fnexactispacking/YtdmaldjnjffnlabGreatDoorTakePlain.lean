/- Each unit taken from those that are left, plain. -/
import Derived.Test.YtdmaldjnjffnlabGreatDoorPackSt
namespace Go.Proofs.YtdmaldjnjffnlabGreatDoor
open List Go.RowKit
set_option linter.unusedVariables false
set_option linter.unusedSimpArgs false

/-- How often each place is told. -/
def oftenL (N : Nat) (us : List Int) : List Nat := (List.range N).map fun (v : Nat) => us.count (v : Int)
theorem oftenL_len (N : Nat) (us : List Int) : (oftenL N us).length = N := by simp [oftenL]
theorem oftenL_at {N : Nat} {us : List Int} {v : Nat} (h : v < N) : (oftenL N us).getD v 0 = us.count (v : Int) := by simp [oftenL, List.getD_eq_getElem?_getD, h]
theorem oftenL_put {N : Nat} {us : List Int} {v : Nat} (h : v < N) : (oftenL N us).set v (us.count (v : Int) + 1) = oftenL N (us ++ [(v : Int)]) := by
  apply List.ext_getElem (by simp [oftenL])
  intro i h1 h2
  have hi : i < N := by simpa [oftenL] using h2
  rw [List.getElem_set]
  split
  · rename_i e
    subst e
    simp [oftenL, List.count_append]
  · rename_i e
    have : ¬ ((v : Int) = (i : Int)) := by omega
    simp [oftenL, List.count_append, List.count_singleton, this]
theorem oftenL_nil (N : Nat) : oftenL N [] = List.replicate N 0 := by
  apply List.ext_getElem (by simp [oftenL])
  intro i h1 h2
  simp [oftenL]
/-- Those of a list, taken one after the other. -/
def takeL : List Nat → List Int → Option (List Nat)
  | lf, [] => some lf
  | lf, u :: cs => if 0 ≤ u ∧ u < lf.length ∧ lf.getD u.toNat 0 ≠ 0 then takeL (lf.set u.toNat (lf.getD u.toNat 0 - 1)) cs else none
theorem takeL_app : ∀ (lf : List Nat) (a b : List Int), takeL lf (a ++ b) = (takeL lf a).bind fun l => takeL l b
  | lf, [], b => rfl
  | lf, u :: a, b => by
    rw [List.cons_append, takeL, takeL]
    split
    · exact takeL_app _ a b
    · rfl
theorem takeL_some : ∀ {lf lf' : List Nat} {cs : List Int}, takeL lf cs = some lf' → lf'.length = lf.length ∧ (∀ u ∈ cs, 0 ≤ u ∧ u < lf.length) ∧ ∀ v : Nat, v < lf.length → lf.getD v 0 = lf'.getD v 0 + cs.count (v : Int)
  | lf, lf', [], h => by
    cases h
    exact ⟨rfl, (fun u hu => by cases hu), fun v _ => by simp⟩
  | lf, lf', u :: cs, h => by
    rw [takeL] at h
    split at h
    · rename_i hc
      obtain ⟨h1, h2, h3⟩ := takeL_some h
      rw [List.length_set] at h1 h2 h3
      refine ⟨h1, fun x hx => ?_, fun v hv => ?_⟩
      · rcases List.mem_cons.1 hx with rfl | hx
        · exact ⟨hc.1, hc.2.1⟩
        · exact h2 x hx
      · have h4 := h3 v hv
        rw [List.count_cons]
        by_cases e : u = (v : Int)
        · subst e
          have e1 : (lf.set ((v : Nat) : Int).toNat (lf.getD ((v : Nat) : Int).toNat 0 - 1)).getD v 0 = lf.getD v 0 - 1 := by simp [List.getD_eq_getElem?_getD, hv]
          rw [e1] at h4
          have h5 := hc.2.2
          rw [Int.toNat_natCast] at h5
          rw [if_pos (by simp)]
          omega
        · have e1 : (lf.set u.toNat (lf.getD u.toNat 0 - 1)).getD v 0 = lf.getD v 0 := by
            simp only [List.getD_eq_getElem?_getD]
            rw [List.getElem?_set_ne (by omega)]
          rw [e1] at h4
          have e2 : (u == (v : Int)) = false := by simp [e]
          rw [e2, h4]
          simp
    · cases h
theorem takeL_none : ∀ {lf : List Nat} {cs : List Int}, takeL lf cs = none → ∃ u ∈ cs, ¬ (0 ≤ u ∧ u < lf.length ∧ cs.count u ≤ lf.getD u.toNat 0)
  | lf, [], h => by cases h
  | lf, u :: cs, h => by
    rw [takeL] at h
    by_cases hc : 0 ≤ u ∧ u < lf.length ∧ lf.getD u.toNat 0 ≠ 0
    · rw [if_pos hc] at h
      obtain ⟨x, hx, hn⟩ := takeL_none h
      rw [List.length_set] at hn
      refine ⟨x, List.mem_cons_of_mem _ hx, fun h1 => hn ⟨h1.1, h1.2.1, ?_⟩⟩
      have h2 := h1.2.2
      rw [List.count_cons] at h2
      by_cases e : u = x
      · subst e
        have e1 : (lf.set u.toNat (lf.getD u.toNat 0 - 1)).getD u.toNat 0 = lf.getD u.toNat 0 - 1 := by simp [List.getD_eq_getElem?_getD, show u.toNat < lf.length by omega]
        rw [e1]
        simp at h2
        simp only [List.getD_eq_getElem?_getD]
        omega
      · have e1 : (lf.set u.toNat (lf.getD u.toNat 0 - 1)).getD x.toNat 0 = lf.getD x.toNat 0 := by
          simp only [List.getD_eq_getElem?_getD]
          rw [List.getElem?_set_ne (by omega)]
        rw [e1]
        have e2 : (u == x) = false := by simp [e]
        rw [e2] at h2
        simpa using h2
    · refine ⟨u, List.mem_cons_self, fun h1 => hc ⟨h1.1, h1.2.1, ?_⟩⟩
      have h2 := h1.2.2
      rw [List.count_cons] at h2
      simp at h2
      simp only [List.getD_eq_getElem?_getD]
      omega
/-- The same, as often. -/
theorem perm_of_counts : ∀ {fl kn : List Int}, kn.length = fl.length → (∀ x ∈ fl, fl.count x = kn.count x) → fl.Perm kn
  | [], kn, h, _ => by
    have : kn = [] := List.eq_nil_of_length_eq_zero h
    rw [this]
  | a :: fl, kn, h, hc => by
    have ha : a ∈ kn := by
      have := hc a List.mem_cons_self
      rw [List.count_cons_self] at this
      exact List.count_pos_iff.1 (by omega)
    have hp := List.perm_cons_erase ha
    refine (Perm.cons a (perm_of_counts ?_ fun x hx => ?_)).trans hp.symm
    · have := hp.length_eq
      rw [List.length_cons] at this h
      omega
    · have h1 := hc x (List.mem_cons_of_mem _ hx)
      rw [hp.count_eq x, List.count_cons, List.count_cons] at h1
      omega
theorem takeL_step_ok {lf lfk : List Nat} {cs : List Int} {k v : Nat} (h : takeL lf (cs.take k) = some lfk) (hk : k < cs.length) (hv : cs.getD k 0 = (v : Int)) (hlt : v < lfk.length) (h0 : lfk.getD v 0 ≠ 0) : takeL lf (cs.take (k + 1)) = some (lfk.set v (lfk.getD v 0 - 1)) := by
  have e : cs[k] = (v : Int) := by rw [← hv]; simp [List.getD_eq_getElem?_getD, hk]
  rw [List.take_succ_eq_append_getElem hk, takeL_app, h, e]
  show takeL lfk [(v : Int)] = _
  rw [takeL, if_pos ⟨by omega, by omega, by simpa using h0⟩]
  rfl
theorem takeL_fail {lf lfk : List Nat} {cs : List Int} {k : Nat} (h : takeL lf (cs.take k) = some lfk) (hk : k < cs.length) (hc : ¬ (0 ≤ cs.getD k 0 ∧ cs.getD k 0 < lfk.length ∧ lfk.getD (cs.getD k 0).toNat 0 ≠ 0)) : takeL lf cs = none := by
  have e : cs[k] = cs.getD k 0 := by simp [List.getD_eq_getElem?_getD, hk]
  rw [← List.take_append_drop k cs, takeL_app, h, List.drop_eq_getElem_cons hk, e]
  show takeL lfk _ = none
  rw [takeL, if_neg hc]
theorem takeL_le {lf lf' : List Nat} {cs : List Int} {B : Nat} (h : takeL lf cs = some lf') (hb : ∀ v, v < lf.length → lf.getD v 0 ≤ B) : lf'.length = lf.length ∧ ∀ v, v < lf'.length → lf'.getD v 0 ≤ B := by
  obtain ⟨h1, h2, h3⟩ := takeL_some h
  exact ⟨h1, fun v hv => by have := h3 v (by omega); have := hb v (by omega); omega⟩
theorem oftenL_le (N : Nat) (us : List Int) : ∀ v, v < (oftenL N us).length → (oftenL N us).getD v 0 ≤ us.length := fun v hv => by
  rw [oftenL_len] at hv
  rw [oftenL_at hv]
  exact List.count_le_length
/-- What is left is nothing. -/
def noneB (lf : List Nat) : Bool := lf.all fun n => decide (n = 0)
def sameB (kn fl : List Int) : Bool := decide (kn.length = fl.length) && fl.all fun x => decide (fl.count x = kn.count x)
theorem sameB_iff {kn fl : List Int} : sameB kn fl = true ↔ fl.Perm kn := by
  simp only [sameB, Bool.and_eq_true, decide_eq_true_eq, List.all_eq_true]
  constructor
  · rintro ⟨h1, h2⟩
    exact perm_of_counts h1 h2
  · intro h
    exact ⟨h.length_eq.symm, fun x _ => h.count_eq x⟩
/-- All are taken, and none is left: the same, as often. -/
theorem take_same {N : Nat} {kn fl : List Int} (hk : ∀ u ∈ kn, 0 ≤ u ∧ u < N) : (match takeL (oftenL N kn) fl with | some lf => noneB lf | none => false) = sameB kn fl := by
  cases ht : takeL (oftenL N kn) fl with
  | some lf =>
    obtain ⟨h1, h2, h3⟩ := takeL_some ht
    rw [oftenL_len] at h1 h2 h3
    apply Bool.eq_iff_iff.2
    rw [sameB_iff]
    constructor
    · intro hn
      refine List.perm_iff_count.2 fun x => ?_
      have hz : ∀ v : Nat, v < N → lf.getD v 0 = 0 := fun v hv => by
        have := List.all_eq_true.1 hn (lf.getD v 0) (by rw [List.getD_eq_getElem?_getD, List.getElem?_eq_getElem (by omega)]; exact List.getElem_mem _)
        simpa using this
      by_cases hx : 0 ≤ x ∧ x < N
      · have h4 := h3 x.toNat (by omega)
        rw [hz _ (by omega), oftenL_at (by omega), show ((x.toNat : Nat) : Int) = x by omega] at h4
        omega
      · rw [List.count_eq_zero_of_not_mem (fun h => hx (h2 x h)), List.count_eq_zero_of_not_mem (fun h => hx (hk x h))]
    · intro hp
      refine List.all_eq_true.2 fun n hn => ?_
      obtain ⟨v, hv, e⟩ := List.mem_iff_getElem.1 hn
      have h4 := h3 v (by omega)
      rw [oftenL_at (by omega), hp.count_eq] at h4
      have e2 : lf.getD v 0 = n := by simp [List.getD_eq_getElem?_getD, hv, e]
      rw [e2] at h4
      simp
      omega
  | none =>
    obtain ⟨u, hu, hn⟩ := takeL_none ht
    symm
    rw [Bool.eq_false_iff]
    intro hs
    have hp := sameB_iff.1 hs
    have h1 := hk u (hp.mem_iff.1 hu)
    refine hn ⟨h1.1, by rw [oftenL_len]; exact h1.2, ?_⟩
    rw [oftenL_at (by omega), show ((u.toNat : Nat) : Int) = u by omega, hp.count_eq]
    exact Nat.le_refl _
/-- The cartons are a packing of the units. -/
def cartonB (r : ReqV) (c : List Int) : Bool := !c.isEmpty && (decide (volOf (itemsR r) c ≤ vol (masterV r).wd (masterV r).ht (masterV r).dp) && decide (gramOf (itemsR r) c ≤ (masterV r).gram))
def packsB (r : ReqV) (us : List Int) (css : List (List Int)) : Bool := decide (classI r = 0) && (css.all (cartonB r) && sameB (knownL (itemsR r) us) css.flatten)
theorem packs_not {r : ReqV} {us : List Int} {css : List (List Int)} (h : ¬ classI r = 0) : packsB r us css = false := by simp [packsB, h]
theorem packs_carton {r : ReqV} {us : List Int} {css : List (List Int)} {k : Nat} (hk : k < css.length) (h : cartonB r (css.getD k []) = false) : packsB r us css = false := by
  have e : css.getD k [] = css[k] := by simp [List.getD_eq_getElem?_getD, hk]
  rw [e] at h
  have : css.all (cartonB r) = false := List.all_eq_false.2 ⟨css[k], List.getElem_mem hk, by simp [h]⟩
  simp [packsB, this]
theorem known_in (r : ReqV) (us : List Int) : ∀ u ∈ knownL (itemsR r) us, 0 ≤ u ∧ u < (unitsR r).length := fun u hu => by
  obtain ⟨v, rfl, hv⟩ := knownL_mem hu
  exact ⟨by omega, by have : v < (unitsR r).length := hv; omega⟩
theorem packs_none {r : ReqV} {us : List Int} {css : List (List Int)} (h : takeL (oftenL (unitsR r).length (knownL (itemsR r) us)) css.flatten = none) : packsB r us css = false := by
  have h1 := take_same (N := (unitsR r).length) (fl := css.flatten) (known_in r us)
  rw [h] at h1
  simp [packsB, ← h1]
theorem packs_some {r : ReqV} {us : List Int} {css : List (List Int)} {lf : List Nat} (hz : classI r = 0) (hc : css.all (cartonB r) = true) (h : takeL (oftenL (unitsR r).length (knownL (itemsR r) us)) css.flatten = some lf) : packsB r us css = noneB lf := by
  have h1 := take_same (N := (unitsR r).length) (fl := css.flatten) (known_in r us)
  rw [h] at h1
  simp [packsB, hz, hc, ← h1]
theorem flat_step (css : List (List Int)) (k : Nat) (h : k < css.length) : (css.take (k + 1)).flatten = (css.take k).flatten ++ css.getD k [] := by
  have e : css.getD k [] = css[k] := by simp [List.getD_eq_getElem?_getD, h]
  rw [List.take_succ_eq_append_getElem h, List.flatten_append, e]
  simp
theorem take_next {lf lfk : List Nat} {css : List (List Int)} {k : Nat} (hk : k < css.length) (h : takeL lf (css.take k).flatten = some lfk) : takeL lf (css.take (k + 1)).flatten = takeL lfk (css.getD k []) := by
  rw [flat_step css k hk, takeL_app, h]
  rfl
theorem take_stop {lf lfk : List Nat} {css : List (List Int)} {k : Nat} (hk : k < css.length) (h : takeL lf (css.take k).flatten = some lfk) (h2 : takeL lfk (css.getD k []) = none) : takeL lf css.flatten = none := by
  have h3 := take_next hk h
  rw [h2] at h3
  rw [← List.take_append_drop (k + 1) css, List.flatten_append, takeL_app, h3]
  rfl
theorem all_take (p : List Int → Bool) (css : List (List Int)) (k : Nat) (h : k < css.length) (h1 : (css.take k).all p = true) (h2 : p (css.getD k []) = true) : (css.take (k + 1)).all p = true := by
  have e : css.getD k [] = css[k] := by simp [List.getD_eq_getElem?_getD, h]
  rw [e] at h2
  rw [List.take_succ_eq_append_getElem h, List.all_append, h1]
  simp [h2]
theorem none_hit {lf : List Nat} {j : Nat} (h : j < lf.length) (h1 : lf.getD j 0 ≠ 0) : noneB lf = false := by
  refine List.all_eq_false.2 ⟨lf.getD j 0, ?_, by simpa using h1⟩
  rw [List.getD_eq_getElem?_getD, List.getElem?_eq_getElem h]
  exact List.getElem_mem h
theorem none_all {lf : List Nat} (h : ∀ j, j < lf.length → lf.getD j 0 = 0) : noneB lf = true := by
  refine List.all_eq_true.2 fun n hn => ?_
  obtain ⟨v, hv, e⟩ := List.mem_iff_getElem.1 hn
  have := h v hv
  have e2 : lf.getD v 0 = n := by simp [List.getD_eq_getElem?_getD, hv, e]
  simp
  omega
end Go.Proofs.YtdmaldjnjffnlabGreatDoor
