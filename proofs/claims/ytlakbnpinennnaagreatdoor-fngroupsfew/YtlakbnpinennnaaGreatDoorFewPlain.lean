/- Each unit is in one group: plain. -/
import Derived.Test.YtlakbnpinennnaaGreatDoorGroupsOf
namespace Go.Proofs.YtlakbnpinennnaaGreatDoor
set_option linter.unusedVariables false

theorem addTo_count (ps : List PairV) (x c : Int) : ∀ gs : List (List Int), (addTo ps x gs).flatten.count c = gs.flatten.count c + [x].count c
  | [] => by simp [addTo]
  | g :: gs => by
    unfold addTo
    split
    · simp only [List.flatten_cons, List.count_append]; omega
    · simp only [List.flatten_cons, List.count_append, addTo_count ps x c gs]; omega
theorem ite_one {p q : Prop} [Decidable p] [Decidable q] (h : p ↔ q) : (if p then 1 else 0 : Nat) = if q then 1 else 0 := by
  by_cases hp : p
  · rw [if_pos hp, if_pos (h.1 hp)]
  · rw [if_neg hp, if_neg (fun hq => hp (h.2 hq))]
theorem one_same (x : Int) : [x].count x = 1 := by simp
theorem one_other {x y : Int} (h : x ≠ y) : [x].count y = 0 := List.count_eq_zero.2 (by simp; omega)
theorem groupsTo_count (ps : List PairV) (l : List Int) (c : Nat) : ∀ k, k ≤ 4 → (groupsTo ps l k).flatten.count (c : Int) = if c < k ∧ (c : Int) ∈ l then 1 else 0
  | 0, _ => by simp [groupsTo]
  | k + 1, h => by
    have ih := groupsTo_count ps l c k (by omega)
    rw [groupsTo_step ps l k (by omega), addIf]
    split
    · next hh =>
      have hk := (hasI_iff l _).1 hh
      rw [addTo_count, ih]
      by_cases e : c = k
      · subst e
        rw [one_same, if_neg (fun h => by omega), if_pos ⟨by omega, hk⟩]
      · rw [one_other (by omega), Nat.add_zero]
        exact ite_one ⟨fun h => ⟨by omega, h.2⟩, fun h => ⟨by omega, h.2⟩⟩
    · next hh =>
      rw [ih]
      refine ite_one ⟨fun h => ⟨by omega, h.2⟩, fun h => ⟨?_, h.2⟩⟩
      by_cases e : c = k
      · subst e; exact absurd ((hasI_iff l _).2 h.2) hh
      · omega
theorem groups_count (r : ReqV) (c : Nat) (hc : c < 4) (hm : (c : Int) ∈ presentR r) : (groupsR r).flatten.count (c : Int) = 1 := by
  have := groupsTo_count r.pairs (presentR r) c 4 (Nat.le_refl _)
  rw [groupsTo_four, if_pos ⟨hc, hm⟩] at this
  exact this
theorem has_count (c : Int) : ∀ gs : List (List Int), gs.flatten.count c ≤ 1 → (gs.map fun g => if hasI g c = true then 1 else 0).sum = gs.flatten.count c
  | [], _ => by simp
  | g :: gs, h => by
    rw [List.flatten_cons, List.count_append] at h
    have ih := has_count c gs (by omega)
    rw [List.map_cons, List.sum_cons, ih, List.flatten_cons, List.count_append]
    congr 1
    by_cases hm : c ∈ g
    · have h1 : 0 < g.count c := List.count_pos_iff.2 hm
      rw [if_pos ((hasI_iff g c).2 hm)]
      omega
    · have h1 : g.count c = 0 := List.count_eq_zero.2 hm
      rw [if_neg (fun e => hm ((hasI_iff g c).1 e)), h1]
theorem pickTo_count (xs : List ItemV) (g : List Int) (u : Nat) : ∀ m, (pickTo xs g m).count (u : Int) = if u < m ∧ inGroup xs g u = true then 1 else 0
  | 0 => by simp [pickTo]
  | m + 1 => by
    have ih := pickTo_count xs g u m
    cases hg : inGroup xs g m
    · rw [pickTo_miss hg, ih]
      refine ite_one ⟨fun h => ⟨by omega, h.2⟩, fun h => ⟨?_, h.2⟩⟩
      by_cases e : u = m
      · subst e; rw [hg] at h; exact absurd h.2 (by simp)
      · omega
    · rw [pickTo_hit hg, List.count_append, ih]
      by_cases e : u = m
      · subst e
        rw [one_same, if_neg (fun h => by omega), if_pos ⟨by omega, hg⟩]
      · rw [one_other (by omega), Nat.add_zero]
        exact ite_one ⟨fun h => ⟨by omega, h.2⟩, fun h => ⟨by omega, h.2⟩⟩
/-- The units of the first k groups, one group behind the other. -/
def flatTo (r : ReqV) (k : Nat) : List Int := ((List.range k).map fun j => unitsOfR r (j : Nat)).flatten
theorem flatTo_step (r : ReqV) (k : Nat) : flatTo r (k + 1) = flatTo r k ++ unitsOfR r (k : Nat) := by simp [flatTo, List.range_succ]
theorem flatTo_len (r : ReqV) : ∀ k, (flatTo r k).length ≤ 12 * k
  | 0 => by simp [flatTo]
  | k + 1 => by
    have := flatTo_len r k
    have := unitsOfR_len r (k : Nat)
    rw [flatTo_step, List.length_append]
    omega
theorem flatTo_count (r : ReqV) (u : Nat) (hu : u < (unitsR r).length) : ∀ k, k ≤ (groupsR r).length → (flatTo r k).count (u : Int) = ((((groupsR r).take k).map fun g => if hasI g ((itemsR r).getD ((unitsL (itemsR r)).getD u 0).toNat default).cls = true then 1 else 0)).sum
  | 0, _ => by simp [flatTo]
  | k + 1, h => by
    rw [flatTo_step, List.count_append, flatTo_count r u hu k (by omega), unitsOfR_in (by omega), pickTo_count, List.take_succ_eq_append_getElem (by omega), List.map_append, List.sum_append]
    congr 1
    have e : (groupsR r).getD k [] = (groupsR r)[k] := by simp [List.getD_eq_getElem?_getD, show k < (groupsR r).length by omega]
    rw [e]
    simp [inGroup, hu]
theorem class_at (r : ReqV) (u : Nat) (hu : u < (unitsR r).length) : ∃ c : Nat, ((itemsR r).getD ((unitsL (itemsR r)).getD u 0).toNat default).cls = c ∧ c < 4 ∧ (c : Int) ∈ presentR r := by
  obtain ⟨i, e, hi⟩ := unitsL_lt (itemsR r) u hu
  rw [e, Int.toNat_natCast]
  have hm : (itemsR r).getD i default ∈ itemsR r := by rw [List.getD_eq_getElem?_getD, List.getElem?_eq_getElem hi]; exact List.getElem_mem hi
  have hk := (itemsR_good r).cls _ hm
  have hn := item_nums ((itemsR_good r).ok _ hm)
  refine ⟨((itemsR r).getD i default).cls.toNat, by omega, by omega, ?_⟩
  rw [presentR, presentL_mem]
  have e2 : ((((itemsR r).getD i default).cls.toNat : Nat) : Int) = ((itemsR r).getD i default).cls := by omega
  rw [e2]
  exact ⟨hk, _, hm, rfl⟩
/-- Each unit stands once. -/
theorem flat_one (r : ReqV) (u : Nat) (hu : u < (unitsR r).length) : (flatTo r (groupsR r).length).count (u : Int) = 1 := by
  rw [flatTo_count r u hu _ (Nat.le_refl _), List.take_length]
  obtain ⟨c, hc, h4, hm⟩ := class_at r u hu
  have h1 := groups_count r c h4 hm
  rw [hc, has_count (c : Int) _ (by omega), h1]
theorem flat_mem (r : ReqV) (x : Int) : ∀ k, k ≤ (groupsR r).length → x ∈ flatTo r k → ∃ u : Nat, x = u ∧ u < (unitsR r).length
  | 0, _, h => by simp [flatTo] at h
  | k + 1, hk, h => by
    rw [flatTo_step, List.mem_append] at h
    rcases h with h | h
    · exact flat_mem r x k (by omega) h
    · rw [unitsOfR_in (by omega), pickTo_mem] at h
      obtain ⟨u, e, h1, _⟩ := h
      exact ⟨u, e, h1⟩
def rangeI (n : Nat) : List Int := (List.range n).map fun (u : Nat) => (u : Int)
theorem rangeI_step (n : Nat) : rangeI (n + 1) = rangeI n ++ [(n : Int)] := by simp [rangeI, List.range_succ]
theorem rangeI_len (n : Nat) : (rangeI n).length = n := by simp [rangeI]
theorem rangeI_mem (n : Nat) (x : Int) : x ∈ rangeI n ↔ ∃ u : Nat, x = u ∧ u < n := by
  simp only [rangeI, List.mem_map, List.mem_range]
  constructor
  · rintro ⟨u, h, rfl⟩; exact ⟨u, rfl, h⟩
  · rintro ⟨u, rfl, h⟩; exact ⟨u, h, rfl⟩
theorem rangeI_count : ∀ (n u : Nat), u < n → (rangeI n).count (u : Int) = 1
  | 0, u, h => absurd h (Nat.not_lt_zero _)
  | n + 1, u, h => by
    rw [rangeI_step, List.count_append]
    by_cases e : u = n
    · subst e
      have : (rangeI u).count (u : Int) = 0 := List.count_eq_zero.2 (fun hm => by obtain ⟨v, e, hv⟩ := (rangeI_mem u _).1 hm; omega)
      rw [this, one_same]
    · rw [rangeI_count n u (by omega), one_other (by omega)]
theorem flat_perm (r : ReqV) : (flatTo r (groupsR r).length).Perm (rangeI (unitsR r).length) := by
  rw [List.perm_iff_count]
  intro a
  by_cases h : ∃ u : Nat, a = u ∧ u < (unitsR r).length
  · obtain ⟨u, rfl, hu⟩ := h
    rw [flat_one r u hu, rangeI_count _ _ hu]
  · rw [List.count_eq_zero.2 (fun hm => h (flat_mem r a _ (Nat.le_refl _) hm)), List.count_eq_zero.2 (fun hm => h ((rangeI_mem _ a).1 hm))]
theorem perm_sum (f : Int → Int) {a b : List Int} (h : a.Perm b) : (a.map f).sum = (b.map f).sum := by
  induction h with
  | nil => rfl
  | cons x _ ih => simp [ih]
  | swap x y l => simp; omega
  | trans _ _ h1 h2 => exact h1.trans h2
theorem vol_flat (r : ReqV) : volOf (itemsR r) (flatTo r (groupsR r).length) = volOf (itemsR r) (rangeI (unitsR r).length) := perm_sum _ (flat_perm r)
theorem gram_flat (r : ReqV) : gramOf (itemsR r) (flatTo r (groupsR r).length) = gramOf (itemsR r) (rangeI (unitsR r).length) := perm_sum _ (flat_perm r)
theorem len_flat (r : ReqV) : (flatTo r (groupsR r).length).length = (unitsR r).length := by rw [(flat_perm r).length_eq, rangeI_len]
theorem vol_step (r : ReqV) (k : Nat) : volOf (itemsR r) (flatTo r (k + 1)) = volOf (itemsR r) (flatTo r k) + volOf (itemsR r) (unitsOfR r (k : Nat)) := by rw [flatTo_step, volOf, List.map_append, List.sum_append]; rfl
theorem gram_step (r : ReqV) (k : Nat) : gramOf (itemsR r) (flatTo r (k + 1)) = gramOf (itemsR r) (flatTo r k) + gramOf (itemsR r) (unitsOfR r (k : Nat)) := by rw [flatTo_step, gramOf, List.map_append, List.sum_append]; rfl
theorem vol_bd48 (xs : List ItemV) (us : List Int) (h : us.length ≤ 48) : 0 ≤ volOf xs us ∧ volOf xs us ≤ 400000000000 := by
  have := sum_bd (volAt xs) 8000000000 (volAt_bd xs) us
  unfold volOf
  omega
theorem gram_bd48 (r : ReqV) (us : List Int) (h : us.length ≤ 48) : 0 ≤ gramOf (itemsR r) us ∧ gramOf (itemsR r) us ≤ 400000000000 := by
  have := sum_bd (gramAt (itemsR r)) 100000 (gramAt_bd (itemsR r) (itemsR_good r).gram) us
  unfold gramOf
  omega
theorem units_none {r : ReqV} (h : ¬ classI r = 0) : (unitsR r).length = 0 := by rw [unitsR, itemsR_not h]; rfl
end Go.Proofs.YtlakbnpinennnaaGreatDoor
