/- Few groups: plain. -/
import Derived.Test.YtlakbnpinennnaaGreatDoorFewPlain
import Derived.Test.YtlakbnpinennnaaGreatDoorGroupsPlain
namespace Go.Proofs.YtlakbnpinennnaaGreatDoor
set_option linter.unusedVariables false

theorem kinds_count (p : Int → Bool) : (kinds.filter p).length = (if p 0 then 1 else 0) + (if p 1 then 1 else 0) + (if p 2 then 1 else 0) + (if p 3 then 1 else 0) := by
  unfold kinds
  cases h0 : p 0 <;> cases h1 : p 1 <;> cases h2 : p 2 <;> cases h3 : p 3 <;> simp [List.filter, h0, h1, h2, h3]
theorem present_count (xs : List ItemV) (l : List Int) (hl : l = presentL xs) : l.length = (if (0 : Int) ∈ l then 1 else 0) + (if (1 : Int) ∈ l then 1 else 0) + (if (2 : Int) ∈ l then 1 else 0) + (if (3 : Int) ∈ l then 1 else 0) := by
  have hm : ∀ c : Int, c ∈ kinds → ((xs.any fun q => q.cls == c) = true ↔ c ∈ l) := by
    intro c hc
    rw [hl, presentL_mem]
    simp [hc]
  have h := kinds_count (fun c => xs.any fun q => q.cls == c)
  rw [hl, presentL, h, ← presentL, ← hl]
  have e : ∀ c : Int, c ∈ kinds → (if (xs.any fun q => q.cls == c) = true then 1 else 0 : Nat) = if c ∈ l then 1 else 0 := fun c hc => ite_one (hm c hc)
  rw [e 0 (by decide), e 1 (by decide), e 2 (by decide), e 3 (by decide)]
theorem addTo_le (ps : List PairV) (x : Int) (gs : List (List Int)) : (addTo ps x gs).length ≤ gs.length + 1 := addTo_len ps x gs
theorem groupsTo_le (ps : List PairV) (l : List Int) (k : Nat) (hk : k < 4) : (groupsTo ps l (k + 1)).length ≤ (groupsTo ps l k).length + (if (k : Int) ∈ l then 1 else 0) := by
  rw [groupsTo_step ps l k hk, addIf]
  split
  · next h => rw [if_pos ((hasI_iff l _).1 h)]; exact addTo_len ps _ _
  · next h => rw [if_neg (fun e => h ((hasI_iff l _).2 e))]; exact Nat.le_refl _
theorem groups_le_present (r : ReqV) : (groupsR r).length ≤ (presentR r).length := by
  have e := groupsTo_four r.pairs (presentR r)
  have h0 : (groupsTo r.pairs (presentR r) 1).length ≤ (groupsTo r.pairs (presentR r) 0).length + (if (0 : Int) ∈ presentR r then 1 else 0) := groupsTo_le r.pairs (presentR r) 0 (by omega)
  have h1 : (groupsTo r.pairs (presentR r) 2).length ≤ (groupsTo r.pairs (presentR r) 1).length + (if (1 : Int) ∈ presentR r then 1 else 0) := groupsTo_le r.pairs (presentR r) 1 (by omega)
  have h2 : (groupsTo r.pairs (presentR r) 3).length ≤ (groupsTo r.pairs (presentR r) 2).length + (if (2 : Int) ∈ presentR r then 1 else 0) := groupsTo_le r.pairs (presentR r) 2 (by omega)
  have h3 : (groupsTo r.pairs (presentR r) 4).length ≤ (groupsTo r.pairs (presentR r) 3).length + (if (3 : Int) ∈ presentR r then 1 else 0) := groupsTo_le r.pairs (presentR r) 3 (by omega)
  have hp := present_count (itemsR r) (presentR r) rfl
  have hz : (groupsTo r.pairs (presentR r) 0).length = 0 := by simp [groupsTo]
  rw [groupsR, ← e]
  generalize (if (0 : Int) ∈ presentR r then 1 else 0 : Nat) = c0 at *
  generalize (if (1 : Int) ∈ presentR r then 1 else 0 : Nat) = c1 at *
  generalize (if (2 : Int) ∈ presentR r then 1 else 0 : Nat) = c2 at *
  generalize (if (3 : Int) ∈ presentR r then 1 else 0 : Nat) = c3 at *
  omega
theorem present_cons (q : ItemV) (xs : List ItemV) : (presentL (q :: xs)).length ≤ (presentL xs).length + 1 := by
  unfold presentL
  rw [kinds_count, kinds_count]
  simp only [List.any_cons, Bool.or_eq_true, beq_iff_eq]
  generalize (xs.any fun q => q.cls == 0) = b0
  generalize (xs.any fun q => q.cls == 1) = b1
  generalize (xs.any fun q => q.cls == 2) = b2
  generalize (xs.any fun q => q.cls == 3) = b3
  by_cases e0 : q.cls = 0
  · rw [e0]; cases b0 <;> cases b1 <;> cases b2 <;> cases b3 <;> simp
  by_cases e1 : q.cls = 1
  · rw [e1]; cases b0 <;> cases b1 <;> cases b2 <;> cases b3 <;> simp
  by_cases e2 : q.cls = 2
  · rw [e2]; cases b0 <;> cases b1 <;> cases b2 <;> cases b3 <;> simp
  by_cases e3 : q.cls = 3
  · rw [e3]; cases b0 <;> cases b1 <;> cases b2 <;> cases b3 <;> simp
  simp [e0, e1, e2, e3]
theorem present_le : ∀ xs : List ItemV, (presentL xs).length ≤ xs.length
  | [] => by decide
  | q :: xs => by
    have := present_cons q xs
    have := present_le xs
    simp only [List.length_cons]
    omega
theorem cnt_le : ∀ xs : List ItemV, (∀ q ∈ xs, 1 ≤ q.cnt) → (xs.length : Int) ≤ cntSum xs
  | [], _ => by simp [cntSum]
  | q :: xs, h => by
    have h1 := h q (by simp)
    have h2 := cnt_le xs (fun x hx => h x (by simp [hx]))
    simp only [cntSum, List.map_cons, List.sum_cons, List.length_cons] at h2 ⊢
    omega
theorem items_le_units {xs : List ItemV} (h : Good xs) : xs.length ≤ (unitsL xs).length := by
  have h1 := unitsTo_len xs (fun q hq => by have := item_nums (h.ok q hq); omega) xs.length (Nat.le_refl _)
  have h2 := cnt_le xs (fun q hq => by have := item_nums (h.ok q hq); omega)
  rw [List.take_length] at h1
  unfold unitsL
  omega
theorem groups_le_units (r : ReqV) : (groupsR r).length ≤ (unitsR r).length := by
  have h1 := groups_le_present r
  have h2 := present_le (itemsR r)
  have h3 := items_le_units (itemsR_good r)
  unfold presentR at h1
  unfold unitsR
  omega
theorem filter_le (p : Int → Bool) (K : Int) (h0 : 0 ≤ K) (h : ∀ c ∈ kinds, p c = true → c < K) : ((kinds.filter p).length : Int) ≤ K := by
  rw [kinds_count]
  have a0 := h 0 (by decide)
  have a1 := h 1 (by decide)
  have a2 := h 2 (by decide)
  have a3 := h 3 (by decide)
  cases b0 : p 0 <;> cases b1 : p 1 <;> cases b2 : p 2 <;> cases b3 : p 3 <;> simp only [b0, b1, b2, b3, if_true, forall_const] at a0 a1 a2 a3 ⊢ <;> simp at * <;> omega
theorem present_classes {r : ReqV} (h : classI r = 0) : ((presentR r).length : Int) ≤ r.classes := by
  obtain ⟨hb, hn, _⟩ := class_zero h
  have hc : 1 ≤ r.classes := by simp only [boundsB, Bool.and_eq_true, inB_iff] at hb; exact hb.1.1.1.1.2.1
  simp only [namesB, kindsB, Bool.and_eq_true, List.all_eq_true] at hn
  have hk := hn.2.1
  rw [presentR, itemsR_zero h, presentL]
  refine filter_le _ _ (by omega) ?_
  intro c _ hp
  rw [List.any_eq_true] at hp
  obtain ⟨q, hq, e⟩ := hp
  have e' : q.cls = c := by simpa using e
  have := hk q hq
  simp [kindItem] at this
  omega
theorem while_has (x : Int) : ∀ (gs : List (List Int)) (k : Nat), gs.any (hasI · x) = true → (gs.takeWhile fun g => ! hasI g x).length = k → hasI (gs.getD k []) x = true
  | [], _, h, _ => by simp at h
  | g :: gs, k, h, e => by
    cases hg : hasI g x
    · rw [List.takeWhile_cons_of_pos (by simp [hg]), List.length_cons] at e
      have h' : gs.any (hasI · x) = true := by simpa [hg] using h
      subst e
      rw [List.getD_cons_succ]
      exact while_has x gs _ h' rfl
    · rw [List.takeWhile_cons_of_neg (by simp [hg])] at e
      subst e
      simpa using hg
theorem groupOf_has (gs : List (List Int)) (x : Int) (k : Nat) (h : groupOfI gs x = k) : x ∈ gs.getD k [] := by
  unfold groupOfI at h
  split at h
  · next h1 => exact (hasI_iff _ _).1 (while_has x gs k h1 (by omega))
  · omega
/-- Each kind that is there has a unit in its group. -/
theorem kind_unit (r : ReqV) (c : Int) (hc : c ∈ presentR r) : ∃ k u : Nat, groupOfI (groupsR r) c = k ∧ k < (groupsR r).length ∧ (u : Int) ∈ unitsOfR r (k : Int) ∧ ((itemsR r).getD ((unitsR r).getD u 0).toNat default).cls = c := by
  have hc2 := hc
  rw [presentR, presentL_mem] at hc2
  obtain ⟨hk, q, hq, e⟩ := hc2
  obtain ⟨y, rfl, hy⟩ := kinds_lt hk
  have ht := groupOf_told r.pairs (presentR r) y hy
  have h1 : hasI (presentR r) (y : Int) = true := (hasI_iff _ _).2 hc
  rw [h1] at ht
  have h0 : 0 ≤ groupOfI (groupsL r.pairs (presentR r)) (y : Int) := by simpa using ht.1
  obtain ⟨k, hkk⟩ : ∃ k : Nat, groupOfI (groupsL r.pairs (presentR r)) (y : Int) = k := ⟨(groupOfI (groupsL r.pairs (presentR r)) (y : Int)).toNat, by omega⟩
  have hlt : k < (groupsR r).length := by have := ht.2; rw [hkk] at this; unfold groupsR; omega
  obtain ⟨i, hi, ei⟩ := List.getElem_of_mem hq
  have eg : (itemsR r).getD i default = q := by simp [List.getD_eq_getElem?_getD, hi, ei]
  have hcnt : 1 ≤ ((itemsR r).getD i default).cnt := by rw [eg]; exact (item_nums ((itemsR_good r).ok q hq)).1
  obtain ⟨u, hu, hue⟩ := unitsL_has (itemsR r) i hi hcnt
  have hcls : ((itemsR r).getD ((unitsR r).getD u 0).toNat default).cls = (y : Int) := by
    rw [unitsR, hue, Int.toNat_natCast, eg, e]
  refine ⟨k, u, hkk, hlt, ?_, hcls⟩
  rw [unitsOfR_in hlt, pickTo_mem]
  refine ⟨u, rfl, hu, ?_⟩
  rw [inGroup, ← unitsR, hcls, hasI_iff]
  -- the group of that place has it
  exact groupOf_has (groupsR r) (y : Int) k hkk
/-- What stands in a group's list: a unit. -/
theorem unitsOf_at (r : ReqV) (k : Nat) (j : Nat) (hj : j < (unitsOfR r (k : Int)).length) : ∃ u : Nat, (unitsOfR r (k : Int)).getD j 0 = u ∧ u < (unitsR r).length := by
  have hm : (unitsOfR r (k : Int)).getD j 0 ∈ unitsOfR r (k : Int) := getD_in hj
  by_cases hk : k < (groupsR r).length
  · rw [unitsOfR_in hk] at hm ⊢
    obtain ⟨u, e, h1, _⟩ := (pickTo_mem _ _ _ _).1 hm
    exact ⟨u, e, h1⟩
  · rw [unitsOfR_out (by rw [Bool.eq_false_iff]; intro e; rw [inB_iff] at e; omega)] at hj
    simp at hj
end Go.Proofs.YtlakbnpinennnaaGreatDoor
