/- What groups are like, in plain words. -/
import Derived.Test.YtlakbnpinennnaaGreatDoorPkE
import Derived.Test.YtlakbnpinennnaaGreatDoorPkI
namespace Go.Proofs.YtlakbnpinennnaaGreatDoor
open Go.RowKit
set_option linter.unusedVariables false

theorem addTo_split (ps : List PairV) (x : Int) : ∀ gs : List (List Int), (∃ k, k < gs.length ∧ joinsB ps (gs.getD k []) x = true ∧ addTo ps x gs = gs.set k (gs.getD k [] ++ [x])) ∨ ((∀ j, j < gs.length → joinsB ps (gs.getD j []) x = false) ∧ addTo ps x gs = gs ++ [[x]])
  | [] => Or.inr ⟨fun j hj => absurd hj (Nat.not_lt_zero _), rfl⟩
  | g :: gs => by
    cases hg : joinsB ps g x
    · rcases addTo_split ps x gs with ⟨k, h1, h2, h3⟩ | ⟨h1, h2⟩
      · refine Or.inl ⟨k + 1, by simpa using h1, by simpa using h2, ?_⟩
        simp [addTo, hg, h3]
      · refine Or.inr ⟨fun j hj => ?_, by simp [addTo, hg, h2]⟩
        cases j with
        | zero => simpa using hg
        | succ j => simpa using h1 j (by simpa using hj)
    · exact Or.inl ⟨0, by simp, by simpa using hg, by simp [addTo, hg]⟩
structure GInv (ps : List PairV) (l : List Int) (gs : List (List Int)) : Prop where
  ne : ∀ i, i < gs.length → 0 < (gs.getD i []).length
  mem : ∀ i, i < gs.length → ∀ x ∈ gs.getD i [], x ∈ l ∧ x ∈ kinds
  pw : ∀ i, i < gs.length → ∀ a b, a < (gs.getD i []).length → b < (gs.getD i []).length → a ≠ b → besB ps ((gs.getD i []).getD a 0) ((gs.getD i []).getD b 0) = true
  fst : ∀ i k, k < i → i < gs.length → joinsB ps (gs.getD k []) ((gs.getD i []).getD 0 0) = false
theorem joins_at {ps : List PairV} {g : List Int} {x : Int} (h : joinsB ps g x = true) (a : Nat) (ha : a < g.length) : besB ps (g.getD a 0) x = true ∧ besB ps x (g.getD a 0) = true := by
  unfold joinsB at h
  rw [List.all_eq_true] at h
  have := h (g.getD a 0) (by rw [List.getD_eq_getElem?_getD, List.getElem?_eq_getElem ha]; exact List.getElem_mem _)
  rwa [Bool.and_eq_true] at this
theorem joins_snoc {ps : List PairV} {g : List Int} {x f : Int} (h : joinsB ps g f = false) : joinsB ps (g ++ [x]) f = false := by
  unfold joinsB at h ⊢
  rw [List.all_append, h, Bool.false_and]
theorem snoc_cases {α : Type} {g : List α} {x d : α} {a : Nat} (ha : a < (g ++ [x]).length) : (a < g.length ∧ (g ++ [x]).getD a d = g.getD a d) ∨ (a = g.length ∧ (g ++ [x]).getD a d = x) := by
  rw [List.length_append, List.length_singleton] at ha
  by_cases h : a < g.length
  · exact Or.inl ⟨h, getD_snoc_lt h⟩
  · obtain rfl : a = g.length := by omega
    exact Or.inr ⟨rfl, getD_snoc_eq⟩
theorem GInv.add {ps : List PairV} {l : List Int} {gs : List (List Int)} {x : Int} (h : GInv ps l gs) (hx : x ∈ l) (hk : x ∈ kinds) : GInv ps l (addTo ps x gs) := by
  rcases addTo_split ps x gs with ⟨k, h1, h2, h3⟩ | ⟨h1, h2⟩
  · rw [h3]
    have key : ∀ i, i < (gs.set k (gs.getD k [] ++ [x])).length → i < gs.length ∧ ((i ≠ k ∧ (gs.set k (gs.getD k [] ++ [x])).getD i [] = gs.getD i []) ∨ (i = k ∧ (gs.set k (gs.getD k [] ++ [x])).getD i [] = gs.getD k [] ++ [x])) := by
      intro i hi
      rw [List.length_set] at hi
      refine ⟨hi, ?_⟩
      by_cases e : i = k
      · subst e; exact Or.inr ⟨rfl, getD_put_eq hi⟩
      · exact Or.inl ⟨e, getD_put_ne (fun h => e h.symm)⟩
    refine ⟨fun i hi => ?_, fun i hi y hy => ?_, fun i hi a b ha hb hab => ?_, fun i j hji hi => ?_⟩
    · rcases key i hi with ⟨h0, ⟨_, e⟩ | ⟨_, e⟩⟩ <;> rw [e]
      · exact h.ne i h0
      · simp
    · rcases key i hi with ⟨h0, ⟨_, e⟩ | ⟨rfl, e⟩⟩ <;> rw [e] at hy
      · exact h.mem i h0 y hy
      · rcases List.mem_append.1 hy with hy | hy
        · exact h.mem i h0 y hy
        · rw [List.mem_singleton] at hy; subst hy; exact ⟨hx, hk⟩
    · rcases key i hi with ⟨h0, ⟨_, e⟩ | ⟨rfl, e⟩⟩ <;> rw [e] at ha hb ⊢
      · exact h.pw i h0 a b ha hb hab
      · rcases snoc_cases (d := 0) ha with ⟨a1, a2⟩ | ⟨a1, a2⟩ <;> rcases snoc_cases (d := 0) hb with ⟨b1, b2⟩ | ⟨b1, b2⟩ <;> rw [a2, b2]
        · exact h.pw i h0 a b a1 b1 hab
        · exact (joins_at h2 a a1).1
        · exact (joins_at h2 b b1).2
        · omega
    · obtain ⟨hi0, ci⟩ := key i hi
      obtain ⟨hj0, cj⟩ := key j (by rw [List.length_set]; omega)
      have base := h.fst i j hji hi0
      have hhead : ((gs.set k (gs.getD k [] ++ [x])).getD i []).getD 0 0 = (gs.getD i []).getD 0 0 := by
        rcases ci with ⟨_, e⟩ | ⟨rfl, e⟩ <;> rw [e]
        exact getD_snoc_lt (h.ne i hi0)
      rw [hhead]
      rcases cj with ⟨_, e⟩ | ⟨rfl, e⟩ <;> rw [e]
      · exact base
      · exact joins_snoc base
  · rw [h2]
    refine ⟨fun i hi => ?_, fun i hi y hy => ?_, fun i hi a b ha hb hab => ?_, fun i j hji hi => ?_⟩
    · rcases snoc_cases (d := []) hi with ⟨h0, e⟩ | ⟨_, e⟩ <;> rw [e]
      · exact h.ne i h0
      · simp
    · rcases snoc_cases (d := []) hi with ⟨h0, e⟩ | ⟨_, e⟩ <;> rw [e] at hy
      · exact h.mem i h0 y hy
      · rw [List.mem_singleton] at hy; subst hy; exact ⟨hx, hk⟩
    · rcases snoc_cases (d := []) hi with ⟨h0, e⟩ | ⟨_, e⟩ <;> rw [e] at ha hb ⊢
      · exact h.pw i h0 a b ha hb hab
      · simp at ha hb; omega
    · have hj : j < gs.length := by rw [List.length_append, List.length_singleton] at hi; omega
      have ej : (gs ++ [[x]]).getD j [] = gs.getD j [] := getD_snoc_lt hj
      rw [ej]
      rcases snoc_cases (d := []) hi with ⟨h0, e⟩ | ⟨_, e⟩ <;> rw [e]
      · exact h.fst i j hji h0
      · exact h1 j hj
theorem GInv.nil {ps : List PairV} {l : List Int} : GInv ps l [] :=
  ⟨fun i hi => absurd hi (Nat.not_lt_zero _), fun i hi => absurd hi (Nat.not_lt_zero _), fun i hi => absurd hi (Nat.not_lt_zero _), fun i k _ hi => absurd hi (Nat.not_lt_zero _)⟩
theorem kinds_mem (k : Nat) (h : k < 4) : (k : Int) ∈ kinds := by
  match k, h with
  | 0, _ => decide
  | 1, _ => decide
  | 2, _ => decide
  | 3, _ => decide
theorem groupsTo_inv (ps : List PairV) (l : List Int) : ∀ k, k ≤ 4 → GInv ps l (groupsTo ps l k)
  | 0, _ => GInv.nil
  | k + 1, h => by
    rw [groupsTo_step ps l k (by omega), addIf]
    have ih := groupsTo_inv ps l k (by omega)
    split
    · next hh => exact ih.add ((hasI_iff l _).1 hh) (kinds_mem k (by omega))
    · exact ih
theorem groups_inv (ps : List PairV) (l : List Int) : GInv ps l (groupsL ps l) := groupsTo_inv ps l 4 (Nat.le_refl _)
theorem addTo_mem (ps : List PairV) (x y : Int) : ∀ gs : List (List Int), (∃ g ∈ addTo ps x gs, y ∈ g) ↔ y = x ∨ ∃ g ∈ gs, y ∈ g
  | [] => by simp [addTo]
  | g :: gs => by
    have ih := addTo_mem ps x y gs
    unfold addTo
    split
    · constructor
      · rintro ⟨q, hq, hy⟩
        rcases List.mem_cons.1 hq with rfl | hq
        · rcases List.mem_append.1 hy with hy | hy
          · exact Or.inr ⟨g, by simp, hy⟩
          · exact Or.inl (List.mem_singleton.1 hy)
        · exact Or.inr ⟨q, by simp [hq], hy⟩
      · rintro (rfl | ⟨q, hq, hy⟩)
        · exact ⟨g ++ [y], by simp, by simp⟩
        · rcases List.mem_cons.1 hq with rfl | hq
          · exact ⟨q ++ [x], by simp, by simp [hy]⟩
          · exact ⟨q, by simp [hq], hy⟩
    · constructor
      · rintro ⟨q, hq, hy⟩
        rcases List.mem_cons.1 hq with rfl | hq
        · exact Or.inr ⟨q, by simp, hy⟩
        · rcases ih.1 ⟨q, hq, hy⟩ with e | ⟨q2, h2, h3⟩
          · exact Or.inl e
          · exact Or.inr ⟨q2, by simp [h2], h3⟩
      · rintro (rfl | ⟨q, hq, hy⟩)
        · obtain ⟨q2, h2, h3⟩ := ih.2 (Or.inl rfl)
          exact ⟨q2, by simp [h2], h3⟩
        · rcases List.mem_cons.1 hq with rfl | hq
          · exact ⟨q, by simp, hy⟩
          · obtain ⟨q2, h2, h3⟩ := ih.2 (Or.inr ⟨q, hq, hy⟩)
            exact ⟨q2, by simp [h2], h3⟩
theorem groupsTo_mem (ps : List PairV) (l : List Int) (y : Nat) : ∀ k, k ≤ 4 → ((∃ g ∈ groupsTo ps l k, (y : Int) ∈ g) ↔ y < k ∧ (y : Int) ∈ l)
  | 0, _ => by simp [groupsTo]
  | k + 1, h => by
    have ih := groupsTo_mem ps l y k (by omega)
    rw [groupsTo_step ps l k (by omega), addIf]
    split
    · next hh =>
      rw [addTo_mem, ih]
      have hk := (hasI_iff l _).1 hh
      constructor
      · rintro (e | ⟨h1, h2⟩)
        · exact ⟨by omega, by rw [e]; exact hk⟩
        · exact ⟨by omega, h2⟩
      · rintro ⟨h1, h2⟩
        by_cases e : y = k
        · exact Or.inl (by omega)
        · exact Or.inr ⟨by omega, h2⟩
    · next hh =>
      rw [ih]
      constructor
      · rintro ⟨h1, h2⟩
        exact ⟨by omega, h2⟩
      · rintro ⟨h1, h2⟩
        refine ⟨?_, h2⟩
        by_cases e : y = k
        · subst e; exact absurd ((hasI_iff l _).2 h2) hh
        · omega
/-- The place that is told: there, or none. -/
theorem groupOf_told (ps : List PairV) (l : List Int) (y : Nat) (h : y < 4) : (decide (0 ≤ groupOfI (groupsL ps l) (y : Int)) = hasI l (y : Int)) ∧ groupOfI (groupsL ps l) (y : Int) < (groupsL ps l).length := by
  have hm := groupsTo_mem ps l y 4 (Nat.le_refl _)
  rw [groupsTo_four] at hm
  generalize groupsL ps l = gs at hm
  have hany : gs.any (hasI · (y : Int)) = hasI l (y : Int) := by
    rw [Bool.eq_iff_iff, List.any_eq_true, hasI_iff]
    constructor
    · rintro ⟨g, hg, hh⟩
      exact (hm.1 ⟨g, hg, (hasI_iff _ _).1 hh⟩).2
    · intro hh
      obtain ⟨g, hg, hy⟩ := hm.2 ⟨h, hh⟩
      exact ⟨g, hg, (hasI_iff _ _).2 hy⟩
  unfold groupOfI
  rw [hany]
  cases hl : hasI l (y : Int)
  · refine ⟨rfl, ?_⟩
    show (-1 : Int) < _
    omega
  · rw [if_pos rfl]
    refine ⟨decide_eq_true (by omega), ?_⟩
    rw [hl] at hany
    obtain ⟨g, hg, hh⟩ := List.any_eq_true.1 hany
    have : (gs.takeWhile fun g => ! hasI g (y : Int)).length < gs.length := by
      clear hany hm hl
      induction gs with
      | nil => cases hg
      | cons a b ih =>
        cases ha : hasI a (y : Int)
        · rw [List.takeWhile_cons_of_pos (by simp [ha])]
          rcases List.mem_cons.1 hg with rfl | hg
          · rw [hh] at ha; cases ha
          · have := ih hg
            simp only [List.length_cons]
            omega
        · rw [List.takeWhile_cons_of_neg (by simp [ha])]
          simp
    omega
theorem kinds_lt {x : Int} (h : x ∈ kinds) : ∃ k : Nat, x = k ∧ k < 4 := by
  simp [kinds] at h
  rcases h with rfl | rfl | rfl | rfl
  · exact ⟨0, rfl, by omega⟩
  · exact ⟨1, rfl, by omega⟩
  · exact ⟨2, rfl, by omega⟩
  · exact ⟨3, rfl, by omega⟩
theorem mem_at {g : List Int} {x : Int} (h : x ∈ g) : ∃ a, a < g.length ∧ g.getD a 0 = x := by
  obtain ⟨a, ha, e⟩ := List.getElem_of_mem h
  exact ⟨a, ha, by simp [List.getD_eq_getElem?_getD, ha, e]⟩
theorem getD_in {g : List Int} {a : Nat} (ha : a < g.length) : g.getD a 0 ∈ g := by
  rw [List.getD_eq_getElem?_getD, List.getElem?_eq_getElem ha]
  exact List.getElem_mem _
end Go.Proofs.YtlakbnpinennnaaGreatDoor
