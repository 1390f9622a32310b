/- What may lie beside what, in plain words: pairs, tables, groups. -/
import Derived.Test.YtlakbnpinennnaaGreatDoorStructs
namespace Go.Proofs.YtlakbnpinennnaaGreatDoor
open Go.RowKit
set_option linter.unusedVariables false

theorem take_any_step {α : Type} [Inhabited α] (xs : List α) (f : α → Bool) (k : Nat) (h : k < xs.length) : (xs.take (k + 1)).any f = ((xs.take k).any f || f (xs.getD k default)) := by
  rw [List.take_succ_eq_append_getElem h, List.any_append]
  simp [h]
theorem any_hit {α : Type} [Inhabited α] (xs : List α) (f : α → Bool) (k : Nat) (h : k < xs.length) (hf : f (xs.getD k default) = true) : xs.any f = true := by
  rw [List.any_eq_true]
  exact ⟨xs[k], List.getElem_mem h, by simpa [h] using hf⟩
theorem take_any_end {α : Type} (xs : List α) (f : α → Bool) (k : Nat) (h : xs.length ≤ k) (hf : (xs.take k).any f = false) : xs.any f = false := by
  rwa [List.take_of_length_le h] at hf
theorem take_all_step {α : Type} [Inhabited α] (xs : List α) (f : α → Bool) (k : Nat) (h : k < xs.length) : (xs.take (k + 1)).all f = ((xs.take k).all f && f (xs.getD k default)) := by
  rw [List.take_succ_eq_append_getElem h, List.all_append]
  simp [h]
theorem all_miss {α : Type} [Inhabited α] (xs : List α) (f : α → Bool) (k : Nat) (h : k < xs.length) (hf : f (xs.getD k default) = false) : xs.all f = false := by
  rw [List.all_eq_false]
  exact ⟨xs[k], List.getElem_mem h, by have := hf; simp [h] at this; simp [this]⟩
theorem take_all_end {α : Type} (xs : List α) (f : α → Bool) (k : Nat) (h : xs.length ≤ k) (hf : (xs.take k).all f = true) : xs.all f = true := by
  rwa [List.take_of_length_le h] at hf
theorem mem_getD {α : Type} [Inhabited α] (xs : List α) (k : Nat) (h : k < xs.length) : xs.getD k default ∈ xs := by
  rw [List.getD_eq_getElem?_getD, List.getElem?_eq_getElem h]
  exact List.getElem_mem _

def PairV.is (x y : Int) (q : PairV) : Bool := (q.a == x) && (q.b == y)
/-- One of the pairs is {x, y}. -/
def besB (ps : List PairV) (x y : Int) : Bool := ps.any (PairV.is x y)
theorem besB_iff (ps : List PairV) (x y : Int) : besB ps x y = true ↔ (⟨x, y⟩ : PairV) ∈ ps := by
  unfold besB PairV.is
  rw [List.any_eq_true]
  constructor
  · rintro ⟨q, hq, h⟩
    simp at h
    obtain ⟨rfl, rfl⟩ := h
    exact hq
  · intro h
    exact ⟨_, h, by simp⟩
/-- A list of numbers has it. -/
def hasI (l : List Int) (x : Int) : Bool := l.any fun y => y == x
theorem hasI_iff (l : List Int) (x : Int) : hasI l x = true ↔ x ∈ l := by
  unfold hasI
  rw [List.any_eq_true]
  constructor
  · rintro ⟨q, hq, h⟩
    simp at h
    subst h
    exact hq
  · intro h
    exact ⟨_, h, by simp⟩
/-- Beside all of a group, and they beside it. -/
def joinsB (ps : List PairV) (g : List Int) (x : Int) : Bool := g.all fun k => besB ps k x && besB ps x k
/-- Into the first group that it joins, else behind all. -/
def addTo (ps : List PairV) (x : Int) : List (List Int) → List (List Int)
  | [] => [[x]]
  | g :: gs => if joinsB ps g x then (g ++ [x]) :: gs else g :: addTo ps x gs
def addIf (ps : List PairV) (pres : List Int) (gs : List (List Int)) (x : Int) : List (List Int) := if hasI pres x then addTo ps x gs else gs
def kinds : List Int := [0, 1, 2, 3]
def groupsL (ps : List PairV) (pres : List Int) : List (List Int) := kinds.foldl (addIf ps pres) []
/-- The place of the first group that has it; -1. -/
def groupOfI (gs : List (List Int)) (x : Int) : Int := if gs.any (hasI · x) then ((gs.takeWhile fun g => ! hasI g x).length : Int) else -1
theorem groupOf_hit (gs : List (List Int)) (x : Int) (k : Nat) (h : k < gs.length) (h0 : (gs.take k).any (hasI · x) = false) (h1 : hasI (gs.getD k default) x = true) : groupOfI gs x = k := by
  unfold groupOfI
  rw [if_pos (any_hit gs (hasI · x) k h h1)]
  have e : gs = gs.take k ++ gs[k] :: gs.drop (k + 1) := by rw [← List.drop_eq_getElem_cons h, List.take_append_drop]
  have h2 : ∀ g ∈ gs.take k, (! hasI g x) = true := by
    intro g hg
    rw [List.any_eq_false] at h0
    have := h0 g hg
    simpa using this
  have h3 : hasI gs[k] x = true := by simpa [h] using h1
  have e2 : (gs.takeWhile fun g => ! hasI g x) = gs.take k := by
    conv => lhs; rw [e]
    rw [List.takeWhile_append_of_pos h2, List.takeWhile_cons_of_neg (by simp [h3])]
    simp
  rw [e2, List.length_take]
  congr 1
  omega
theorem groupOf_none (gs : List (List Int)) (x : Int) (h0 : gs.any (hasI · x) = false) : groupOfI gs x = -1 := by
  unfold groupOfI
  rw [h0]
  rfl
/-- Both ways, and each beside itself. -/
def tableRow (ps : List PairV) (c : Nat) (a : Nat) : Bool := (List.range c).all fun b => ! ((decide (a = b) && ! besB ps a a) || (besB ps a b != besB ps b a))
def tableB (ps : List PairV) (c : Int) : Bool := decide (1 ≤ c) && decide (c ≤ 4) && (List.range c.toNat).all (tableRow ps c.toNat)
def badThree (ps : List PairV) (x y z : Int) : Bool := besB ps x y && besB ps y z && ! besB ps x z
/-- Of any three of the list .. -/
def transB (ps : List PairV) (l : List Int) : Bool := l.all fun x => l.all fun y => l.all fun z => ! badThree ps x y z
def badTwo (am : List PairV) (p q : PairV) : Bool := (p.b == q.a) && ! besB am p.a q.b
def transAm (am : List PairV) : Bool := am.all fun p => am.all fun q => ! badTwo am p q
/-- The pairs among the list, each once. -/
def amStep (l : List Int) (am : List PairV) (p : PairV) : List PairV := if hasI l p.a && hasI l p.b && ! besB am p.a p.b then am ++ [p] else am
def amL (ps : List PairV) (l : List Int) : List PairV := ps.foldl (amStep l) []
theorem amStep_mem (l : List Int) (am : List PairV) (p q : PairV) : q ∈ amStep l am p ↔ q ∈ am ∨ (q = p ∧ p.a ∈ l ∧ p.b ∈ l) := by
  unfold amStep
  by_cases h1 : hasI l p.a = true
  · by_cases h2 : hasI l p.b = true
    · by_cases h3 : besB am p.a p.b = true
      · rw [if_neg (by simp [h1, h2, h3])]
        rw [besB_iff] at h3
        constructor
        · exact Or.inl
        · rintro (h | ⟨rfl, _⟩)
          · exact h
          · exact h3
      · rw [if_pos (by simp [h1, h2, h3])]
        rw [hasI_iff] at h1 h2
        rw [List.mem_append, List.mem_singleton]
        constructor
        · rintro (h | rfl)
          · exact Or.inl h
          · exact Or.inr ⟨rfl, h1, h2⟩
        · rintro (h | ⟨rfl, _⟩)
          · exact Or.inl h
          · exact Or.inr rfl
    · rw [if_neg (by simp [h2])]
      rw [hasI_iff] at h2
      constructor
      · exact Or.inl
      · rintro (h | ⟨rfl, _, h⟩)
        · exact h
        · exact absurd h h2
  · rw [if_neg (by simp [h1])]
    rw [hasI_iff] at h1
    constructor
    · exact Or.inl
    · rintro (h | ⟨rfl, h, _⟩)
      · exact h
      · exact absurd h h1
theorem amFold_mem (l : List Int) (q : PairV) : ∀ (ps am : List PairV), q ∈ ps.foldl (amStep l) am ↔ q ∈ am ∨ (q ∈ ps ∧ q.a ∈ l ∧ q.b ∈ l)
  | [], am => by simp
  | p :: ps, am => by
    rw [List.foldl_cons, amFold_mem l q ps, amStep_mem, List.mem_cons]
    constructor
    · rintro ((h | ⟨rfl, h⟩) | h)
      · exact Or.inl h
      · exact Or.inr ⟨Or.inl rfl, h⟩
      · exact Or.inr ⟨Or.inr h.1, h.2⟩
    · rintro (h | ⟨h | h, h2⟩)
      · exact Or.inl (Or.inl h)
      · subst h; exact Or.inl (Or.inr ⟨rfl, h2⟩)
      · exact Or.inr ⟨h, h2⟩
theorem amL_mem (ps : List PairV) (l : List Int) (q : PairV) : q ∈ amL ps l ↔ q ∈ ps ∧ q.a ∈ l ∧ q.b ∈ l := by
  unfold amL
  rw [amFold_mem]
  simp
theorem trans_am (ps : List PairV) (l : List Int) : transAm (amL ps l) = transB ps l := by
  rw [Bool.eq_iff_iff]
  unfold transAm transB badTwo badThree
  simp only [List.all_eq_true, Bool.not_eq_true', Bool.and_eq_false_iff, beq_eq_false_iff_ne, ne_eq, Bool.not_eq_false']
  constructor
  · intro h x hx y hy z hz
    by_cases h1 : besB ps x y = true
    · by_cases h2 : besB ps y z = true
      · right
        have hp := (amL_mem ps l ⟨x, y⟩).2 ⟨(besB_iff _ _ _).1 h1, hx, hy⟩
        have hq := (amL_mem ps l ⟨y, z⟩).2 ⟨(besB_iff _ _ _).1 h2, hy, hz⟩
        rcases h _ hp _ hq with h3 | h3
        · exact absurd rfl h3
        · exact (besB_iff _ _ _).2 ((amL_mem ps l ⟨x, z⟩).1 ((besB_iff _ _ _).1 h3)).1
      · left; right; simpa using h2
    · left; left; simpa using h1
  · intro h p hp q hq
    by_cases e : p.b = q.a
    · right
      obtain ⟨p1, p2, p3⟩ := (amL_mem ps l p).1 hp
      obtain ⟨q1, q2, q3⟩ := (amL_mem ps l q).1 hq
      rcases h p.a p2 p.b p3 q.b q3 with (h1 | h1) | h1
      · rw [(besB_iff ps p.a p.b).2 p1] at h1; cases h1
      · rw [e, (besB_iff ps q.a q.b).2 q1] at h1; cases h1
      · exact (besB_iff _ _ _).2 ((amL_mem ps l ⟨p.a, q.b⟩).2 ⟨(besB_iff _ _ _).1 h1, p2, q3⟩)
    · left; exact e
end Go.Proofs.YtlakbnpinennnaaGreatDoor
