/- Plain facts on sorting places by their keys: the order, and what one insertion does. -/
namespace Go.Proofs.Ytcblpoeeembniaa

def key (keys : List Int) (p : Nat) : Int := keys.getD p 0
/-- p's key comes ahead of q's. -/
def lts (keys : List Int) (dn : Bool) (p q : Nat) : Bool := if dn then decide (key keys q < key keys p) else decide (key keys p < key keys q)
/-- p stands ahead of q: by its key, or where the keys are equal by its place. -/
def bef (keys : List Int) (dn : Bool) (p q : Nat) : Prop := lts keys dn p q = true ∨ (lts keys dn q p = false ∧ p < q)

theorem bef_trans {keys : List Int} {dn : Bool} {p q r : Nat} (h : bef keys dn p q) (h' : bef keys dn q r) : bef keys dn p r := by
 unfold bef lts at *
 cases dn <;> simp at * <;> omega
theorem bef_irr {keys : List Int} {dn : Bool} {p : Nat} (h : bef keys dn p p) : False := by
 unfold bef lts at *
 cases dn <;> simp at *
theorem bef_total {keys : List Int} {dn : Bool} {p q : Nat} (h : p ≠ q) : bef keys dn p q ∨ bef keys dn q p := by
 unfold bef lts at *
 cases dn <;> simp at * <;> omega
theorem lts_of_bef {keys : List Int} {dn : Bool} {p q : Nat} (h : bef keys dn p q) : lts keys dn q p = false := by
 unfold bef lts at *
 cases dn <;> simp at * <;> omega
theorem bef_of_not {keys : List Int} {dn : Bool} {p q : Nat} (h : lts keys dn q p = false) (hpq : p < q) : bef keys dn p q := Or.inr ⟨h, hpq⟩
theorem not_lts_trans {keys : List Int} {dn : Bool} {x y s : Nat} (h : lts keys dn x y = false) (h' : bef keys dn s y) : lts keys dn x s = false := by
 unfold bef lts at *
 cases dn <;> simp at * <;> omega

/-- One insertion: S, then x, then R, where S and R are the two parts of what was sorted. -/
theorem ins_done {keys : List Int} {dn : Bool} {S R : List Nat} {x : Nat} (hT : (S ++ R).Pairwise (bef keys dn)) (hlt : ∀ t ∈ S ++ R, t < x) (hR : ∀ r ∈ R, lts keys dn x r = true)
 (hS : S = [] ∨ ∃ S' y, S = S' ++ [y] ∧ lts keys dn x y = false) : (S ++ x :: R).Pairwise (bef keys dn) := by
 rw [List.pairwise_append] at hT ⊢
 obtain ⟨h1, h2, h3⟩ := hT
 have hSx : ∀ s ∈ S, bef keys dn s x := by
  intro s hs
  refine bef_of_not ?_ (hlt s (List.mem_append_left _ hs))
  rcases hS with rfl | ⟨S', y, rfl, hy⟩
  · simp at hs
  · rcases List.mem_append.1 hs with hs' | hs'
    · rw [List.pairwise_append] at h1
      exact not_lts_trans hy (h1.2.2 s hs' y (by simp))
    · have : s = y := by simpa using hs'
      rw [this]; exact hy
 refine ⟨h1, ?_, ?_⟩
 · rw [List.pairwise_cons]
   exact ⟨fun r hr => Or.inl (hR r hr), h2⟩
 · intro s hs y hy
   rcases List.mem_cons.1 hy with rfl | hy
   · exact hSx s hs
   · exact h3 s hs y hy

/-- Two orders of the same places, both sorted, are one. -/
theorem sorted_unique {keys : List Int} {dn : Bool} {l l' : List Nat} (hp : l.Perm l') (h : l.Pairwise (bef keys dn)) (h' : l'.Pairwise (bef keys dn)) : l = l' := by
 refine List.Perm.eq_of_pairwise (le := bef keys dn) ?_ h h' hp
 intro a b _ _ hab hba
 exact (bef_irr (bef_trans hab hba)).elim

/-- The sorted places. -/
def sortP (keys : List Int) (dn : Bool) (ps : List Nat) : List Nat := ps.mergeSort (fun p q => lts keys dn p q || (!lts keys dn q p && decide (p ≤ q)))

theorem sortP_perm (keys : List Int) (dn : Bool) (ps : List Nat) : (sortP keys dn ps).Perm ps := List.mergeSort_perm _ _

theorem sortP_sorted (keys : List Int) (dn : Bool) (ps : List Nat) (hnd : ps.Nodup) : (sortP keys dn ps).Pairwise (bef keys dn) := by
 have h := List.pairwise_mergeSort (le := fun p q => lts keys dn p q || (!lts keys dn q p && decide (p ≤ q)))
  (fun a b c h1 h2 => by unfold lts at *; cases dn <;> simp at * <;> omega)
  (fun a b => by unfold lts at *; cases dn <;> simp at * <;> omega) ps
 have hnd' : (sortP keys dn ps).Nodup := (sortP_perm keys dn ps).nodup_iff.2 hnd
 refine List.Pairwise.imp₂ ?_ h hnd'
 intro a b hab hne
 unfold bef lts at *
 cases dn <;> simp at * <;> omega

theorem sortP_eq {keys : List Int} {dn : Bool} {ps l : List Nat} (hnd : ps.Nodup) (hp : l.Perm ps) (h : l.Pairwise (bef keys dn)) : l = sortP keys dn ps :=
 sorted_unique (hp.trans (sortP_perm keys dn ps).symm) h (sortP_sorted keys dn ps hnd)
end Go.Proofs.Ytcblpoeeembniaa
