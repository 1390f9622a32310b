/- Plain facts on merging two sorted pieces in place. -/
import Derived.Test.YtcblpoeeembniaaSortPlain
namespace Go.Proofs.Ytcblpoeeembniaa

/-- Where one place is put among sorted ones. -/
theorem put_sorted {keys : List Int} {dn : Bool} {R : List Nat} {x u : Nat} (hR : R.Pairwise (bef keys dn)) (hu : u ≤ R.length)
 (h1 : u = 0 ∨ ∃ y, R[u - 1]? = some y ∧ bef keys dn y x) (h2 : u = R.length ∨ ∃ y, R[u]? = some y ∧ bef keys dn x y) : (R.take u ++ x :: R.drop u).Pairwise (bef keys dn) := by
 have hsp : R = R.take u ++ R.drop u := (List.take_append_drop u R).symm
 have hpw : (R.take u ++ R.drop u).Pairwise (bef keys dn) := by rw [← hsp]; exact hR
 rw [List.pairwise_append] at hpw ⊢
 obtain ⟨p1, p2, p3⟩ := hpw
 have q1 : ∀ z ∈ R.take u, bef keys dn z x := by
  intro z hz
  rcases h1 with h | ⟨y, hy, hyx⟩
  · subst h; simp at hz
  · obtain ⟨i, hi, rfl⟩ := List.mem_take_iff_getElem.1 hz
    obtain ⟨hu1, hy'⟩ := List.getElem?_eq_some_iff.1 hy
    by_cases e : i = u - 1
    · subst e; rw [hy']; exact hyx
    · have := List.pairwise_iff_getElem.1 hR i (u - 1) (by omega) hu1 (by omega)
      rw [hy'] at this
      exact bef_trans this hyx
 have q2 : ∀ z ∈ R.drop u, bef keys dn x z := by
  intro z hz
  rcases h2 with h | ⟨y, hy, hyx⟩
  · subst h; simp at hz
  · obtain ⟨i, hi, rfl⟩ := List.mem_drop_iff_getElem.1 hz
    obtain ⟨hu1, hy'⟩ := List.getElem?_eq_some_iff.1 hy
    by_cases e : i = 0
    · subst e; simp only [Nat.add_zero]; rw [hy']; exact hyx
    · have := List.pairwise_iff_getElem.1 hR u (u + i) hu1 (by omega) (by omega)
      rw [hy'] at this
      exact bef_trans hyx this
 refine ⟨p1, ?_, ?_⟩
 · rw [List.pairwise_cons]; exact ⟨q2, p2⟩
 · intro a ha b hb
   rcases List.mem_cons.1 hb with rfl | hb
   · exact q1 a ha
   · exact p3 a ha b hb

theorem put_perm (R : List Nat) (x u : Nat) : (R.take u ++ x :: R.drop u).Perm ([x] ++ R) := by
 have h : (R.take u ++ x :: R.drop u).Perm (x :: (R.take u ++ R.drop u)) := List.perm_middle
 rwa [List.take_append_drop] at h
theorem put_perm' (R : List Nat) (x u : Nat) : (R.take u ++ x :: R.drop u).Perm (R ++ [x]) :=
 (put_perm R x u).trans List.perm_append_comm

theorem bef_le_left {keys : List Int} {dn : Bool} {L : List Nat} (hL : L.Pairwise (bef keys dn)) {l : Nat} {x z : Nat} (hx : L[l - 1]? = some x) (hl : 1 ≤ l) (hz : z ∈ L.take l) : z = x ∨ bef keys dn z x := by
 obtain ⟨hl1, hx'⟩ := List.getElem?_eq_some_iff.1 hx
 obtain ⟨i, hi, rfl⟩ := List.mem_take_iff_getElem.1 hz
 by_cases e : i = l - 1
 · subst e; exact Or.inl hx'
 · have := List.pairwise_iff_getElem.1 hL i (l - 1) (by omega) hl1 (by omega)
   rw [hx'] at this
   exact Or.inr this
theorem bef_ge_right {keys : List Int} {dn : Bool} {R : List Nat} (hR : R.Pairwise (bef keys dn)) {r : Nat} {y z : Nat} (hy : R[r]? = some y) (hz : z ∈ R.drop r) : z = y ∨ bef keys dn y z := by
 obtain ⟨hr1, hy'⟩ := List.getElem?_eq_some_iff.1 hy
 obtain ⟨i, hi, rfl⟩ := List.mem_drop_iff_getElem.1 hz
 by_cases e : i = 0
 · subst e; exact Or.inl hy'
 · have := List.pairwise_iff_getElem.1 hR r (r + i) hr1 (by omega) (by omega)
   rw [hy'] at this
   exact Or.inr this
theorem bef_mid {keys : List Int} {dn : Bool} {x y z z' : Nat} (h : bef keys dn x y) (h1 : z = x ∨ bef keys dn z x) (h2 : z' = y ∨ bef keys dn y z') : bef keys dn z z' := by
 rcases h1 with rfl | h1 <;> rcases h2 with rfl | h2
 · exact h
 · exact bef_trans h h2
 · exact bef_trans h1 h
 · exact bef_trans h1 (bef_trans h h2)

/-- The two halves of a merge: whatever is in the left half stands ahead of whatever is in the right one. -/
theorem sym_left_right {keys : List Int} {dn : Bool} {L R : List Nat} {l h : Nat} (hL : L.Pairwise (bef keys dn)) (hR : R.Pairwise (bef keys dn)) (hc : ∀ x ∈ L, ∀ y ∈ R, x < y) (hlh : l ≤ h)
 (h1 : l = h - R.length ∨ ∃ x y, L[l - 1]? = some x ∧ R[h - l]? = some y ∧ lts keys dn y x = false ∧ 1 ≤ l) (h2 : l = L.length ∨ l = h ∨ ∃ x y, L[l]? = some x ∧ R[h - l - 1]? = some y ∧ lts keys dn y x = true ∧ l < h) :
 ∀ z ∈ L.take l ++ R.take (h - l), ∀ z' ∈ L.drop l ++ R.drop (h - l), bef keys dn z z' := by
 have pL : (L.take l ++ L.drop l).Pairwise (bef keys dn) := by rw [List.take_append_drop]; exact hL
 have pR : (R.take (h - l) ++ R.drop (h - l)).Pairwise (bef keys dn) := by rw [List.take_append_drop]; exact hR
 rw [List.pairwise_append] at pL pR
 intro z hz z' hz'
 rcases List.mem_append.1 hz with hz | hz <;> rcases List.mem_append.1 hz' with hz' | hz'
 · exact pL.2.2 z hz z' hz'
 · rcases h1 with e | ⟨x, y, hx, hy, hf, hl⟩
   · by_cases e0 : l = 0
     · subst e0; simp at hz
     · rw [List.drop_of_length_le (by omega)] at hz'; simp at hz'
   · have hxm : x ∈ L := List.mem_of_getElem? hx
     have hym : y ∈ R := List.mem_of_getElem? hy
     exact bef_mid (bef_of_not hf (hc x hxm y hym)) (bef_le_left hL hx hl hz) (bef_ge_right hR hy hz')
 · rcases h2 with e | e | ⟨x, y, hx, hy, hf, hl⟩
   · rw [List.drop_of_length_le (by omega)] at hz'; simp at hz'
   · have : h - l = 0 := by omega
     rw [this] at hz; simp at hz
   · exact bef_mid (Or.inl hf) (bef_le_left hR hy (by omega) hz) (bef_ge_right hL hx hz')
 · exact pR.2.2 z hz z' hz'

theorem sym_sorted {keys : List Int} {dn : Bool} {X Y M1 M2 : List Nat} (hx : ∀ z ∈ X, ∀ z' ∈ Y, bef keys dn z z') (p1 : M1.Perm X) (p2 : M2.Perm Y) (s1 : M1.Pairwise (bef keys dn)) (s2 : M2.Pairwise (bef keys dn)) : (M1 ++ M2).Pairwise (bef keys dn) := by
 rw [List.pairwise_append]
 exact ⟨s1, s2, fun a ha b hb => hx a (p1.mem_iff.1 ha) b (p2.mem_iff.1 hb)⟩
theorem sym_perm {L R M1 M2 : List Nat} {l r : Nat} (p1 : M1.Perm (L.take l ++ R.take r)) (p2 : M2.Perm (L.drop l ++ R.drop r)) : (M1 ++ M2).Perm (L ++ R) := by
 refine (p1.append p2).trans ?_
 have e1 : L.take l ++ R.take r ++ (L.drop l ++ R.drop r) = L.take l ++ (R.take r ++ L.drop l) ++ R.drop r := by simp
 have e2 : L ++ R = L.take l ++ (L.drop l ++ R.take r) ++ R.drop r := by
  have h : L.take l ++ (L.drop l ++ R.take r) ++ R.drop r = (L.take l ++ L.drop l) ++ (R.take r ++ R.drop r) := by simp only [List.append_assoc]
  rw [h, List.take_append_drop, List.take_append_drop]
 rw [e1, e2]
 exact (List.perm_append_comm.append_left _).append_right _
theorem take_sorted {keys : List Int} {dn : Bool} {L : List Nat} (h : L.Pairwise (bef keys dn)) (l : Nat) : (L.take l).Pairwise (bef keys dn) := h.sublist (List.take_sublist l L)
theorem drop_sorted {keys : List Int} {dn : Bool} {L : List Nat} (h : L.Pairwise (bef keys dn)) (l : Nat) : (L.drop l).Pairwise (bef keys dn) := h.sublist (List.drop_sublist l L)
theorem rows_split (P L R Q : List Nat) (l r : Nat) : P ++ L ++ R ++ Q = (P ++ L.take l) ++ L.drop l ++ R.take r ++ (R.drop r ++ Q) := by
 have h : (P ++ L.take l) ++ L.drop l ++ R.take r ++ (R.drop r ++ Q) = P ++ (L.take l ++ L.drop l) ++ (R.take r ++ R.drop r) ++ Q := by simp only [List.append_assoc]
 rw [h, List.take_append_drop, List.take_append_drop]
end Go.Proofs.Ytcblpoeeembniaa
