/- Plain facts on merging two sorted rows of places. -/
import Derived.Test.YtcblpoeeembniaaSortPlain
namespace Go.Proofs.Ytcblpoeeembniaa

/-- p stands ahead of q, or is q. -/
def leB (keys : List Int) (dn : Bool) (p q : Nat) : Bool := lts keys dn p q || (!lts keys dn q p && decide (p ≤ q))

theorem leB_lt {keys : List Int} {dn : Bool} {p q : Nat} (h : p < q) : leB keys dn p q = !lts keys dn q p := by
 unfold leB lts
 rw [Bool.eq_iff_iff]
 cases dn <;> simp <;> omega

theorem sortP_short (keys : List Int) (dn : Bool) (ps : List Nat) (h : ps.length < 2) : sortP keys dn ps = ps := by
 unfold sortP
 match ps, h with
 | [], _ => simp
 | [x], _ => simp

theorem bef_leB {keys : List Int} {dn : Bool} {p q : Nat} (h : bef keys dn p q) : leB keys dn p q = true := by
 unfold bef leB lts at *
 cases dn <;> simp at * <;> omega

/-- The two halves sorted and merged are the whole sorted. -/
theorem merge_sorted (keys : List Int) (dn : Bool) (ps : List Nat) (k : Nat) (hps : ps.Pairwise (· < ·)) : (sortP keys dn (ps.take k)).merge (sortP keys dn (ps.drop k)) (leB keys dn) = sortP keys dn ps := by
 have hnd : ps.Nodup := hps.imp (fun h => Nat.ne_of_lt h)
 have h1 : (ps.take k).Nodup := hnd.sublist (List.take_sublist _ _)
 have h2 : (ps.drop k).Nodup := hnd.sublist (List.drop_sublist _ _)
 have p0 : ((sortP keys dn (ps.take k)).merge (sortP keys dn (ps.drop k)) (leB keys dn)).Perm ps := by
  refine (List.merge_perm_append _).trans ?_
  have := (sortP_perm keys dn (ps.take k)).append (sortP_perm keys dn (ps.drop k))
  rwa [List.take_append_drop] at this
 refine sortP_eq hnd p0 ?_
 have hpw := List.pairwise_merge (le := leB keys dn) (fun a b c h1 h2 => by unfold leB lts at *; cases dn <;> simp at * <;> omega) (fun a b => by unfold leB lts at *; cases dn <;> simp at * <;> omega)
  (sortP keys dn (ps.take k)) (sortP keys dn (ps.drop k)) ((sortP_sorted keys dn _ h1).imp bef_leB) ((sortP_sorted keys dn _ h2).imp bef_leB)
 refine List.Pairwise.imp₂ ?_ hpw (p0.nodup_iff.2 hnd)
 intro a b hab hne
 unfold leB bef lts at *
 cases dn <;> simp at * <;> omega

theorem mg_a (le : Nat → Nat → Bool) (o a F : List Nat) (i : Nat) (hi : i < a.length) (h : o ++ (a.drop i).merge [] le = F) : (o ++ [a[i]]) ++ (a.drop (i + 1)).merge [] le = F := by
 rw [List.drop_eq_getElem_cons hi] at h
 rw [← h]; simp
theorem mg_b (le : Nat → Nat → Bool) (o b F : List Nat) (j : Nat) (hj : j < b.length) (h : o ++ ([] : List Nat).merge (b.drop j) le = F) : (o ++ [b[j]]) ++ ([] : List Nat).merge (b.drop (j + 1)) le = F := by
 rw [List.drop_eq_getElem_cons hj] at h
 rw [← h]; simp
theorem mg_ab (le : Nat → Nat → Bool) (o a b F : List Nat) (i j : Nat) (hi : i < a.length) (hj : j < b.length) (hle : le a[i] b[j] = true) (h : o ++ (a.drop i).merge (b.drop j) le = F) : (o ++ [a[i]]) ++ (a.drop (i + 1)).merge (b.drop j) le = F := by
 rw [List.drop_eq_getElem_cons hi, List.drop_eq_getElem_cons hj, List.cons_merge_cons, if_pos hle] at h
 rw [← h, List.drop_eq_getElem_cons hj]; simp
theorem mg_ba (le : Nat → Nat → Bool) (o a b F : List Nat) (i j : Nat) (hi : i < a.length) (hj : j < b.length) (hle : le a[i] b[j] = false) (h : o ++ (a.drop i).merge (b.drop j) le = F) : (o ++ [b[j]]) ++ (a.drop i).merge (b.drop (j + 1)) le = F := by
 rw [List.drop_eq_getElem_cons hi, List.drop_eq_getElem_cons hj, List.cons_merge_cons, if_neg (by simp [hle])] at h
 rw [← h, List.drop_eq_getElem_cons hi]; simp
end Go.Proofs.Ytcblpoeeembniaa
