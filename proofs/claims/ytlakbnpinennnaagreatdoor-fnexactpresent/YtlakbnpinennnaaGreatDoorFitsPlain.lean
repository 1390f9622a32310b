/- Three sides in order; what fits; plain. -/
import Derived.Test.YtlakbnpinennnaaGreatDoorSortI
namespace Go.Proofs.YtlakbnpinennnaaGreatDoor
set_option linter.unusedVariables false

def lo3 (a b c : Int) : Int := min a (min b c)
def hi3 (a b c : Int) : Int := max a (max b c)
def mid3 (a b c : Int) : Int := max (min a b) (min (max a b) c)
def srt3 (a b c : Int) : List Int := [lo3 a b c, mid3 a b c, hi3 a b c]
theorem srt3_up (a b c : Int) : upI (srt3 a b c) := by
  unfold upI srt3
  refine List.pairwise_cons.2 ⟨fun x hx => ?_, List.pairwise_cons.2 ⟨fun x hx => ?_, List.pairwise_cons.2 ⟨fun x hx => ?_, List.Pairwise.nil⟩⟩⟩
  · simp only [List.mem_cons, List.not_mem_nil, or_false, mid3, hi3] at hx
    unfold lo3
    omega
  · simp only [List.mem_cons, List.not_mem_nil, or_false, hi3] at hx
    unfold mid3
    omega
  · simp at hx
theorem srt3_perm (a b c : Int) : (srt3 a b c).Perm [a, b, c] := by
  have h : srt3 a b c = [a, b, c] ∨ srt3 a b c = [a, c, b] ∨ srt3 a b c = [b, a, c] ∨ srt3 a b c = [b, c, a] ∨ srt3 a b c = [c, a, b] ∨ srt3 a b c = [c, b, a] := by
    simp only [srt3, lo3, mid3, hi3, List.cons.injEq, and_true]
    omega
  rcases h with h | h | h | h | h | h <;> rw [h]
  · exact List.Perm.cons _ (List.Perm.swap _ _ _)
  · exact List.Perm.swap _ _ _
  · exact (List.Perm.cons _ (List.Perm.swap _ _ _)).trans (List.Perm.swap _ _ _)
  · exact (List.Perm.swap _ _ _).trans (List.Perm.cons _ (List.Perm.swap _ _ _))
  · exact ((List.Perm.swap _ _ _).trans (List.Perm.cons _ (List.Perm.swap _ _ _))).trans (List.Perm.swap _ _ _)
theorem srt3_of {M : List Int} {a b c : Int} (hp : M.Perm [a, b, c]) (hs : upI M) : M = srt3 a b c :=
  List.Perm.eq_of_pairwise (fun x y _ _ h1 h2 => Int.le_antisymm h1 h2) hs (srt3_up a b c) (hp.trans (srt3_perm a b c).symm)

/-- Each side of the one at most that of the other, the least with the least and so on. -/
def sidesLe (a b c p q r : Int) : Bool := decide (lo3 a b c ≤ lo3 p q r) && decide (mid3 a b c ≤ mid3 p q r) && decide (hi3 a b c ≤ hi3 p q r)
def fitsB (x : ItemV) (t : TypeV) : Bool := sidesLe x.wd x.ht x.dp t.wd t.ht t.dp && decide (x.gram ≤ t.gram)
end Go.Proofs.YtlakbnpinennnaaGreatDoor
