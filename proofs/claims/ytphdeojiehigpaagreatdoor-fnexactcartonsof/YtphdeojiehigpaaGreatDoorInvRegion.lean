/- A region that draws its order inside a round of a loop over an iterator: where each operation yields one value whatever came ahead of it, one step for each operation serves all orders. -/
import Derived.Test.YtphdeojiehigpaaGreatDoorPkA
import Derived.Stop.RegionWithIn
namespace Go.Proofs.YtphdeojiehigpaaGreatDoor
open Go
set_option linter.unusedVariables false

section
variable {F : Fence} {n : Nat} {P : Program} {ops : Array Oper} {Q : Exit → Act → World → Prop} {md : Region.Mode}

theorem count_listed {listed : Array Bool} {i : Nat} (h : listed.getD i true = false) : (listed.setIfInBounds i true).toList.count false + 1 = listed.toList.count false := by
  have hi : i < listed.size := by
    rcases Nat.lt_or_ge i listed.size with h1 | h1
    · exact h1
    · rw [Array.getD_eq_getD_getElem?, Array.getElem?_eq_none h1] at h
      cases h
  have hv : listed[i] = false := by
    rw [Array.getD_eq_getD_getElem?, Array.getElem?_eq_getElem hi] at h
    exact h
  have hm : false ∈ listed.toList := by rw [← hv]; exact Array.getElem_mem_toList hi
  have hpos : 0 < listed.toList.count false := List.count_pos_iff.2 hm
  rw [Array.toList_setIfInBounds, List.count_set (by simpa using hi)]
  have e1 : (listed.toList[i]'(by simpa using hi) == false) = true := by simpa using hv
  rw [e1]
  simp only [if_true]
  have e2 : (true == false) = false := rfl
  rw [e2]
  simp only [Bool.false_eq_true, if_false]
  omega
theorem wpAnyIn_inv (Inv : Array Bool → Act → World → Prop)
    (hstep : ∀ listed a w i o, Inv listed a w → ops[i]? = some o → listed.getD i true = false → (∀ e ∈ o.after, Region.binds md e = true → listed.getD e.on false = true) → wpOpIn F n P ops Q i (fun a' w' => Inv (listed.setIfInBounds i true) a' w') a w)
    (hdone : ∀ listed a w, Inv listed a w → (∀ i o, ops[i]? = some o → (∀ e ∈ o.after, Region.binds md e = true → listed.getD e.on false = true) → listed.getD i true = true) → Q .normal a w) :
    ∀ (fuel : Nat) (listed : Array Bool) (a : Act) (w : World), Inv listed a w → listed.toList.count false ≤ fuel → wpAnyIn F n P md ops Q fuel listed a w := by
  have hend : ∀ {listed : Array Bool} {a : Act} {w : World}, Inv listed a w → Region.ready md ops listed = [] → Q .normal a w := fun h hr =>
    hdone _ _ _ h fun i o ho hall => by
      rename_i listed _ _
      cases hl : listed.getD i true
      · have : i ∈ Region.ready md ops listed := mem_ready.2 ⟨hl, o, ho, hall⟩
        rw [hr] at this
        cases this
      · rfl
  intro fuel
  induction fuel with
  | zero =>
    intro listed a w h hc
    have hr : Region.ready md ops listed = [] := by
      rw [List.eq_nil_iff_forall_not_mem]
      intro i hi
      have := count_listed (mem_ready.1 hi).1
      omega
    exact ⟨hr, hend h hr⟩
  | succ fuel ih =>
    intro listed a w h hc
    refine ⟨hend h, fun i hi => ?_⟩
    obtain ⟨h1, o, ho, hall⟩ := mem_ready.1 hi
    have hcl := count_listed h1
    exact wpOpIn_mono (fun a' w' h' => ih _ a' w' h' (by omega)) (hstep _ _ _ _ _ h ho h1 hall)
end
end Go.Proofs.YtphdeojiehigpaaGreatDoor
