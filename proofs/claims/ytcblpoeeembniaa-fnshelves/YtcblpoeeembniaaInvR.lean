/- A region that draws its order, by an invariant: one step for each operation serves all orders. -/
import Derived.Test.YtcblpoeeembniaaAppendSome
import Derived.Test.YtcblpoeeembniaaHeldTo
import Derived.OrdersHeld
import Derived.Deep.RegionHeld
namespace Go.Proofs.Ytcblpoeeembniaa
open Go
set_option linter.unusedVariables false

section
variable {P : Program} {ops : Array Oper} {Q : Exit → Act → World → Prop} {md : Region.Mode}
theorem count_once {listed : Array Bool} {i : Nat} (h : listed.getD i true = false) : (listed.setIfInBounds i true).toList.count false + 1 = listed.toList.count false := by
 have hi : i < listed.size := by
  rcases Nat.lt_or_ge i listed.size with h1 | h1
  · exact h1
  · rw [Array.getD_eq_getD_getElem?, Array.getElem?_eq_none h1] at h
    cases h
 have hv : listed[i] = false := by
  rw [Array.getD_eq_getD_getElem?, Array.getElem?_eq_getElem hi] at h
  exact h
 have hm : false ∈ listed.toList := by rw [← hv]; exact Array.getElem_mem_toList hi
 have hpos : 0 < listed.toList.count false := List.count_pos_iff.2 hm
 rw [Array.toList_setIfInBounds, List.count_set (by simpa using hi)]
 have e1 : (listed.toList[i]'(by simpa using hi) == false) = true := by simpa using hv
 rw [e1]
 simp only [if_true]
 have e2 : (true == false) = false := rfl
 rw [e2]
 simp only [Bool.false_eq_true, if_false]
 omega
theorem wpAny_inv (Inv : Array Bool → Act → World → Prop)
 (hstep : ∀ listed a w i o, Inv listed a w → ops[i]? = some o → listed.getD i true = false → (∀ e ∈ o.after, Region.binds md e = true → listed.getD e.on false = true) → wpOp P ops Q i (fun a' w' => Inv (listed.setIfInBounds i true) a' w') a w)
 (hdone : ∀ listed a w, Inv listed a w → (∀ i o, ops[i]? = some o → (∀ e ∈ o.after, Region.binds md e = true → listed.getD e.on false = true) → listed.getD i true = true) → Q .normal a w) :
 ∀ (fuel : Nat) (listed : Array Bool) (a : Act) (w : World), Inv listed a w → listed.toList.count false ≤ fuel → wpAny P md ops Q fuel listed a w := by
 have hend : ∀ {listed : Array Bool} {a : Act} {w : World}, Inv listed a w → Region.ready md ops listed = [] → Q .normal a w := fun h hr =>
  hdone _ _ _ h fun i o ho hall => by
   rename_i listed _ _
   cases hl : listed.getD i true
   · have : i ∈ Region.ready md ops listed := mem_ready.2 ⟨hl, o, ho, hall⟩
     rw [hr] at this
     cases this
   · rfl
 intro fuel
 induction fuel with
 | zero =>
  intro listed a w h hc
  have hr : Region.ready md ops listed = [] := by
   rw [List.eq_nil_iff_forall_not_mem]
   intro i hi
   have := count_once (mem_ready.1 hi).1
   omega
  exact ⟨hr, hend h hr⟩
 | succ fuel ih =>
  intro listed a w h hc
  refine ⟨hend h, fun i hi => ?_⟩
  obtain ⟨h1, o, ho, hall⟩ := mem_ready.1 hi
  have hcl := count_once h1
  exact wpOp_mono (fun a' w' h' => ih _ a' w' h' (by omega)) (hstep _ _ _ _ _ h ho h1 hall)
theorem wpOp_stepS {i : Nat} {o : Oper} {K : Act → World → Prop} {a : Act} {w : World} (ho : ops[i]? = some o)
 (h : ∀ K' : Act → World → Prop, Shut (∀ a w, K a w → K' a w) → if Region.wanted o (yielded ops a.tmps) = true then Oper.wp P o a w K' Q else K' (a.put o.dst undef) w) : wpOp P ops Q i K a w := wpOp_step ho (fun K' hK => h K' hK)
/-- It has come; it has not (words that a walk's simp leaves alone). -/
def Tk (b : Bool) : Prop := b = true
def Fk (b : Bool) : Prop := b = false
theorem Tk_no {b : Bool} (h : Tk b → False) : b = false := by cases b; rfl; exact (h rfl).elim
/-- What a slot holds, by whether its operation has come. -/
def pickS (b : Bool) (v u : Value) : Value := if b = true then v else u
theorem pickS_true (v u : Value) : pickS true v u = v := rfl
theorem pickS_false (v u : Value) : pickS false v u = u := rfl
def fillS (b : Bool) (d : Nat) (v : Value) (a : Act) : Act := a.put (some d) (pickS b v (a.tmps.getD d undef))
theorem fillS_false (d : Nat) (v : Value) (a : Act) : fillS false d v a = a := by
 have h : a.tmps.setIfInBounds d (a.tmps.getD d undef) = a.tmps := by
  apply Array.ext (by simp)
  intro i h1 h2
  rw [Array.getElem_setIfInBounds]
  split
  · rename_i e
    subst e
    rw [Array.getD_eq_getD_getElem?, Array.getElem?_eq_getElem h2]
    rfl
  · rfl
 show ({ a with tmps := a.tmps.setIfInBounds d (a.tmps.getD d undef) } : Act) = a
 rw [h]
/-- From where the region stands: an invariant, one step for each operation that is left. -/
theorem wpTo_inv {S : World → Prop} {T : List Nat} (I : Act → Array Bool → Act → World → Prop) {a0 : Act} {w0 : World} {listed0 : Array Bool} (h0 : I a0 listed0 a0 w0) (hS : ∀ listed a w, I a0 listed a w → (∀ f ∈ T, listed.getD f false = false) → S w) (hT : ∀ listed a w, I a0 listed a w → ∀ f ∈ T, listed.getD f false = true → listed.toList.count false = 0)
 (hstep : ∀ listed a w i o, I a0 listed a w → ops[i]? = some o → listed.getD i true = false → (∀ e ∈ o.after, Region.binds md e = true → listed.getD e.on false = true) → wpOp P ops Q i (fun a' w' => I a0 (listed.setIfInBounds i true) a' w') a w)
 (hdone : ∀ listed a w, I a0 listed a w → (∀ i o, ops[i]? = some o → (∀ e ∈ o.after, Region.binds md e = true → listed.getD e.on false = true) → listed.getD i true = true) → Q .normal a w) (fuel : Nat) (hc : listed0.toList.count false ≤ fuel) : wpTo P md ops Q S T fuel listed0 a0 w0 := by
 have hend : ∀ {listed : Array Bool} {a : Act} {w : World}, I a0 listed a w → Region.ready md ops listed = [] → Q .normal a w := fun h hr =>
  hdone _ _ _ h fun i o ho hall => by
   rename_i listed _ _
   cases hl : listed.getD i true
   · have : i ∈ Region.ready md ops listed := mem_ready.2 ⟨hl, o, ho, hall⟩
     rw [hr] at this
     cases this
   · rfl
 suffices H : ∀ (fuel : Nat) (listed : Array Bool) (a : Act) (w : World), I a0 listed a w → listed.toList.count false ≤ fuel → wpTo P md ops Q S T fuel listed a w from H _ _ _ _ h0 hc
 intro fuel
 induction fuel with
 | zero =>
  intro listed a w h hc
  have hr : Region.ready md ops listed = [] := by
   rw [List.eq_nil_iff_forall_not_mem]
   intro i hi
   have := count_once (mem_ready.1 hi).1
   omega
  exact ⟨hr, hend h hr⟩
 | succ fuel ih =>
  intro listed a w h hc
  refine ⟨hend h, fun i hi => ?_⟩
  obtain ⟨h1, o, ho, hall⟩ := mem_ready.1 hi
  have hcl := count_once h1
  exact wpOp_mono (fun a' w' h' => ⟨fun hiT => hS _ _ _ h' (fun f hf => by
   have hfi : i ≠ f := fun e => hiT (e ▸ hf)
   rw [getD_set_ne false hfi]
   cases hl : listed.getD f false
   · rfl
   · have := hT _ _ _ h f hf hl
     omega), ih _ a' w' h' (by omega)⟩) (hstep _ _ _ _ _ h ho h1 hall)
end
end Go.Proofs.Ytcblpoeeembniaa
