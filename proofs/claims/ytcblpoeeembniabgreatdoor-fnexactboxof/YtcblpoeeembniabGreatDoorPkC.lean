/- FitsPlain, HeldTo, InvR, FitsImpl, FitsSpec: one text. -/
import Derived.Test.YtcblpoeeembniabGreatDoorPkB
import Derived.OrdersHeld
import Derived.Deep.RegionHeld
import Derived.Test.YtcblpoeeembniabGreatDoorAppendSome
import Derived.Test.YtcblpoeeembniabGreatDoorPkA
import Derived.Deep.DeepCutAuto
import Derived.Deep.DeepMust
import Derived.Deep.RegionHeld3
/- Three sides in order; what fits; plain. -/
namespace Go.Proofs.YtcblpoeeembniabGreatDoor
set_option linter.unusedVariables false

def lo3 (a b c : Int) : Int := min a (min b c)
def hi3 (a b c : Int) : Int := max a (max b c)
def mid3 (a b c : Int) : Int := max (min a b) (min (max a b) c)
def srt3 (a b c : Int) : List Int := [lo3 a b c, mid3 a b c, hi3 a b c]
theorem srt3_up (a b c : Int) : upI (srt3 a b c) := by
 unfold upI srt3
 refine List.pairwise_cons.2 ⟨fun x hx => ?_, List.pairwise_cons.2 ⟨fun x hx => ?_, List.pairwise_cons.2 ⟨fun x hx => ?_, List.Pairwise.nil⟩⟩⟩
 · simp only [List.mem_cons, List.not_mem_nil, or_false, mid3, hi3] at hx
   unfold lo3
   omega
 · simp only [List.mem_cons, List.not_mem_nil, or_false, hi3] at hx
   unfold mid3
   omega
 · simp at hx
theorem srt3_perm (a b c : Int) : (srt3 a b c).Perm [a, b, c] := by
 have h : srt3 a b c = [a, b, c] ∨ srt3 a b c = [a, c, b] ∨ srt3 a b c = [b, a, c] ∨ srt3 a b c = [b, c, a] ∨ srt3 a b c = [c, a, b] ∨ srt3 a b c = [c, b, a] := by
  simp only [srt3, lo3, mid3, hi3, List.cons.injEq, and_true]
  omega
 rcases h with h | h | h | h | h | h <;> rw [h]
 · exact List.Perm.cons _ (List.Perm.swap _ _ _)
 · exact List.Perm.swap _ _ _
 · exact (List.Perm.cons _ (List.Perm.swap _ _ _)).trans (List.Perm.swap _ _ _)
 · exact (List.Perm.swap _ _ _).trans (List.Perm.cons _ (List.Perm.swap _ _ _))
 · exact ((List.Perm.swap _ _ _).trans (List.Perm.cons _ (List.Perm.swap _ _ _))).trans (List.Perm.swap _ _ _)
theorem srt3_of {M : List Int} {a b c : Int} (hp : M.Perm [a, b, c]) (hs : upI M) : M = srt3 a b c :=
 List.Perm.eq_of_pairwise (fun x y _ _ h1 h2 => Int.le_antisymm h1 h2) hs (srt3_up a b c) (hp.trans (srt3_perm a b c).symm)

/-- Each side of the one at most that of the other, the least with the least and so on. -/
def sidesLe (a b c p q r : Int) : Bool := decide (lo3 a b c ≤ lo3 p q r) && decide (mid3 a b c ≤ mid3 p q r) && decide (hi3 a b c ≤ hi3 p q r)
def fitsB (x : ItemV) (t : TypeV) : Bool := sidesLe x.wd x.ht x.dp t.wd t.ht t.dp && decide (x.gram ≤ t.gram)
end Go.Proofs.YtcblpoeeembniabGreatDoor

/- A region that draws its order, in which one cell is read by a load and written by what waits for that load: the load may be taken first, though the cell is held only till then. -/
namespace Go.Proofs.YtcblpoeeembniabGreatDoor
open Go
set_option linter.unusedVariables false

section
variable {P : Program} {ops : Array Oper} {Q : Exit → Act → World → Prop} {md : Region.Mode} {S : World → Prop} {T : List Nat}

/-- Whatever order is picked; S holds behind each operation but those of T. -/
def wpTo (P : Program) (md : Region.Mode) (ops : Array Oper) (Q : Exit → Act → World → Prop) (S : World → Prop) (T : List Nat) : Nat → Array Bool → Act → World → Prop
 | 0, listed, a, w => Region.ready md ops listed = [] ∧ Q .normal a w
 | fuel + 1, listed, a, w =>
  (Region.ready md ops listed = [] → Q .normal a w) ∧
  ∀ i ∈ Region.ready md ops listed, wpOp P ops Q i (fun a' w' => (i ∉ T → S w') ∧ wpTo P md ops Q S T fuel (listed.setIfInBounds i true) a' w') a w

theorem wpAny_of_to : ∀ (fuel : Nat) (listed : Array Bool) (a : Act) (w : World), wpTo P md ops Q S T fuel listed a w → wpAny P md ops Q fuel listed a w
 | 0, _, _, _, h => h
 | fuel + 1, _, _, _, h => ⟨h.1, fun i hi => wpOp_mono (fun a' w' h' => wpAny_of_to fuel _ a' w' h'.2) (h.2 i hi)⟩

/-- What has come up, with all that it waits for. -/
def Closed (md : Region.Mode) (ops : Array Oper) (listed : Array Bool) : Prop := ∀ m o, ops[m]? = some o → listed.getD m false = true → ∀ e ∈ o.after, Region.binds md e = true → listed.getD e.on false = true
theorem Closed.set {listed : Array Bool} {j : Nat} (h : Closed md ops listed) (hj : j ∈ Region.ready md ops listed) : Closed md ops (listed.setIfInBounds j true) := by
 intro m o hm hl e he hb
 obtain ⟨_, oj, hoj, hall⟩ := mem_ready.1 hj
 by_cases hjm : j = m
 · subst hjm
   rw [hoj] at hm
   cases hm
   exact getD_set_true (hall e he hb)
 · rw [getD_set_ne false hjm] at hl
   exact getD_set_true (h m o hm hl e he hb)
/-- j waits for i, by some steps. -/
def reachB (md : Region.Mode) (ops : Array Oper) (i : Nat) : Nat → Nat → Bool
 | 0, _ => false
 | n + 1, j => ((ops[j]?).map fun o => o.after.any fun e => Region.binds md e && (e.on == i || reachB md ops i n e.on)).getD false
theorem reach_spec {i : Nat} {listed : Array Bool} (hc : Closed md ops listed) : ∀ (n j : Nat), reachB md ops i n j = true → (∀ oj, ops[j]? = some oj → ∀ e ∈ oj.after, Region.binds md e = true → listed.getD e.on false = true) → listed.getD i false = true
 | 0, _, h, _ => by cases h
 | n + 1, j, h, hall => by
  unfold reachB at h
  cases ho : ops[j]? with
  | none => rw [ho] at h; cases h
  | some o =>
   rw [ho] at h
   simp only [Option.map_some, Option.getD_some, Array.any_eq_true] at h
   obtain ⟨m, hm, h3⟩ := h
   simp only [Bool.and_eq_true, Bool.or_eq_true, beq_iff_eq] at h3
   have hl := hall o ho _ (Array.getElem_mem hm) h3.1
   rcases h3.2 with h4 | h4
   · rwa [h4] at hl
   · exact reach_spec hc n _ h4 (fun oj hoj e he hb => hc _ oj hoj hl e he hb)
/-- Each of T waits for i, or has come up. -/
def waits (md : Region.Mode) (ops : Array Oper) (T : List Nat) (i : Nat) : Bool := T.all fun j => j != i && reachB md ops i ops.size j
def closedB (md : Region.Mode) (ops : Array Oper) (listed : Array Bool) : Bool :=
 (List.range ops.size).all fun m => !listed.getD m false || ((ops[m]?).map fun o => o.after.all fun e => !Region.binds md e || listed.getD e.on false).getD true
theorem closed_of {listed : Array Bool} (h : closedB md ops listed = true) : Closed md ops listed := by
 intro m o hm hl e he hb
 have h1 := List.all_eq_true.1 h m (List.mem_range.2 (Array.getElem?_eq_some_iff.1 hm).1)
 rw [hl, hm] at h1
 simp only [Bool.not_true, Bool.false_or, Option.map_some, Option.getD_some] at h1
 have h2 := Array.all_eq_true_iff_forall_mem.1 h1 e he
 rw [hb] at h2
 simpa using h2

theorem wpTo_first {i : Nat} {oi : Oper} {v : Value} (hi : ops[i]? = some oi) (hsel : ∀ (j : Nat) (o : Oper) cs b, ops[j]? = some o → o.op ≠ .select cs b)
 (hQ : ∀ c a w, Q (.panic c) (a.put oi.dst v) w → Q (.panic c) a w) (hT : waits md ops T i = true) :
 ∀ (fuel : Nat) (listed : Array Bool) (a : Act) (w : World), Closed md ops listed →
  (∀ j oj, ops[j]? = some oj → j ≠ i → listed.getD j true = false → (∀ e ∈ oj.after, Region.binds md e = true → e.on ≠ i) → oi.apart ops oj = true) →
  i ∈ Region.ready md ops listed → YieldsIf P ops S oi v a → S w →
  wpTo P md ops Q S T fuel (listed.setIfInBounds i true) (a.put oi.dst v) w → wpTo P md ops Q S T (fuel + 1) listed a w := by
 intro fuel
 induction fuel with
 | zero =>
  intro listed a w _ _ hr hy hS H
  refine ⟨fun h => (by rw [h] at hr; cases hr), fun j hj => ?_⟩
  by_cases hji : j = i
  · subst hji
    exact hy.wpOp hi hS ⟨fun _ => hS, H⟩
  · have h1 := ready_mono hj hji
    rw [H.1] at h1
    cases h1
 | succ fuel ih =>
  intro listed a w hcl hfree hr hy hS H
  have hun : listed.getD i true = false := (mem_ready.1 hr).1
  have hnl : ¬ listed.getD i false = true := by
   intro h1
   rcases Nat.lt_or_ge i listed.size with h' | h'
   · simp [h'] at hun h1
     rw [hun] at h1
     cases h1
   · simp [Array.getElem?_eq_none h'] at h1
  refine ⟨fun h => (by rw [h] at hr; cases hr), fun j hj => ?_⟩
  by_cases hji : j = i
  · subst hji
    exact hy.wpOp hi hS ⟨fun _ => hS, H⟩
  · have h1 := H.2 j (ready_mono hj hji)
    obtain ⟨hjun, oj, hoj, hall⟩ := mem_ready.1 hj
    have hnot : ∀ e ∈ oj.after, Region.binds md e = true → e.on ≠ i := fun e he hb heq => hnl (heq ▸ hall e he hb)
    have hjT : j ∉ T := fun hm => by
     have h5 := List.all_eq_true.1 hT j hm
     simp only [Bool.and_eq_true] at h5
     exact hnl (reach_spec hcl _ _ h5.2 (fun o ho e he hb => by rw [hoj] at ho; cases ho; exact hall e he hb))
    have h2 := wpOp_putIf hoj (hfree j oj hoj hji hjun hnot) (fun cs b => hsel i oi cs b hi) (fun cs b => hsel j oj cs b hoj) hQ hy h1
    refine wpOp_mono (fun a' w' h3 => ⟨fun _ => h3.2.1 hjT, ih (listed.setIfInBounds j true) a' w' (hcl.set hj) (fun m om hm hmi hu hno => ?_) (ready_mono hr (Ne.symm hji)) h3.1 (h3.2.1 hjT) ?_⟩) h2
    · refine hfree m om hm hmi ?_ hno
      by_cases hjm : j = m
      · subst hjm; exact hjun
      · rw [getD_set_ne true hjm] at hu; exact hu
    · rw [Array.setIfInBounds_comm _ _ hji]
      exact h3.2.2

/-- Take number i first. -/
theorem wpTo_take {i : Nat} {oi : Oper} {v : Value} {fuel : Nat} {listed : Array Bool} {a : Act} {w : World} (hi : ops[i]? = some oi)
 (hs : Region.noSelect ops = true) (hf : Region.free md ops listed i = true) (hr : (Region.ready md ops listed).contains i = true) (hw : waits md ops T i = true) (hc : closedB md ops listed = true)
 (hQ : ∀ c a w, Q (.panic c) (a.put oi.dst v) w → Q (.panic c) a w) (hy : YieldsIf P ops S oi v a) (hS : S w)
 (h : wpTo P md ops Q S T fuel (listed.setIfInBounds i true) (a.put oi.dst v) w) : wpTo P md ops Q S T (fuel + 1) listed a w :=
 wpTo_first hi (Region.noSelect_spec hs) hQ hw fuel listed a w (closed_of hc) (Region.free_spec hi hf) (by simpa using hr) hy hS h

/-- The same, its closed conditions as one. -/
theorem wpTo_tk {i : Nat} {oi : Oper} {v : Value} {fuel : Nat} {listed : Array Bool} {a : Act} {w : World} (hi : ops[i]? = some oi)
 (hb : (Region.noSelect ops && (Region.free md ops listed i && ((Region.ready md ops listed).contains i && (waits md ops T i && closedB md ops listed)))) = true)
 (hy : YieldsIf P ops S oi v a) (hS : S w) (h : wpTo P md ops Q S T fuel (listed.setIfInBounds i true) (a.put oi.dst v) w)
 (hQ : ∀ c a w, Q (.panic c) (a.put oi.dst v) w → Q (.panic c) a w := by exact fun _ _ _ h => h) : wpTo P md ops Q S T (fuel + 1) listed a w := by
 simp only [Bool.and_eq_true] at hb
 obtain ⟨h1, h2, h3, h4, h5⟩ := hb
 exact wpTo_take hi h1 h2 h3 h4 h5 hQ hy hS h
/-- What yields where S' holds, which S grants. -/
theorem wpTo_ts {i : Nat} {oi : Oper} {v : Value} {fuel : Nat} {listed : Array Bool} {a : Act} {w : World} {S' : World → Prop} (hi : ops[i]? = some oi)
 (hb : (Region.noSelect ops && (Region.free md ops listed i && ((Region.ready md ops listed).contains i && (waits md ops T i && closedB md ops listed)))) = true)
 (hSd : ∀ w, S w → S' w) (hg : Region.wanted oi (yielded ops a.tmps) = true) (hy : ∀ w, S' w → (execOp a.eval oi).run P w = .ok (.value v) w) (hS : S w)
 (h : wpTo P md ops Q S T fuel (listed.setIfInBounds i true) (a.put oi.dst v) w)
 (hQ : ∀ c a w, Q (.panic c) (a.put oi.dst v) w → Q (.panic c) a w := by exact fun _ _ _ h => h) : wpTo P md ops Q S T (fuel + 1) listed a w :=
 wpTo_tk hi hb (Or.inl ⟨hg, fun w h => hy w (hSd w h)⟩) hS h hQ
def AllTo (P : Program) (md : Region.Mode) (ops : Array Oper) (Q : Exit → Act → World → Prop) (S : World → Prop) (T : List Nat) (fuel : Nat) (listed : Array Bool) (a : Act) (w : World) (rs : List Nat) : Prop :=
 ∀ i ∈ rs, wpOp P ops Q i (fun a' w' => (i ∉ T → S w') ∧ wpTo P md ops Q S T fuel (listed.setIfInBounds i true) a' w') a w
theorem AllTo.nil {fuel : Nat} {listed : Array Bool} {a : Act} {w : World} : AllTo P md ops Q S T fuel listed a w [] := fun _ h => by cases h
theorem AllTo.cons {fuel : Nat} {listed : Array Bool} {a : Act} {w : World} {i : Nat} {o : Oper} {rs : List Nat} (ho : ops[i]? = some o)
 (h : ∀ K' : Act → World → Prop, Shut (∀ a w, (i ∉ T → S w) → wpTo P md ops Q S T fuel (listed.setIfInBounds i true) a w → K' a w) → if Region.wanted o (yielded ops a.tmps) = true then Oper.wp P o a w K' Q else K' (a.put o.dst undef) w)
 (hs : AllTo P md ops Q S T fuel listed a w rs) : AllTo P md ops Q S T fuel listed a w (i :: rs) := fun j hj => by
 rcases List.mem_cons.1 hj with rfl | hj
 · exact wpOp_step ho (fun K' hK => h K' (fun a w hS hW => hK a w ⟨hS, hW⟩))
 · exact hs j hj
theorem wpTo_ready {rs : List Nat} {fuel : Nat} {listed : Array Bool} {a : Act} {w : World} (hr : Region.ready md ops listed = rs) (hne : rs ≠ [])
 (h : AllTo P md ops Q S T fuel listed a w rs) : wpTo P md ops Q S T (fuel + 1) listed a w := ⟨fun h0 => absurd (hr ▸ h0) hne, hr ▸ h⟩
theorem wpTo_done {listed : Array Bool} {a : Act} {w : World} (hr : Region.ready md ops listed = []) (h : Q .normal a w) :
 ∀ fuel, wpTo P md ops Q S T fuel listed a w
 | 0 => ⟨hr, h⟩
 | _ + 1 => ⟨fun _ => h, by rw [hr]; simp⟩
theorem wp_region_to {id : Nat} {a : Act} {w : World} (hm : P.follows .mixedOrders = true) (hS : S w.drew)
 (h : S w.drew → wpTo P .any ops Q S T ops.size (Array.replicate ops.size false) a w.drew) : (Code.region id ops true).wp P Q a w :=
 wp_region_any hm (wpAny_of_to _ _ _ _ (h hS))
end
end Go.Proofs.YtcblpoeeembniabGreatDoor

/- A region that draws its order, by an invariant: one step for each operation serves all orders. -/
namespace Go.Proofs.YtcblpoeeembniabGreatDoor
open Go
set_option linter.unusedVariables false

section
variable {P : Program} {ops : Array Oper} {Q : Exit → Act → World → Prop} {md : Region.Mode}
theorem count_once {listed : Array Bool} {i : Nat} (h : listed.getD i true = false) : (listed.setIfInBounds i true).toList.count false + 1 = listed.toList.count false := by
 have hi : i < listed.size := by
  rcases Nat.lt_or_ge i listed.size with h1 | h1
  · exact h1
  · rw [Array.getD_eq_getD_getElem?, Array.getElem?_eq_none h1] at h
    cases h
 have hv : listed[i] = false := by
  rw [Array.getD_eq_getD_getElem?, Array.getElem?_eq_getElem hi] at h
  exact h
 have hm : false ∈ listed.toList := by rw [← hv]; exact Array.getElem_mem_toList hi
 have hpos : 0 < listed.toList.count false := List.count_pos_iff.2 hm
 rw [Array.toList_setIfInBounds, List.count_set (by simpa using hi)]
 have e1 : (listed.toList[i]'(by simpa using hi) == false) = true := by simpa using hv
 rw [e1]
 simp only [if_true]
 have e2 : (true == false) = false := rfl
 rw [e2]
 simp only [Bool.false_eq_true, if_false]
 omega
theorem wpAny_inv (Inv : Array Bool → Act → World → Prop)
 (hstep : ∀ listed a w i o, Inv listed a w → ops[i]? = some o → listed.getD i true = false → (∀ e ∈ o.after, Region.binds md e = true → listed.getD e.on false = true) → wpOp P ops Q i (fun a' w' => Inv (listed.setIfInBounds i true) a' w') a w)
 (hdone : ∀ listed a w, Inv listed a w → (∀ i o, ops[i]? = some o → (∀ e ∈ o.after, Region.binds md e = true → listed.getD e.on false = true) → listed.getD i true = true) → Q .normal a w) :
 ∀ (fuel : Nat) (listed : Array Bool) (a : Act) (w : World), Inv listed a w → listed.toList.count false ≤ fuel → wpAny P md ops Q fuel listed a w := by
 have hend : ∀ {listed : Array Bool} {a : Act} {w : World}, Inv listed a w → Region.ready md ops listed = [] → Q .normal a w := fun h hr =>
  hdone _ _ _ h fun i o ho hall => by
   rename_i listed _ _
   cases hl : listed.getD i true
   · have : i ∈ Region.ready md ops listed := mem_ready.2 ⟨hl, o, ho, hall⟩
     rw [hr] at this
     cases this
   · rfl
 intro fuel
 induction fuel with
 | zero =>
  intro listed a w h hc
  have hr : Region.ready md ops listed = [] := by
   rw [List.eq_nil_iff_forall_not_mem]
   intro i hi
   have := count_once (mem_ready.1 hi).1
   omega
  exact ⟨hr, hend h hr⟩
 | succ fuel ih =>
  intro listed a w h hc
  refine ⟨hend h, fun i hi => ?_⟩
  obtain ⟨h1, o, ho, hall⟩ := mem_ready.1 hi
  have hcl := count_once h1
  exact wpOp_mono (fun a' w' h' => ih _ a' w' h' (by omega)) (hstep _ _ _ _ _ h ho h1 hall)
theorem wpOp_stepS {i : Nat} {o : Oper} {K : Act → World → Prop} {a : Act} {w : World} (ho : ops[i]? = some o)
 (h : ∀ K' : Act → World → Prop, Shut (∀ a w, K a w → K' a w) → if Region.wanted o (yielded ops a.tmps) = true then Oper.wp P o a w K' Q else K' (a.put o.dst undef) w) : wpOp P ops Q i K a w := wpOp_step ho (fun K' hK => h K' hK)
/-- It has come; it has not (words that a walk's simp leaves alone). -/
def Tk (b : Bool) : Prop := b = true
def Fk (b : Bool) : Prop := b = false
theorem Tk_no {b : Bool} (h : Tk b → False) : b = false := by cases b; rfl; exact (h rfl).elim
/-- What a slot holds, by whether its operation has come. -/
def pickS (b : Bool) (v u : Value) : Value := if b = true then v else u
theorem pickS_true (v u : Value) : pickS true v u = v := rfl
theorem pickS_false (v u : Value) : pickS false v u = u := rfl
def fillS (b : Bool) (d : Nat) (v : Value) (a : Act) : Act := a.put (some d) (pickS b v (a.tmps.getD d undef))
theorem fillS_false (d : Nat) (v : Value) (a : Act) : fillS false d v a = a := by
 have h : a.tmps.setIfInBounds d (a.tmps.getD d undef) = a.tmps := by
  apply Array.ext (by simp)
  intro i h1 h2
  rw [Array.getElem_setIfInBounds]
  split
  · rename_i e
    subst e
    rw [Array.getD_eq_getD_getElem?, Array.getElem?_eq_getElem h2]
    rfl
  · rfl
 show ({ a with tmps := a.tmps.setIfInBounds d (a.tmps.getD d undef) } : Act) = a
 rw [h]
/-- From where the region stands: an invariant, one step for each operation that is left. -/
theorem wpTo_inv {S : World → Prop} {T : List Nat} (I : Act → Array Bool → Act → World → Prop) {a0 : Act} {w0 : World} {listed0 : Array Bool} (h0 : I a0 listed0 a0 w0) (hS : ∀ listed a w, I a0 listed a w → (∀ f ∈ T, listed.getD f false = false) → S w) (hT : ∀ listed a w, I a0 listed a w → ∀ f ∈ T, listed.getD f false = true → listed.toList.count false = 0)
 (hstep : ∀ listed a w i o, I a0 listed a w → ops[i]? = some o → listed.getD i true = false → (∀ e ∈ o.after, Region.binds md e = true → listed.getD e.on false = true) → wpOp P ops Q i (fun a' w' => I a0 (listed.setIfInBounds i true) a' w') a w)
 (hdone : ∀ listed a w, I a0 listed a w → (∀ i o, ops[i]? = some o → (∀ e ∈ o.after, Region.binds md e = true → listed.getD e.on false = true) → listed.getD i true = true) → Q .normal a w) (fuel : Nat) (hc : listed0.toList.count false ≤ fuel) : wpTo P md ops Q S T fuel listed0 a0 w0 := by
 have hend : ∀ {listed : Array Bool} {a : Act} {w : World}, I a0 listed a w → Region.ready md ops listed = [] → Q .normal a w := fun h hr =>
  hdone _ _ _ h fun i o ho hall => by
   rename_i listed _ _
   cases hl : listed.getD i true
   · have : i ∈ Region.ready md ops listed := mem_ready.2 ⟨hl, o, ho, hall⟩
     rw [hr] at this
     cases this
   · rfl
 suffices H : ∀ (fuel : Nat) (listed : Array Bool) (a : Act) (w : World), I a0 listed a w → listed.toList.count false ≤ fuel → wpTo P md ops Q S T fuel listed a w from H _ _ _ _ h0 hc
 intro fuel
 induction fuel with
 | zero =>
  intro listed a w h hc
  have hr : Region.ready md ops listed = [] := by
   rw [List.eq_nil_iff_forall_not_mem]
   intro i hi
   have := count_once (mem_ready.1 hi).1
   omega
  exact ⟨hr, hend h hr⟩
 | succ fuel ih =>
  intro listed a w h hc
  refine ⟨hend h, fun i hi => ?_⟩
  obtain ⟨h1, o, ho, hall⟩ := mem_ready.1 hi
  have hcl := count_once h1
  exact wpOp_mono (fun a' w' h' => ⟨fun hiT => hS _ _ _ h' (fun f hf => by
   have hfi : i ≠ f := fun e => hiT (e ▸ hf)
   rw [getD_set_ne false hfi]
   cases hl : listed.getD f false
   · rfl
   · have := hT _ _ _ h f hf hl
     omega), ih _ a' w' h' (by omega)⟩) (hstep _ _ _ _ _ h ho h1 hall)
end
end Go.Proofs.YtcblpoeeembniabGreatDoor

/- The program's Fits. -/
namespace Go.Proofs.YtcblpoeeembniabGreatDoor
open Go.RowKit
set_option linter.unusedVariables false
set_option linter.unusedSimpArgs false

theorem fits_all (x : ItemV) (t : TypeV) (h : ∀ m, m < 3 → (srt3 x.wd x.ht x.dp).getD m 0 ≤ (srt3 t.wd t.ht t.dp).getD m 0) : fitsB x t = decide (x.gram ≤ t.gram) := by
 have h0 := h 0 (by omega)
 have h1 := h 1 (by omega)
 have h2 := h 2 (by omega)
 simp [srt3] at h0 h1 h2
 simp [fitsB, sidesLe, h0, h1, h2]
theorem fits_not (x : ItemV) (t : TypeV) (h : ¬ ∀ m, m < 3 → (srt3 x.wd x.ht x.dp).getD m 0 ≤ (srt3 t.wd t.ht t.dp).getD m 0) : fitsB x t = false := by
 cases e : fitsB x t
 · rfl
 · exfalso
   apply h
   simp [fitsB, sidesLe] at e
   intro m hm
   obtain rfl | rfl | rfl : m = 0 ∨ m = 1 ∨ m = 2 := by omega
   · simpa [srt3] using e.1.1.1
   · simpa [srt3] using e.1.1.2
   · simpa [srt3] using e.1.2
set_option maxHeartbeats 1600000 in
theorem sidesUp_any (a b c : Int) (w : World) : Calls Tryz.prog 99 #[.int .i64 a, .int .i64 b, .int .i64 c] w fun e w' =>
 e = .returned (.agg #[.int .i64 (lo3 a b c), .int .i64 (mid3 a b c), .int .i64 (hi3 a b c)]) ∧ Below w.heap.size w w' := by
 go_enter Tryz.func99, Tryz.ntmps99
 go_wp2_with fail
 refine (sortI_any (w.heap.size + 1) 3 3 [a, b, c] _ rfl (by omega) (by omega) ?_).mono ?_
 · exact Blk.allocAt (ci [a, b, c]) (by simp)
 rintro e w1 ⟨rfl, M, hp, hs, hB, hg⟩
 obtain rfl := srt3_of hp hs
 have c0 := (hB 0 (by simp [ci, srt3])).1
 have c1 := (hB 1 (by simp [ci, srt3])).1
 have c2 := (hB 2 (by simp [ci, srt3])).1
 simp only [ci, srt3, List.map_cons, List.map_nil, List.getElem?_cons_zero, List.getElem?_cons_succ] at c0 c1 c2
 have hR : Blk w1 w.heap.size [.int .i64 0, .int .i64 0, .int .i64 0] := Blk.gb ((Blk.allocAt [.int .i64 0, .int .i64 0, .int .i64 0] rfl).allocOld (by simp) _) hg (by simp; omega) (by omega)
 have r0 := (hR 0 (by simp)).1
 have r1 := (hR 1 (by simp)).1
 have r2 := (hR 2 (by simp)).1
 have f0 := (hR 0 (by simp)).2
 have f1 := (hR 1 (by simp)).2
 have f2 := (hR 2 (by simp)).2
 have HB : Hid (Below w.heap.size w w1) := (((Below.refl w.heap.size w).alloc (Nat.le_refl _) _).alloc (by simp) _).grown hg (by simp; omega) (by intro k hk; cases hk; omega)
 clear hR hB hg hp hs
 go_wp2_with fail
 refine bodyPost_ret (v := .agg #[.int .i64 (lo3 a b c), .int .i64 (mid3 a b c), .int .i64 (hi3 a b c)]) (by simp [results, Tryz.results99, go_sem, r0, r1, r2]) rfl ⟨rfl, ?_⟩
 exact ((HB.out.setCell (Nat.le_refl _) _).setCell (Nat.le_refl _) _).setCell (Nat.le_refl _) _

set_option maxHeartbeats 4000000 in
theorem fits_any (x : ItemV) (t : TypeV) (w : World) : Calls Tryz.prog 74 #[.agg #[.int .i64 x.id, .int .i64 x.wd, .int .i64 x.ht, .int .i64 x.dp, .int .i64 x.gram, .int .i64 x.cls, .int .i64 x.cnt], .agg #[.int .i64 t.id, .int .i64 t.wd, .int .i64 t.ht, .int .i64 t.dp, .int .i64 t.tare, .int .i64 t.gram, .int .i64 t.cost]] w fun e w' => e = .returned (.bool (fitsB x t)) ∧ Below w.heap.size w w' := by
 go_enter Tryz.func74, Tryz.ntmps74
 go_wp2
 have HX : Blk ((w.alloc (.cells #[.int .i64 x.id, .int .i64 x.wd, .int .i64 x.ht, .int .i64 x.dp, .int .i64 x.gram, .int .i64 x.cls, .int .i64 x.cnt] 89)).alloc (.cells #[.int .i64 t.id, .int .i64 t.wd, .int .i64 t.ht, .int .i64 t.dp, .int .i64 t.tare, .int .i64 t.gram, .int .i64 t.cost] 54)) w.heap.size [.int .i64 x.id, .int .i64 x.wd, .int .i64 x.ht, .int .i64 x.dp, .int .i64 x.gram, .int .i64 x.cls, .int .i64 x.cnt] := (Blk.allocAt [.int .i64 x.id, .int .i64 x.wd, .int .i64 x.ht, .int .i64 x.dp, .int .i64 x.gram, .int .i64 x.cls, .int .i64 x.cnt] rfl).allocOld (by simp) _
 have HT : Blk ((w.alloc (.cells #[.int .i64 x.id, .int .i64 x.wd, .int .i64 x.ht, .int .i64 x.dp, .int .i64 x.gram, .int .i64 x.cls, .int .i64 x.cnt] 89)).alloc (.cells #[.int .i64 t.id, .int .i64 t.wd, .int .i64 t.ht, .int .i64 t.dp, .int .i64 t.tare, .int .i64 t.gram, .int .i64 t.cost] 54)) (w.heap.size + 1) [.int .i64 t.id, .int .i64 t.wd, .int .i64 t.ht, .int .i64 t.dp, .int .i64 t.tare, .int .i64 t.gram, .int .i64 t.cost] := Blk.allocAt [.int .i64 t.id, .int .i64 t.wd, .int .i64 t.ht, .int .i64 t.dp, .int .i64 t.tare, .int .i64 t.gram, .int .i64 t.cost] (by simp)
 have HB : Hid (Below w.heap.size w ((w.alloc (.cells #[.int .i64 x.id, .int .i64 x.wd, .int .i64 x.ht, .int .i64 x.dp, .int .i64 x.gram, .int .i64 x.cls, .int .i64 x.cnt] 89)).alloc (.cells #[.int .i64 t.id, .int .i64 t.wd, .int .i64 t.ht, .int .i64 t.dp, .int .i64 t.tare, .int .i64 t.gram, .int .i64 t.cost] 54))) := ((Below.refl w.heap.size w).alloc (Nat.le_refl _) _).alloc (by simp) _
 have hz : ((w.alloc (.cells #[.int .i64 x.id, .int .i64 x.wd, .int .i64 x.ht, .int .i64 x.dp, .int .i64 x.gram, .int .i64 x.cls, .int .i64 x.cnt] 89)).alloc (.cells #[.int .i64 t.id, .int .i64 t.wd, .int .i64 t.ht, .int .i64 t.dp, .int .i64 t.tare, .int .i64 t.gram, .int .i64 t.cost] 54)).heap.size = w.heap.size + 2 := by simp
 generalize (w.alloc (.cells #[.int .i64 x.id, .int .i64 x.wd, .int .i64 x.ht, .int .i64 x.dp, .int .i64 x.gram, .int .i64 x.cls, .int .i64 x.cnt] 89)).alloc (.cells #[.int .i64 t.id, .int .i64 t.wd, .int .i64 t.ht, .int .i64 t.dp, .int .i64 t.tare, .int .i64 t.gram, .int .i64 t.cost] 54) = W at *
 obtain ⟨G, hG⟩ : ∃ G, G = w.heap.size := ⟨_, rfl⟩
 rw [← hG] at HX HT hz ⊢
 have x1 : W.cell? ⟨G, 1, none⟩ = some (.int .i64 x.wd) := (HX 1 (by simp)).1
 have x2 : W.cell? ⟨G, 2, none⟩ = some (.int .i64 x.ht) := (HX 2 (by simp)).1
 have x3 : W.cell? ⟨G, 3, none⟩ = some (.int .i64 x.dp) := (HX 3 (by simp)).1
 have t1 : W.cell? ⟨G + 1, 1, none⟩ = some (.int .i64 t.wd) := (HT 1 (by simp)).1
 have t2 : W.cell? ⟨G + 1, 2, none⟩ = some (.int .i64 t.ht) := (HT 2 (by simp)).1
 have t3 : W.cell? ⟨G + 1, 3, none⟩ = some (.int .i64 t.dp) := (HT 3 (by simp)).1
 have HG := hide hG
 have KS : Hid (∀ w', Below W.heap.size W w' → (w'.cell? ⟨G, 1, none⟩ = some (.int .i64 x.wd) ∧ w'.cell? ⟨G, 2, none⟩ = some (.int .i64 x.ht) ∧ w'.cell? ⟨G, 3, none⟩ = some (.int .i64 x.dp)
    ∧ w'.cell? ⟨G + 1, 1, none⟩ = some (.int .i64 t.wd) ∧ w'.cell? ⟨G + 1, 2, none⟩ = some (.int .i64 t.ht) ∧ w'.cell? ⟨G + 1, 3, none⟩ = some (.int .i64 t.dp))) := by
  intro w' hb
  have l0 : G < W.heap.size := by omega
  have l1 : G + 1 < W.heap.size := by omega
  exact ⟨(hb.cell (p := ⟨G, 1, none⟩) l0).trans x1, (hb.cell (p := ⟨G, 2, none⟩) l0).trans x2, (hb.cell (p := ⟨G, 3, none⟩) l0).trans x3, (hb.cell (p := ⟨G + 1, 1, none⟩) l1).trans t1, (hb.cell (p := ⟨G + 1, 2, none⟩) l1).trans t2, (hb.cell (p := ⟨G + 1, 3, none⟩) l1).trans t3⟩
 have HXX := hide HX
 have HTT := hide HT
 have HZ := hide hz
 have lt0 : G < W.heap.size := by omega
 have lt1 : G + 1 < W.heap.size := by omega
 clear hG HX HT hz x1 x2 x3 t1 t2 t3
 have B1 : Hid (Below W.heap.size W W) := Below.refl _ _
 go_cut [5, 6] (fun p q wc => ∃ g h, p = .pointer (some ⟨g, 0, none⟩) ∧ q = .pointer (some ⟨h, 0, none⟩) ∧ Blk wc g [.int .i64 (lo3 x.wd x.ht x.dp), .int .i64 (mid3 x.wd x.ht x.dp), .int .i64 (hi3 x.wd x.ht x.dp)] ∧ Blk wc h [.int .i64 (lo3 t.wd t.ht t.dp), .int .i64 (mid3 t.wd t.ht t.dp), .int .i64 (hi3 t.wd t.ht t.dp)] ∧ Below W.heap.size W wc)
 case first =>
  have BW := B1
  have KxW := HXX
  have KtW := HTT
  have ZxW := lt0
  have ZtW := lt1
  refine wp_region_noPanic ?_
  have Bu0 : Hid (Below W.heap.size W W.drew) := BW.out.drew
  have Kxu0 : Hid (Blk W.drew G [.int .i64 x.id, .int .i64 x.wd, .int .i64 x.ht, .int .i64 x.dp, .int .i64 x.gram, .int .i64 x.cls, .int .i64 x.cnt]) := unhide KxW
  have Zxu0 : G < W.drew.heap.size := ZxW
  have Ktu0 : Hid (Blk W.drew (G + 1) [.int .i64 t.id, .int .i64 t.wd, .int .i64 t.ht, .int .i64 t.dp, .int .i64 t.tare, .int .i64 t.gram, .int .i64 t.cost]) := unhide KtW
  have Ztu0 : (G + 1) < W.drew.heap.size := ZtW
  obtain ⟨S, hSdef⟩ : ∃ S : World → Prop, S = (fun w' => w'.cell? ⟨G, 1, none⟩ = some (.int .i64 x.wd) ∧ w'.cell? ⟨G, 2, none⟩ = some (.int .i64 x.ht) ∧ w'.cell? ⟨G, 3, none⟩ = some (.int .i64 x.dp) ∧ w'.cell? ⟨(G + 1), 1, none⟩ = some (.int .i64 t.wd) ∧ w'.cell? ⟨(G + 1), 2, none⟩ = some (.int .i64 t.ht) ∧ w'.cell? ⟨(G + 1), 3, none⟩ = some (.int .i64 t.dp)) := ⟨_, rfl⟩
  have hSmk : ∀ wq, Blk wq G [.int .i64 x.id, .int .i64 x.wd, .int .i64 x.ht, .int .i64 x.dp, .int .i64 x.gram, .int .i64 x.cls, .int .i64 x.cnt] → Blk wq (G + 1) [.int .i64 t.id, .int .i64 t.wd, .int .i64 t.ht, .int .i64 t.dp, .int .i64 t.tare, .int .i64 t.gram, .int .i64 t.cost] → S wq := fun wq kx kt => by rw [hSdef]; exact ⟨(kx 1 (by simp)).1, (kx 2 (by simp)).1, (kx 3 (by simp)).1, (kt 1 (by simp)).1, (kt 2 (by simp)).1, (kt 3 (by simp)).1⟩
  have hSd : ∀ wq, S wq → (fun w' => w'.cell? ⟨G, 1, none⟩ = some (.int .i64 x.wd) ∧ w'.cell? ⟨G, 2, none⟩ = some (.int .i64 x.ht) ∧ w'.cell? ⟨G, 3, none⟩ = some (.int .i64 x.dp) ∧ w'.cell? ⟨(G + 1), 1, none⟩ = some (.int .i64 t.wd) ∧ w'.cell? ⟨(G + 1), 2, none⟩ = some (.int .i64 t.ht) ∧ w'.cell? ⟨(G + 1), 3, none⟩ = some (.int .i64 t.dp)) wq := fun wq h => by rw [hSdef] at h; exact h
  clear hSdef
  have hHeld : S W.drew := hSmk W.drew Kxu0.out Ktu0.out
  refine wp_region_to (S := S) (T := []) (by kernel_rfl) hHeld (fun _ => ?_)
  generalize W.drew = u0 at *
  refine wpTo_ts (i := 0) (v := ?_) rfl (by kernel_rfl) hSd (by rfl) (fun w hSw => ?_) (by assumption) ?_
  rotate_left
  · ((try dsimp only [RqC] at hSw); go_simp <;> with_reducible rfl)
  refine wpTo_ts (i := 1) (v := ?_) rfl (by kernel_rfl) hSd (by rfl) (fun w hSw => ?_) (by assumption) ?_
  rotate_left
  · ((try dsimp only [RqC] at hSw); go_simp <;> with_reducible rfl)
  refine wpTo_ts (i := 2) (v := ?_) rfl (by kernel_rfl) hSd (by rfl) (fun w hSw => ?_) (by assumption) ?_
  rotate_left
  · ((try dsimp only [RqC] at hSw); go_simp <;> with_reducible rfl)
  refine wpTo_ts (i := 3) (v := ?_) rfl (by kernel_rfl) hSd (by rfl) (fun w hSw => ?_) (by assumption) ?_
  rotate_left
  · ((try dsimp only [RqC] at hSw); go_simp <;> with_reducible rfl)
  refine wpTo_ts (i := 4) (v := ?_) rfl (by kernel_rfl) hSd (by rfl) (fun w hSw => ?_) (by assumption) ?_
  rotate_left
  · ((try dsimp only [RqC] at hSw); go_simp <;> with_reducible rfl)
  refine wpTo_ts (i := 5) (v := ?_) rfl (by kernel_rfl) hSd (by rfl) (fun w hSw => ?_) (by assumption) ?_
  rotate_left
  · ((try dsimp only [RqC] at hSw); go_simp <;> with_reducible rfl)
  refine wpTo_ts (i := 7) (v := ?_) rfl (by kernel_rfl) hSd (by rfl) (fun w hSw => ?_) (by assumption) ?_
  rotate_left
  · ((try dsimp only [RqC] at hSw); go_simp <;> with_reducible rfl)
  refine wpTo_ts (i := 8) (v := ?_) rfl (by kernel_rfl) hSd (by rfl) (fun w hSw => ?_) (by assumption) ?_
  rotate_left
  · ((try dsimp only [RqC] at hSw); go_simp <;> with_reducible rfl)
  refine wpTo_ts (i := 9) (v := ?_) rfl (by kernel_rfl) hSd (by rfl) (fun w hSw => ?_) (by assumption) ?_
  rotate_left
  · ((try dsimp only [RqC] at hSw); go_simp <;> with_reducible rfl)
  try simp only [Act.put, zz1, zz2, zz3, zz4, zz5, zz6]
  refine wpTo_ts (i := 10) (v := ?_) rfl (by kernel_rfl) hSd (by rfl) (fun w hSw => ?_) (by assumption) ?_
  rotate_left
  · ((try dsimp only [RqC] at hSw); go_simp <;> with_reducible rfl)
  refine wpTo_ts (i := 11) (v := ?_) rfl (by kernel_rfl) hSd (by rfl) (fun w hSw => ?_) (by assumption) ?_
  rotate_left
  · ((try dsimp only [RqC] at hSw); go_simp <;> with_reducible rfl)
  refine wpTo_ts (i := 12) (v := ?_) rfl (by kernel_rfl) hSd (by rfl) (fun w hSw => ?_) (by assumption) ?_
  rotate_left
  · ((try dsimp only [RqC] at hSw); go_simp <;> with_reducible rfl)
  try simp only [Act.put, zz1, zz2, zz3, zz4, zz5, zz6]
  try simp only [Act.put, zz1, zz2, zz3, zz4, zz5, zz6]
  refine wpTo_inv (fun a0 listed ai wi => ∃ (b6 b13 b14 b15 b16 b17 : Bool) (gp gq : Nat), listed = #[true, true, true, true, true, true, b6, true, true, true, true, true, true, b13, b14, b15, b16, b17] ∧ ai = fillS b15 6 (.pointer (some ⟨gq, 0, none⟩)) (fillS b14 5 (.pointer (some ⟨gp, 0, none⟩)) (fillS b13 21 (.agg #[.int .i64 (lo3 t.wd t.ht t.dp), .int .i64 (mid3 t.wd t.ht t.dp), .int .i64 (hi3 t.wd t.ht t.dp)]) (fillS b6 14 (.agg #[.int .i64 (lo3 x.wd x.ht x.dp), .int .i64 (mid3 x.wd x.ht x.dp), .int .i64 (hi3 x.wd x.ht x.dp)]) (a0)))) ∧ Hid (Below u0.heap.size u0 wi) ∧ Hid (Tk b14 → Fk b16 → Blk wi gp [.int .i64 0, .int .i64 0, .int .i64 0] ∧ gp < wi.heap.size ∧ u0.heap.size ≤ gp) ∧ Hid (Tk b16 → Blk wi gp [.int .i64 (lo3 x.wd x.ht x.dp), .int .i64 (mid3 x.wd x.ht x.dp), .int .i64 (hi3 x.wd x.ht x.dp)] ∧ gp < wi.heap.size ∧ u0.heap.size ≤ gp) ∧ Hid (Tk b15 → Fk b17 → Blk wi gq [.int .i64 0, .int .i64 0, .int .i64 0] ∧ gq < wi.heap.size ∧ u0.heap.size ≤ gq) ∧ Hid (Tk b17 → Blk wi gq [.int .i64 (lo3 t.wd t.ht t.dp), .int .i64 (mid3 t.wd t.ht t.dp), .int .i64 (hi3 t.wd t.ht t.dp)] ∧ gq < wi.heap.size ∧ u0.heap.size ≤ gq) ∧ Hid (Tk b14 → Tk b15 → gp ≠ gq) ∧ Hid (Tk b13 → Tk b6) ∧ Hid (Tk b16 → Tk b6 ∧ Tk b13 ∧ Tk b14 ∧ Tk b15) ∧ Hid (Tk b17 → Tk b6 ∧ Tk b13 ∧ Tk b14 ∧ Tk b15 ∧ Tk b16)) ⟨false, false, false, false, false, false, 0, 0, rfl, by simp only [fillS_false], (Below.refl _ _), (fun h _ => by cases h), (fun h => by cases h), (fun h _ => by cases h), (fun h => by cases h), (fun h _ => by cases h), (fun h => by cases h), (fun h => by cases h), (fun h => by cases h)⟩ ?hS ?hT ?step ?fin _ (by decide)
  case hS =>
   rintro listed ai wi ⟨b6, b13, b14, b15, b16, b17, gp, gq, rfl, ha, FB, FKp, FVp, FKq, FVq, FNpq, FC13, FC16, FC17⟩ hTf
   exact hSmk wi (Blk.below (FB.out) Zxu0 Kxu0.out) (Blk.below (FB.out) Ztu0 Ktu0.out)
  case hT =>
   exact fun _ _ _ _ f hf => by cases hf
  case step =>
   rintro listed ai wi i o ⟨b6, b13, b14, b15, b16, b17, gp, gq, rfl, ha, FB, FKp, FVp, FKq, FVq, FNpq, FC13, FC16, FC17⟩ ho hl hall
   have hi : i < 18 := (Array.getElem?_eq_some_iff.1 ho).1
   obtain rfl | rfl | rfl | rfl | rfl | rfl | rfl | rfl | rfl | rfl | rfl | rfl | rfl | rfl | rfl | rfl | rfl | rfl : i = 0 ∨ i = 1 ∨ i = 2 ∨ i = 3 ∨ i = 4 ∨ i = 5 ∨ i = 6 ∨ i = 7 ∨ i = 8 ∨ i = 9 ∨ i = 10 ∨ i = 11 ∨ i = 12 ∨ i = 13 ∨ i = 14 ∨ i = 15 ∨ i = 16 ∨ i = 17 := by omega
   · exact absurd hl (by simp)
   · exact absurd hl (by simp)
   · exact absurd hl (by simp)
   · exact absurd hl (by simp)
   · exact absurd hl (by simp)
   · exact absurd hl (by simp)
   · obtain rfl := Option.some.inj ho
     obtain rfl : b6 = false := by simpa using hl
     obtain rfl : b13 = false := Tk_no (fun p => by have h8 := FC13.out p; simp [Tk] at h8)
     obtain rfl : b16 = false := Tk_no (fun p => by have h8 := FC16.out p; simp [Tk] at h8)
     obtain rfl : b17 = false := Tk_no (fun p => by have h8 := FC17.out p; simp [Tk] at h8)
     clear ho hl hall hi
     simp only [fillS, pickS_true, pickS_false, Act.put, zz7, zz8, zz9, zz10, zz11, zz1, zz2, zz3, zz4, zz5, zz6] at ha
     subst ha
     refine wpOp_stepS (o := _) rfl (fun K hK => ?_)
     go_simp
     refine (sidesUp_any _ _ _ wi).mono ?_
     rintro e wz ⟨rfl, hb⟩
     go_wp2_with fail
     refine hK.out _ _ ?_
     exact ⟨true, false, b14, b15, false, false, gp, gq, rfl, by simp only [fillS, pickS_true, pickS_false, Act.put, zz7, zz8, zz9, zz10, zz11, zz1, zz2, zz3, zz4, zz5, zz6], ((FB.out.trans (hb.mono FB.out.size))), (fun p14 q16 => ⟨Blk.below hb (unhide FKp p14 q16).2.1 (unhide FKp p14 q16).1, Nat.lt_of_lt_of_le (unhide FKp p14 q16).2.1 hb.size, (unhide FKp p14 q16).2.2⟩), (fun p16 => (by cases p16)), (fun p15 q17 => ⟨Blk.below hb (unhide FKq p15 q17).2.1 (unhide FKq p15 q17).1, Nat.lt_of_lt_of_le (unhide FKq p15 q17).2.1 hb.size, (unhide FKq p15 q17).2.2⟩), (fun p17 => (by cases p17)), (fun p14 p15 => (unhide FNpq p14 p15)), (fun p13 => (by cases p13)), (fun p16 => (by cases p16)), (fun p17 => (by cases p17))⟩
   · exact absurd hl (by simp)
   · exact absurd hl (by simp)
   · exact absurd hl (by simp)
   · exact absurd hl (by simp)
   · exact absurd hl (by simp)
   · exact absurd hl (by simp)
   · obtain rfl := Option.some.inj ho
     obtain rfl : b13 = false := by simpa using hl
     obtain rfl : b6 = true := by simpa using hall ⟨6, .chain⟩ (by simp) rfl
     obtain rfl : b16 = false := Tk_no (fun p => by have h8 := FC16.out p; simp [Tk] at h8)
     obtain rfl : b17 = false := Tk_no (fun p => by have h8 := FC17.out p; simp [Tk] at h8)
     clear ho hl hall hi
     simp only [fillS, pickS_true, pickS_false, Act.put, zz7, zz8, zz9, zz10, zz11, zz1, zz2, zz3, zz4, zz5, zz6] at ha
     subst ha
     refine wpOp_stepS (o := _) rfl (fun K hK => ?_)
     go_simp
     refine (sidesUp_any _ _ _ wi).mono ?_
     rintro e wz ⟨rfl, hb⟩
     go_wp2_with fail
     refine hK.out _ _ ?_
     exact ⟨true, true, b14, b15, false, false, gp, gq, rfl, by simp only [fillS, pickS_true, pickS_false, Act.put, zz7, zz8, zz9, zz10, zz11, zz1, zz2, zz3, zz4, zz5, zz6], ((FB.out.trans (hb.mono FB.out.size))), (fun p14 q16 => ⟨Blk.below hb (unhide FKp p14 q16).2.1 (unhide FKp p14 q16).1, Nat.lt_of_lt_of_le (unhide FKp p14 q16).2.1 hb.size, (unhide FKp p14 q16).2.2⟩), (fun p16 => (by cases p16)), (fun p15 q17 => ⟨Blk.below hb (unhide FKq p15 q17).2.1 (unhide FKq p15 q17).1, Nat.lt_of_lt_of_le (unhide FKq p15 q17).2.1 hb.size, (unhide FKq p15 q17).2.2⟩), (fun p17 => (by cases p17)), (fun p14 p15 => (unhide FNpq p14 p15)), (fun p13 => rfl), (fun p16 => (by cases p16)), (fun p17 => (by cases p17))⟩
   · obtain rfl := Option.some.inj ho
     obtain rfl : b14 = false := by simpa using hl
     obtain rfl : b16 = false := Tk_no (fun p => by have h8 := FC16.out p; simp [Tk] at h8)
     obtain rfl : b17 = false := Tk_no (fun p => by have h8 := FC17.out p; simp [Tk] at h8)
     clear ho hl hall hi
     simp only [fillS, pickS_true, pickS_false, Act.put, zz7, zz8, zz9, zz10, zz11, zz1, zz2, zz3, zz4, zz5, zz6] at ha
     subst ha
     refine wpOp_stepS (o := _) rfl (fun K hK => ?_)
     go_simp
     refine hK.out _ _ ?_
     exact ⟨b6, b13, true, b15, false, false, wi.heap.size, gq, rfl, by simp only [fillS, pickS_true, pickS_false, Act.put, zz7, zz8, zz9, zz10, zz11, zz1, zz2, zz3, zz4, zz5, zz6], ((FB.out.alloc FB.out.size _)), (fun p14 q16 => ⟨Blk.allocAt [.int .i64 0, .int .i64 0, .int .i64 0] (by rfl), lt_alloc_new wi _, (FB.out).size⟩), (fun p16 => (by cases p16)), (fun p15 q17 => ⟨(unhide FKq p15 q17).1.allocOld (unhide FKq p15 q17).2.1 _, lt_alloc (unhide FKq p15 q17).2.1 _, (unhide FKq p15 q17).2.2⟩), (fun p17 => (by cases p17)), (fun p14 p15 => (Ne.symm ((Nat.ne_of_lt (unhide FKq p15 rfl).2.1)))), (fun p13 => (unhide FC13 p13)), (fun p16 => (by cases p16)), (fun p17 => (by cases p17))⟩
   · obtain rfl := Option.some.inj ho
     obtain rfl : b15 = false := by simpa using hl
     obtain rfl : b16 = false := Tk_no (fun p => by have h8 := FC16.out p; simp [Tk] at h8)
     obtain rfl : b17 = false := Tk_no (fun p => by have h8 := FC17.out p; simp [Tk] at h8)
     clear ho hl hall hi
     simp only [fillS, pickS_true, pickS_false, Act.put, zz7, zz8, zz9, zz10, zz11, zz1, zz2, zz3, zz4, zz5, zz6] at ha
     subst ha
     refine wpOp_stepS (o := _) rfl (fun K hK => ?_)
     go_simp
     refine hK.out _ _ ?_
     exact ⟨b6, b13, b14, true, false, false, gp, wi.heap.size, rfl, by simp only [fillS, pickS_true, pickS_false, Act.put, zz7, zz8, zz9, zz10, zz11, zz1, zz2, zz3, zz4, zz5, zz6], ((FB.out.alloc FB.out.size _)), (fun p14 q16 => ⟨(unhide FKp p14 q16).1.allocOld (unhide FKp p14 q16).2.1 _, lt_alloc (unhide FKp p14 q16).2.1 _, (unhide FKp p14 q16).2.2⟩), (fun p16 => (by cases p16)), (fun p15 q17 => ⟨Blk.allocAt [.int .i64 0, .int .i64 0, .int .i64 0] (by rfl), lt_alloc_new wi _, (FB.out).size⟩), (fun p17 => (by cases p17)), (fun p14 p15 => (Nat.ne_of_lt (unhide FKp p14 rfl).2.1)), (fun p13 => (unhide FC13 p13)), (fun p16 => (by cases p16)), (fun p17 => (by cases p17))⟩
   · obtain rfl := Option.some.inj ho
     obtain rfl : b16 = false := by simpa using hl
     obtain rfl : b14 = true := by simpa using hall ⟨14, .data⟩ (by simp) rfl
     obtain rfl : b6 = true := by simpa using hall ⟨6, .data⟩ (by simp) rfl
     obtain rfl : b13 = true := by simpa using hall ⟨13, .chain⟩ (by simp) rfl
     obtain rfl : b15 = true := by simpa using hall ⟨15, .phase⟩ (by simp) rfl
     obtain rfl : b17 = false := Tk_no (fun p => by have h8 := FC17.out p; simp [Tk] at h8)
     clear ho hl hall hi
     simp only [fillS, pickS_true, pickS_false, Act.put, zz7, zz8, zz9, zz10, zz11, zz1, zz2, zz3, zz4, zz5, zz6] at ha
     subst ha
     refine wpOp_stepS (o := _) rfl (fun K hK => ?_)
     have p0c := ((FKp.out rfl rfl).1 0 (by simp)).1
     have q0c := ((FKp.out rfl rfl).1 0 (by simp)).2
     have p1c := ((FKp.out rfl rfl).1 1 (by simp)).1
     have q1c := ((FKp.out rfl rfl).1 1 (by simp)).2
     have p2c := ((FKp.out rfl rfl).1 2 (by simp)).1
     have q2c := ((FKp.out rfl rfl).1 2 (by simp)).2
     go_simp
     clear p0c q0c p1c q1c p2c q2c
     refine hK.out _ _ ?_
     exact ⟨true, true, true, true, true, false, gp, gq, rfl, by simp only [fillS, pickS_true, pickS_false, Act.put, zz7, zz8, zz9, zz10, zz11, zz1, zz2, zz3, zz4, zz5, zz6], ((((FB.out.setCell (unhide FKp rfl rfl).2.2 _).setCell (unhide FKp rfl rfl).2.2 _).setCell (unhide FKp rfl rfl).2.2 _)), (fun p14 q16 => (by cases q16)), (fun p16 => ⟨Blk.fill3 (unhide FKp rfl rfl).1, by simpa using (unhide FKp rfl rfl).2.1, (unhide FKp rfl rfl).2.2⟩), (fun p15 q17 => ⟨((((unhide FKq p15 q17).1.other (Ne.symm (unhide FNpq rfl p15))).other (Ne.symm (unhide FNpq rfl p15))).other (Ne.symm (unhide FNpq rfl p15))), by simpa using (unhide FKq p15 q17).2.1, (unhide FKq p15 q17).2.2⟩), (fun p17 => (by cases p17)), (fun p14 p15 => (unhide FNpq p14 p15)), (fun p13 => (unhide FC13 p13)), (fun p16 => ⟨rfl, rfl, rfl, rfl⟩), (fun p17 => (by cases p17))⟩
   · obtain rfl := Option.some.inj ho
     obtain rfl : b17 = false := by simpa using hl
     obtain rfl : b15 = true := by simpa using hall ⟨15, .data⟩ (by simp) rfl
     obtain rfl : b13 = true := by simpa using hall ⟨13, .data⟩ (by simp) rfl
     obtain rfl := FC13.out rfl
     obtain rfl : b16 = true := by simpa using hall ⟨16, .chain⟩ (by simp) rfl
     obtain ⟨_, _, rfl, _⟩ := FC16.out rfl
     clear ho hl hall hi
     simp only [fillS, pickS_true, pickS_false, Act.put, zz7, zz8, zz9, zz10, zz11, zz1, zz2, zz3, zz4, zz5, zz6] at ha
     subst ha
     refine wpOp_stepS (o := _) rfl (fun K hK => ?_)
     have p0c := ((FKq.out rfl rfl).1 0 (by simp)).1
     have q0c := ((FKq.out rfl rfl).1 0 (by simp)).2
     have p1c := ((FKq.out rfl rfl).1 1 (by simp)).1
     have q1c := ((FKq.out rfl rfl).1 1 (by simp)).2
     have p2c := ((FKq.out rfl rfl).1 2 (by simp)).1
     have q2c := ((FKq.out rfl rfl).1 2 (by simp)).2
     go_simp
     clear p0c q0c p1c q1c p2c q2c
     refine hK.out _ _ ?_
     exact ⟨true, true, true, true, true, true, gp, gq, rfl, by simp only [fillS, pickS_true, pickS_false, Act.put, zz7, zz8, zz9, zz10, zz11, zz1, zz2, zz3, zz4, zz5, zz6], ((((FB.out.setCell (unhide FKq rfl rfl).2.2 _).setCell (unhide FKq rfl rfl).2.2 _).setCell (unhide FKq rfl rfl).2.2 _)), (fun p14 q16 => (by cases q16)), (fun p16 => ⟨((((unhide FVp p16).1.other (unhide FNpq rfl rfl)).other (unhide FNpq rfl rfl)).other (unhide FNpq rfl rfl)), by simpa using (unhide FVp p16).2.1, (unhide FVp p16).2.2⟩), (fun p15 q17 => (by cases q17)), (fun p17 => ⟨Blk.fill3 (unhide FKq rfl rfl).1, by simpa using (unhide FKq rfl rfl).2.1, (unhide FKq rfl rfl).2.2⟩), (fun p14 p15 => (unhide FNpq p14 p15)), (fun p13 => (unhide FC13 p13)), (fun p16 => (unhide FC16 p16)), (fun p17 => ⟨rfl, rfl, rfl, rfl, rfl⟩)⟩
  case fin =>
   rintro listed ai wi ⟨b6, b13, b14, b15, b16, b17, gp, gq, rfl, ha, FB, FKp, FVp, FKq, FVq, FNpq, FC13, FC16, FC17⟩ hall
   obtain rfl : b6 = true := by
    have h9 := hall 6 _ rfl (by
     intro e he hbd
     simp at he
     rcases he with rfl | rfl | rfl <;> simp
     )
    simpa using h9
   obtain rfl : b13 = true := by
    have h9 := hall 13 _ rfl (by
     intro e he hbd
     simp at he
     rcases he with rfl | rfl | rfl | rfl <;> simp
     )
    simpa using h9
   obtain rfl : b14 = true := by
    have h9 := hall 14 _ rfl (by
     intro e he hbd
     simp at he
     )
    simpa using h9
   obtain rfl : b15 = true := by
    have h9 := hall 15 _ rfl (by
     intro e he hbd
     simp at he
     )
    simpa using h9
   obtain rfl : b16 = true := by
    have h9 := hall 16 _ rfl (by
     intro e he hbd
     simp at he
     rcases he with rfl | rfl | rfl | rfl | rfl | rfl | rfl | rfl | rfl | rfl | rfl | rfl | rfl | rfl | rfl | rfl | rfl | rfl | rfl <;> first | (simp; done) | (exact absurd hbd (by decide)) | (exact absurd hbd (by simp [Region.binds]))
     )
    simpa using h9
   obtain rfl : b17 = true := by
    have h9 := hall 17 _ rfl (by
     intro e he hbd
     simp at he
     rcases he with rfl | rfl | rfl | rfl | rfl | rfl | rfl | rfl | rfl | rfl | rfl | rfl | rfl | rfl | rfl | rfl | rfl | rfl | rfl | rfl <;> simp
     )
    simpa using h9
   clear hall
   simp only [fillS, pickS_true, pickS_false, Act.put, zz7, zz8, zz9, zz10, zz11, zz1, zz2, zz3, zz4, zz5, zz6] at ha
   subst ha
   refine NoPanic.normal ?_
   have Bwi := hide (Bu0.out.trans (FB.out.mono Bu0.out.size))
   have Kxwi := hide (Blk.below FB.out Zxu0 Kxu0.out)
   have Zxwi := Nat.lt_of_lt_of_le Zxu0 FB.out.size
   have Ktwi := hide (Blk.below FB.out Ztu0 Ktu0.out)
   have Ztwi := Nat.lt_of_lt_of_le Ztu0 FB.out.size
   have Kpwi := hide (FVp.out rfl).1
   have Zpwi := (FVp.out rfl).2.1
   have Kqwi := hide (FVq.out rfl).1
   have Zqwi := (FVq.out rfl).2.1
   clear FB FKp FVp FKq FVq FNpq FC13 FC16 FC17
   go_wp2_with fail
   go_meet
   case rel => exact ⟨_, _, rfl, rfl, unhide Kpwi, unhide Kqwi, unhide Bwi⟩
 case rest =>
  obtain ⟨g, h, rfl, rfl, hg, hh, hB⟩ := hcut
  obtain ⟨XL, hXL⟩ : ∃ l, l = srt3 x.wd x.ht x.dp := ⟨_, rfl⟩
  obtain ⟨TL, hTL⟩ : ∃ l, l = srt3 t.wd t.ht t.dp := ⟨_, rfl⟩
  have hg2 : Blk wc g (ci XL) := by rw [hXL]; exact hg
  have hh2 : Blk wc h (ci TL) := by rw [hTL]; exact hh
  have xl : XL.length = 3 := by rw [hXL]; rfl
  have tl : TL.length = 3 := by rw [hTL]; rfl
  have HXL := hide hXL
  have HTL := hide hTL
  have HGR : Hid (∀ w', Below W.heap.size W w' → w'.cell? ⟨G, 4, none⟩ = some (.int .i64 x.gram) ∧ w'.cell? ⟨G + 1, 5, none⟩ = some (.int .i64 t.gram)) := by
   intro w' hb
   exact ⟨(hb.cell (p := ⟨G, 4, none⟩) lt0).trans (HXX.out 4 (by simp)).1, (hb.cell (p := ⟨G + 1, 5, none⟩) lt1).trans (HTT.out 5 (by simp)).1⟩
  have HFIN : Hid (Below w.heap.size w W) := HB
  clear hXL hTL hg hh HXX HTT KS B1 HB HZ lt0 lt1
  go_wp2
  go_loopw [22] (fun i wr => ∃ k : Nat, k ≤ 3 ∧ i = .int .i64 (k : Int) ∧ (∀ m, m < k → XL.getD m 0 ≤ TL.getD m 0) ∧ Blk wr g (ci XL) ∧ Blk wr h (ci TL) ∧ Below W.heap.size W wr) (fun i _ => ((3 : Int) - intOf i).toNat)
  case atStart => exact ⟨0, by omega, rfl, fun m hm => by omega, hg2, hh2, hB⟩
  case round =>
   clear hg2 hh2 hB
   obtain ⟨k, hk, rfl, hle, kg, kh, hb⟩ := hrel
   by_cases hlt : k < 3
   · have c1 := (kg.int k (by omega)).1
     have c2 := (kh.int k (by omega)).1
     have HKG := hide kg
     have HKH := hide kh
     have HBB := hide hb
     have HLE := hide hle
     have i0 : (0 : Int) ≤ (k : Int) := by omega
     have i3 : (k : Int) < 3 := by omega
     clear kg kh hb hle
     generalize hxv : XL.getD k 0 = xv at *
     generalize htv : TL.getD k 0 = tv at *
     have HXV := hide hxv
     have HTV := hide htv
     clear hxv htv
     by_cases hgt : tv < xv
     · go_wp2
       go_quiet (fail)
       go_wp2
       go_ret
       refine ⟨ret_boolF ?_, HFIN.out.trans ((below_drewN HBB.out _).mono HFIN.out.size)⟩
       refine (fits_not x t ?_).symm
       intro hall
       have := hall k hlt
       rw [← unhide HXL, ← unhide HTL, unhide HXV, unhide HTV] at this
       omega
     · have hle2 : xv ≤ tv := by omega
       go_wp2
       go_quiet (fail)
       go_wp2
       go_roundw
       case rel =>
        refine ⟨k + 1, by omega, by go_num, fun m hm => ?_, HKG.out.drewn _, HKH.out.drewn _, below_drewN HBB.out _⟩
        by_cases e : m = k
        · subst e; rw [unhide HXV, unhide HTV]; exact hle2
        · exact HLE.out m (by omega)
       case measure => simp [intOf]; omega
   · have hk3 : k = 3 := by omega
     subst hk3
     obtain ⟨c4, c5⟩ := HGR.out _ hb
     have HBB := hide hb
     clear hb kg kh
     go_wp2
     go_ret
     refine ⟨ret_boolF (fits_all x t ?_).symm, HFIN.out.trans (HBB.out.mono HFIN.out.size)⟩
     intro m hm
     rw [← unhide HXL, ← unhide HTL]
     exact hle m hm
end Go.Proofs.YtcblpoeeembniabGreatDoor

/- The model's Fits. -/
namespace Go.Proofs.YtcblpoeeembniabGreatDoor
open Go.RowKit
set_option linter.unusedVariables false

theorem map_key_range (keys : List Int) : (List.range keys.length).map (key keys) = keys := by
 apply List.ext_getElem
 · simp
 · intro i h1 h2
   simp [key, h2]
theorem sortedKeys (keys : List Int) : ((sortP keys false (List.range keys.length)).map (key keys)).Perm keys ∧ upI ((sortP keys false (List.range keys.length)).map (key keys)) := by
 refine ⟨?_, ?_⟩
 · have h := (sortP_perm keys false (List.range keys.length)).map (key keys)
   rwa [map_key_range] at h
 · unfold upI
   rw [List.pairwise_map]
   refine (sortP_sorted keys false _ List.nodup_range).imp ?_
   intro a b h
   have := lts_of_bef h
   simp [lts] at this
   omega
theorem three_of {l : List Nat} (h : l.Perm (List.range 3)) : ∃ p q r, l = [p, q, r] ∧ p < 3 ∧ q < 3 ∧ r < 3 := by
 have hl := h.length_eq
 simp at hl
 match l, hl with
 | [p, q, r], _ =>
  refine ⟨p, q, r, rfl, ?_, ?_, ?_⟩
  · exact List.mem_range.1 (h.mem_iff.1 (by simp))
  · exact List.mem_range.1 (h.mem_iff.1 (by simp))
  · exact List.mem_range.1 (h.mem_iff.1 (by simp))

set_option maxHeartbeats 1600000 in
theorem l5Sides_any (a b c : Int) (w : World) : Calls Tryz.prog 83 #[.int .i64 a, .int .i64 b, .int .i64 c] w fun e w' =>
 ∃ g, e = .returned (.slice (some ⟨g, 0, none⟩) 3 3) ∧ Blk w' g (ci (srt3 a b c)) ∧ w.heap.size ≤ g ∧ g < w'.heap.size ∧ Below w.heap.size w w' := by
 have hs := sortedKeys [a, b, c]
 have hr := (sortP_perm [a, b, c] false (List.range 3))
 obtain ⟨p, q, r, hpqr, hp, hq, hr3⟩ := three_of hr
 have hsrt : [key [a, b, c] p, key [a, b, c] q, key [a, b, c] r] = srt3 a b c := by
  have h3 : [a, b, c].length = 3 := rfl
  rw [h3, hpqr] at hs
  exact srt3_of hs.1 hs.2
 have HS := hide hsrt
 have HP := hide hpqr
 clear hs hr hsrt hpqr
 go_enter Tryz.func83, Tryz.ntmps83
 go_wp2_with fail
 have hB0 : Blk (w.alloc (.cells #[.int .i64 a, .int .i64 b, .int .i64 c] 3)) w.heap.size (ci [a, b, c]) := Blk.allocAt (ci [a, b, c]) rfl
 have H0 : Hid (Below w.heap.size w (w.alloc (.cells #[.int .i64 a, .int .i64 b, .int .i64 c] 3))) := (Below.refl _ _).alloc (Nat.le_refl _) _
 have z0 : w.heap.size < (w.alloc (.cells #[.int .i64 a, .int .i64 b, .int .i64 c] 3)).heap.size := by simp
 have hR : Rd (w.alloc (.cells #[.int .i64 a, .int .i64 b, .int .i64 c] 3)) (some ⟨w.heap.size, 0, none⟩) 3 [a, b, c] := ⟨rfl, fun i hi => ⟨w.heap.size, 0, rfl, by rw [Nat.zero_add]; exact (hB0.int i hi).1⟩⟩
 generalize w.alloc (.cells #[.int .i64 a, .int .i64 b, .int .i64 c] 3) = W at *
 refine (specSortUp_any _ 3 3 [a, b, c] _ hR (by omega)).mono ?_
 rintro e w1 ⟨g, cc, rfl, ho, hb⟩
 rw [unhide HP] at ho
 have s0 := ho.cellAt 0 (by omega)
 have s1 := ho.cellAt 1 (by omega)
 have s2 := ho.cellAt 2 (by omega)
 simp only [cellsN, List.map_cons, List.map_nil, List.getElem?_cons_zero, List.getElem?_cons_succ] at s0 s1 s2
 have hB1 := Blk.below hb z0 hB0
 have k0 : w1.cell? ⟨w.heap.size, p, none⟩ = some (.int .i64 (key [a, b, c] p)) := (hB1.int p hp).1
 have k1 : w1.cell? ⟨w.heap.size, q, none⟩ = some (.int .i64 (key [a, b, c] q)) := (hB1.int q hq).1
 have k2 : w1.cell? ⟨w.heap.size, r, none⟩ = some (.int .i64 (key [a, b, c] r)) := (hB1.int r hr3).1
 have H1 := hide (H0.out.trans (hb.mono H0.out.size))
 have z1 : w.heap.size ≤ w1.heap.size := H1.out.size
 clear hR hB0 ho hB1 H0 hb z0
 generalize hkp : key [a, b, c] p = kp at *
 generalize hkq : key [a, b, c] q = kq at *
 generalize hkr : key [a, b, c] r = kr at *
 clear hkp hkq hkr
 have ip : (p : Int) < 3 := by omega
 have iq : (q : Int) < 3 := by omega
 have ir : (r : Int) < 3 := by omega
 have KS : Hid (∀ w', Below w1.heap.size w1 w' → (w'.cell? ⟨g, 0, none⟩ = some (.int .i64 (p : Int)) ∧ w'.cell? ⟨g, 1, none⟩ = some (.int .i64 (q : Int)) ∧ w'.cell? ⟨g, 2, none⟩ = some (.int .i64 (r : Int)) ∧ w'.cell? ⟨w.heap.size, p, none⟩ = some (.int .i64 kp) ∧ w'.cell? ⟨w.heap.size, q, none⟩ = some (.int .i64 kq) ∧ w'.cell? ⟨w.heap.size, r, none⟩ = some (.int .i64 kr))) := by
  intro w' hb
  exact ⟨(hb.cell (World.block_lt_of_cell? w1 _ s0)).trans s0, (hb.cell (World.block_lt_of_cell? w1 _ s1)).trans s1, (hb.cell (World.block_lt_of_cell? w1 _ s2)).trans s2, (hb.cell (World.block_lt_of_cell? w1 _ k0)).trans k0, (hb.cell (World.block_lt_of_cell? w1 _ k1)).trans k1, (hb.cell (World.block_lt_of_cell? w1 _ k2)).trans k2⟩
 go_wp2
 go_region_held3 (fun w' => w'.cell? ⟨g, 0, none⟩ = some (.int .i64 (p : Int)) ∧ w'.cell? ⟨g, 1, none⟩ = some (.int .i64 (q : Int)) ∧ w'.cell? ⟨g, 2, none⟩ = some (.int .i64 (r : Int)) ∧ w'.cell? ⟨w.heap.size, p, none⟩ = some (.int .i64 kp) ∧ w'.cell? ⟨w.heap.size, q, none⟩ = some (.int .i64 kq) ∧ w'.cell? ⟨w.heap.size, r, none⟩ = some (.int .i64 kr)) (first | exact KS.out _ (Below.refl _ _).drew | exact KS.out _ (bw_alloc (Below.refl _ _) _).drew | exact KS.out _ (bw_alloc (Below.refl _ _).drew _)) (fail)
 go_wp2
 go_ret
 refine ⟨_, rfl, ?_, z1, by simp, ?_⟩
 · rw [← unhide HS]
   exact Blk.allocAt (ci [kp, kq, kr]) rfl
 · exact (H1.out.alloc z1 _).drew

theorem fits_eq (x : ItemV) (t : TypeV) (a b c d : Bool) (h1 : decide (lo3 x.wd x.ht x.dp ≤ lo3 t.wd t.ht t.dp) = a) (h2 : decide (mid3 x.wd x.ht x.dp ≤ mid3 t.wd t.ht t.dp) = b) (h3 : decide (hi3 x.wd x.ht x.dp ≤ hi3 t.wd t.ht t.dp) = c) (h4 : decide (x.gram ≤ t.gram) = d) : fitsB x t = (a && b && c && d) := by
 rw [fitsB, sidesLe, h1, h2, h3, h4]
set_option maxHeartbeats 1600000 in
theorem specFits_any (x : ItemV) (t : TypeV) (w : World) : Calls Tryz.prog 52 #[.agg #[.int .i64 x.id, .int .i64 x.wd, .int .i64 x.ht, .int .i64 x.dp, .int .i64 x.gram, .int .i64 x.cls, .int .i64 x.cnt], .agg #[.int .i64 t.id, .int .i64 t.wd, .int .i64 t.ht, .int .i64 t.dp, .int .i64 t.tare, .int .i64 t.gram, .int .i64 t.cost]] w fun e w' => e = .returned (.bool (fitsB x t)) ∧ Below w.heap.size w w' := by
 go_enter Tryz.func52, Tryz.ntmps52
 go_wp2_with fail
 have HX : Blk ((w.alloc (.cells #[.int .i64 x.id, .int .i64 x.wd, .int .i64 x.ht, .int .i64 x.dp, .int .i64 x.gram, .int .i64 x.cls, .int .i64 x.cnt] 89)).alloc (.cells #[.int .i64 t.id, .int .i64 t.wd, .int .i64 t.ht, .int .i64 t.dp, .int .i64 t.tare, .int .i64 t.gram, .int .i64 t.cost] 54)) w.heap.size [.int .i64 x.id, .int .i64 x.wd, .int .i64 x.ht, .int .i64 x.dp, .int .i64 x.gram, .int .i64 x.cls, .int .i64 x.cnt] := (Blk.allocAt [.int .i64 x.id, .int .i64 x.wd, .int .i64 x.ht, .int .i64 x.dp, .int .i64 x.gram, .int .i64 x.cls, .int .i64 x.cnt] rfl).allocOld (by simp) _
 have HT : Blk ((w.alloc (.cells #[.int .i64 x.id, .int .i64 x.wd, .int .i64 x.ht, .int .i64 x.dp, .int .i64 x.gram, .int .i64 x.cls, .int .i64 x.cnt] 89)).alloc (.cells #[.int .i64 t.id, .int .i64 t.wd, .int .i64 t.ht, .int .i64 t.dp, .int .i64 t.tare, .int .i64 t.gram, .int .i64 t.cost] 54)) (w.heap.size + 1) [.int .i64 t.id, .int .i64 t.wd, .int .i64 t.ht, .int .i64 t.dp, .int .i64 t.tare, .int .i64 t.gram, .int .i64 t.cost] := Blk.allocAt [.int .i64 t.id, .int .i64 t.wd, .int .i64 t.ht, .int .i64 t.dp, .int .i64 t.tare, .int .i64 t.gram, .int .i64 t.cost] (by simp)
 have HB : Hid (Below w.heap.size w ((w.alloc (.cells #[.int .i64 x.id, .int .i64 x.wd, .int .i64 x.ht, .int .i64 x.dp, .int .i64 x.gram, .int .i64 x.cls, .int .i64 x.cnt] 89)).alloc (.cells #[.int .i64 t.id, .int .i64 t.wd, .int .i64 t.ht, .int .i64 t.dp, .int .i64 t.tare, .int .i64 t.gram, .int .i64 t.cost] 54))) := ((Below.refl w.heap.size w).alloc (Nat.le_refl _) _).alloc (by simp) _
 have hz : w.heap.size + 1 < ((w.alloc (.cells #[.int .i64 x.id, .int .i64 x.wd, .int .i64 x.ht, .int .i64 x.dp, .int .i64 x.gram, .int .i64 x.cls, .int .i64 x.cnt] 89)).alloc (.cells #[.int .i64 t.id, .int .i64 t.wd, .int .i64 t.ht, .int .i64 t.dp, .int .i64 t.tare, .int .i64 t.gram, .int .i64 t.cost] 54)).heap.size := by simp
 generalize (w.alloc (.cells #[.int .i64 x.id, .int .i64 x.wd, .int .i64 x.ht, .int .i64 x.dp, .int .i64 x.gram, .int .i64 x.cls, .int .i64 x.cnt] 89)).alloc (.cells #[.int .i64 t.id, .int .i64 t.wd, .int .i64 t.ht, .int .i64 t.dp, .int .i64 t.tare, .int .i64 t.gram, .int .i64 t.cost] 54) = W at *
 refine (l5Sides_any _ _ _ _).mono ?_
 rintro e w1 ⟨g, rfl, hg, hgB, hgz, hb1⟩
 have HX1 := Blk.below hb1 (by omega) HX
 have HT1 := Blk.below hb1 hz HT
 have H1 := hide (HB.out.trans (hb1.mono HB.out.size))
 have z1 : w.heap.size + 1 < w1.heap.size := Nat.lt_of_lt_of_le hz hb1.size
 have t1 := (HT1 1 (by simp)).1
 have t2 := (HT1 2 (by simp)).1
 have t3 := (HT1 3 (by simp)).1
 simp only [List.getElem?_cons_zero, List.getElem?_cons_succ] at t1 t2 t3
 have HHX := hide HX1
 have HHT := hide HT1
 have HHG := hide hg
 clear hb1 HX HT HX1 HT1 HB hg hz
 go_wp2_with fail
 refine (l5Sides_any _ _ _ _).mono ?_
 rintro e w2 ⟨h, rfl, hh, hhB, hhz, hb2⟩
 have HX2 := Blk.below hb2 (by omega) HHX.out
 have HT2 := Blk.below hb2 z1 HHT.out
 have hg := Blk.below hb2 hgz HHG.out
 have H2 := hide (H1.out.trans (hb2.mono H1.out.size))
 have x4 := (HX2 4 (by simp)).1
 have t5 := (HT2 5 (by simp)).1
 have a0 := (hg 0 (by simp [ci, srt3])).1
 have a1 := (hg 1 (by simp [ci, srt3])).1
 have a2 := (hg 2 (by simp [ci, srt3])).1
 have b0 := (hh 0 (by simp [ci, srt3])).1
 have b1 := (hh 1 (by simp [ci, srt3])).1
 have b2 := (hh 2 (by simp [ci, srt3])).1
 simp only [ci, srt3, List.map_cons, List.map_nil, List.getElem?_cons_zero, List.getElem?_cons_succ] at a0 a1 a2 b0 b1 b2 x4 t5
 clear hb2 HHX HHT HHG HX2 HT2 hg hh t1 t2 t3 H1
 have HF := hide (fits_eq x t)
 generalize lo3 x.wd x.ht x.dp = p0 at *
 generalize mid3 x.wd x.ht x.dp = p1 at *
 generalize hi3 x.wd x.ht x.dp = p2 at *
 generalize lo3 t.wd t.ht t.dp = q0 at *
 generalize mid3 t.wd t.ht t.dp = q1 at *
 generalize hi3 t.wd t.ht t.dp = q2 at *
 generalize x.gram = p3 at *
 generalize t.gram = q3 at *
 cases d0 : decide (p0 ≤ q0) <;> cases d1 : decide (p1 ≤ q1) <;> cases d2 : decide (p2 ≤ q2)
 all_goals
  have e0 := HF.out _ _ _ _ d0 d1 d2 rfl
  have HE := hide e0
  clear e0
  go_wp2
  go_quiet (fail)
  go_wp2
  go_ret
  refine ⟨ret_boolF ?_, below_drewN H2.out _⟩
  rw [unhide HE]
  simp
end Go.Proofs.YtcblpoeeembniabGreatDoor
