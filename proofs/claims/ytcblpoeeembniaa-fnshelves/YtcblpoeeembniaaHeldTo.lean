/- A region that draws its order, in which one cell is read by a load and written by what waits for that load: the load may be taken first, though the cell is held only till then. -/
import Derived.OrdersHeld
import Derived.Deep.RegionHeld
namespace Go.Proofs.Ytcblpoeeembniaa
open Go
set_option linter.unusedVariables false

section
variable {P : Program} {ops : Array Oper} {Q : Exit → Act → World → Prop} {md : Region.Mode} {S : World → Prop} {T : List Nat}

/-- Whatever order is picked; S holds behind each operation but those of T. -/
def wpTo (P : Program) (md : Region.Mode) (ops : Array Oper) (Q : Exit → Act → World → Prop) (S : World → Prop) (T : List Nat) : Nat → Array Bool → Act → World → Prop
 | 0, listed, a, w => Region.ready md ops listed = [] ∧ Q .normal a w
 | fuel + 1, listed, a, w =>
  (Region.ready md ops listed = [] → Q .normal a w) ∧
  ∀ i ∈ Region.ready md ops listed, wpOp P ops Q i (fun a' w' => (i ∉ T → S w') ∧ wpTo P md ops Q S T fuel (listed.setIfInBounds i true) a' w') a w

theorem wpAny_of_to : ∀ (fuel : Nat) (listed : Array Bool) (a : Act) (w : World), wpTo P md ops Q S T fuel listed a w → wpAny P md ops Q fuel listed a w
 | 0, _, _, _, h => h
 | fuel + 1, _, _, _, h => ⟨h.1, fun i hi => wpOp_mono (fun a' w' h' => wpAny_of_to fuel _ a' w' h'.2) (h.2 i hi)⟩

/-- What has come up, with all that it waits for. -/
def Closed (md : Region.Mode) (ops : Array Oper) (listed : Array Bool) : Prop := ∀ m o, ops[m]? = some o → listed.getD m false = true → ∀ e ∈ o.after, Region.binds md e = true → listed.getD e.on false = true
theorem Closed.set {listed : Array Bool} {j : Nat} (h : Closed md ops listed) (hj : j ∈ Region.ready md ops listed) : Closed md ops (listed.setIfInBounds j true) := by
 intro m o hm hl e he hb
 obtain ⟨_, oj, hoj, hall⟩ := mem_ready.1 hj
 by_cases hjm : j = m
 · subst hjm
   rw [hoj] at hm
   cases hm
   exact getD_set_true (hall e he hb)
 · rw [getD_set_ne false hjm] at hl
   exact getD_set_true (h m o hm hl e he hb)
/-- j waits for i, by some steps. -/
def reachB (md : Region.Mode) (ops : Array Oper) (i : Nat) : Nat → Nat → Bool
 | 0, _ => false
 | n + 1, j => ((ops[j]?).map fun o => o.after.any fun e => Region.binds md e && (e.on == i || reachB md ops i n e.on)).getD false
theorem reach_spec {i : Nat} {listed : Array Bool} (hc : Closed md ops listed) : ∀ (n j : Nat), reachB md ops i n j = true → (∀ oj, ops[j]? = some oj → ∀ e ∈ oj.after, Region.binds md e = true → listed.getD e.on false = true) → listed.getD i false = true
 | 0, _, h, _ => by cases h
 | n + 1, j, h, hall => by
  unfold reachB at h
  cases ho : ops[j]? with
  | none => rw [ho] at h; cases h
  | some o =>
   rw [ho] at h
   simp only [Option.map_some, Option.getD_some, Array.any_eq_true] at h
   obtain ⟨m, hm, h3⟩ := h
   simp only [Bool.and_eq_true, Bool.or_eq_true, beq_iff_eq] at h3
   have hl := hall o ho _ (Array.getElem_mem hm) h3.1
   rcases h3.2 with h4 | h4
   · rwa [h4] at hl
   · exact reach_spec hc n _ h4 (fun oj hoj e he hb => hc _ oj hoj hl e he hb)
/-- Each of T waits for i, or has come up. -/
def waits (md : Region.Mode) (ops : Array Oper) (T : List Nat) (i : Nat) : Bool := T.all fun j => j != i && reachB md ops i ops.size j
def closedB (md : Region.Mode) (ops : Array Oper) (listed : Array Bool) : Bool :=
 (List.range ops.size).all fun m => !listed.getD m false || ((ops[m]?).map fun o => o.after.all fun e => !Region.binds md e || listed.getD e.on false).getD true
theorem closed_of {listed : Array Bool} (h : closedB md ops listed = true) : Closed md ops listed := by
 intro m o hm hl e he hb
 have h1 := List.all_eq_true.1 h m (List.mem_range.2 (Array.getElem?_eq_some_iff.1 hm).1)
 rw [hl, hm] at h1
 simp only [Bool.not_true, Bool.false_or, Option.map_some, Option.getD_some] at h1
 have h2 := Array.all_eq_true_iff_forall_mem.1 h1 e he
 rw [hb] at h2
 simpa using h2

theorem wpTo_first {i : Nat} {oi : Oper} {v : Value} (hi : ops[i]? = some oi) (hsel : ∀ (j : Nat) (o : Oper) cs b, ops[j]? = some o → o.op ≠ .select cs b)
 (hQ : ∀ c a w, Q (.panic c) (a.put oi.dst v) w → Q (.panic c) a w) (hT : waits md ops T i = true) :
 ∀ (fuel : Nat) (listed : Array Bool) (a : Act) (w : World), Closed md ops listed →
  (∀ j oj, ops[j]? = some oj → j ≠ i → listed.getD j true = false → (∀ e ∈ oj.after, Region.binds md e = true → e.on ≠ i) → oi.apart ops oj = true) →
  i ∈ Region.ready md ops listed → YieldsIf P ops S oi v a → S w →
  wpTo P md ops Q S T fuel (listed.setIfInBounds i true) (a.put oi.dst v) w → wpTo P md ops Q S T (fuel + 1) listed a w := by
 intro fuel
 induction fuel with
 | zero =>
  intro listed a w _ _ hr hy hS H
  refine ⟨fun h => (by rw [h] at hr; cases hr), fun j hj => ?_⟩
  by_cases hji : j = i
  · subst hji
    exact hy.wpOp hi hS ⟨fun _ => hS, H⟩
  · have h1 := ready_mono hj hji
    rw [H.1] at h1
    cases h1
 | succ fuel ih =>
  intro listed a w hcl hfree hr hy hS H
  have hun : listed.getD i true = false := (mem_ready.1 hr).1
  have hnl : ¬ listed.getD i false = true := by
   intro h1
   rcases Nat.lt_or_ge i listed.size with h' | h'
   · simp [h'] at hun h1
     rw [hun] at h1
     cases h1
   · simp [Array.getElem?_eq_none h'] at h1
  refine ⟨fun h => (by rw [h] at hr; cases hr), fun j hj => ?_⟩
  by_cases hji : j = i
  · subst hji
    exact hy.wpOp hi hS ⟨fun _ => hS, H⟩
  · have h1 := H.2 j (ready_mono hj hji)
    obtain ⟨hjun, oj, hoj, hall⟩ := mem_ready.1 hj
    have hnot : ∀ e ∈ oj.after, Region.binds md e = true → e.on ≠ i := fun e he hb heq => hnl (heq ▸ hall e he hb)
    have hjT : j ∉ T := fun hm => by
     have h5 := List.all_eq_true.1 hT j hm
     simp only [Bool.and_eq_true] at h5
     exact hnl (reach_spec hcl _ _ h5.2 (fun o ho e he hb => by rw [hoj] at ho; cases ho; exact hall e he hb))
    have h2 := wpOp_putIf hoj (hfree j oj hoj hji hjun hnot) (fun cs b => hsel i oi cs b hi) (fun cs b => hsel j oj cs b hoj) hQ hy h1
    refine wpOp_mono (fun a' w' h3 => ⟨fun _ => h3.2.1 hjT, ih (listed.setIfInBounds j true) a' w' (hcl.set hj) (fun m om hm hmi hu hno => ?_) (ready_mono hr (Ne.symm hji)) h3.1 (h3.2.1 hjT) ?_⟩) h2
    · refine hfree m om hm hmi ?_ hno
      by_cases hjm : j = m
      · subst hjm; exact hjun
      · rw [getD_set_ne true hjm] at hu; exact hu
    · rw [Array.setIfInBounds_comm _ _ hji]
      exact h3.2.2

/-- Take number i first. -/
theorem wpTo_take {i : Nat} {oi : Oper} {v : Value} {fuel : Nat} {listed : Array Bool} {a : Act} {w : World} (hi : ops[i]? = some oi)
 (hs : Region.noSelect ops = true) (hf : Region.free md ops listed i = true) (hr : (Region.ready md ops listed).contains i = true) (hw : waits md ops T i = true) (hc : closedB md ops listed = true)
 (hQ : ∀ c a w, Q (.panic c) (a.put oi.dst v) w → Q (.panic c) a w) (hy : YieldsIf P ops S oi v a) (hS : S w)
 (h : wpTo P md ops Q S T fuel (listed.setIfInBounds i true) (a.put oi.dst v) w) : wpTo P md ops Q S T (fuel + 1) listed a w :=
 wpTo_first hi (Region.noSelect_spec hs) hQ hw fuel listed a w (closed_of hc) (Region.free_spec hi hf) (by simpa using hr) hy hS h

/-- The same, its closed conditions as one. -/
theorem wpTo_tk {i : Nat} {oi : Oper} {v : Value} {fuel : Nat} {listed : Array Bool} {a : Act} {w : World} (hi : ops[i]? = some oi)
 (hb : (Region.noSelect ops && (Region.free md ops listed i && ((Region.ready md ops listed).contains i && (waits md ops T i && closedB md ops listed)))) = true)
 (hy : YieldsIf P ops S oi v a) (hS : S w) (h : wpTo P md ops Q S T fuel (listed.setIfInBounds i true) (a.put oi.dst v) w)
 (hQ : ∀ c a w, Q (.panic c) (a.put oi.dst v) w → Q (.panic c) a w := by exact fun _ _ _ h => h) : wpTo P md ops Q S T (fuel + 1) listed a w := by
 simp only [Bool.and_eq_true] at hb
 obtain ⟨h1, h2, h3, h4, h5⟩ := hb
 exact wpTo_take hi h1 h2 h3 h4 h5 hQ hy hS h
/-- What yields where S' holds, which S grants. -/
theorem wpTo_ts {i : Nat} {oi : Oper} {v : Value} {fuel : Nat} {listed : Array Bool} {a : Act} {w : World} {S' : World → Prop} (hi : ops[i]? = some oi)
 (hb : (Region.noSelect ops && (Region.free md ops listed i && ((Region.ready md ops listed).contains i && (waits md ops T i && closedB md ops listed)))) = true)
 (hSd : ∀ w, S w → S' w) (hg : Region.wanted oi (yielded ops a.tmps) = true) (hy : ∀ w, S' w → (execOp a.eval oi).run P w = .ok (.value v) w) (hS : S w)
 (h : wpTo P md ops Q S T fuel (listed.setIfInBounds i true) (a.put oi.dst v) w)
 (hQ : ∀ c a w, Q (.panic c) (a.put oi.dst v) w → Q (.panic c) a w := by exact fun _ _ _ h => h) : wpTo P md ops Q S T (fuel + 1) listed a w :=
 wpTo_tk hi hb (Or.inl ⟨hg, fun w h => hy w (hSd w h)⟩) hS h hQ
def AllTo (P : Program) (md : Region.Mode) (ops : Array Oper) (Q : Exit → Act → World → Prop) (S : World → Prop) (T : List Nat) (fuel : Nat) (listed : Array Bool) (a : Act) (w : World) (rs : List Nat) : Prop :=
 ∀ i ∈ rs, wpOp P ops Q i (fun a' w' => (i ∉ T → S w') ∧ wpTo P md ops Q S T fuel (listed.setIfInBounds i true) a' w') a w
theorem AllTo.nil {fuel : Nat} {listed : Array Bool} {a : Act} {w : World} : AllTo P md ops Q S T fuel listed a w [] := fun _ h => by cases h
theorem AllTo.cons {fuel : Nat} {listed : Array Bool} {a : Act} {w : World} {i : Nat} {o : Oper} {rs : List Nat} (ho : ops[i]? = some o)
 (h : ∀ K' : Act → World → Prop, Shut (∀ a w, (i ∉ T → S w) → wpTo P md ops Q S T fuel (listed.setIfInBounds i true) a w → K' a w) → if Region.wanted o (yielded ops a.tmps) = true then Oper.wp P o a w K' Q else K' (a.put o.dst undef) w)
 (hs : AllTo P md ops Q S T fuel listed a w rs) : AllTo P md ops Q S T fuel listed a w (i :: rs) := fun j hj => by
 rcases List.mem_cons.1 hj with rfl | hj
 · exact wpOp_step ho (fun K' hK => h K' (fun a w hS hW => hK a w ⟨hS, hW⟩))
 · exact hs j hj
theorem wpTo_ready {rs : List Nat} {fuel : Nat} {listed : Array Bool} {a : Act} {w : World} (hr : Region.ready md ops listed = rs) (hne : rs ≠ [])
 (h : AllTo P md ops Q S T fuel listed a w rs) : wpTo P md ops Q S T (fuel + 1) listed a w := ⟨fun h0 => absurd (hr ▸ h0) hne, hr ▸ h⟩
theorem wpTo_done {listed : Array Bool} {a : Act} {w : World} (hr : Region.ready md ops listed = []) (h : Q .normal a w) :
 ∀ fuel, wpTo P md ops Q S T fuel listed a w
 | 0 => ⟨hr, h⟩
 | _ + 1 => ⟨fun _ => h, by rw [hr]; simp⟩
theorem wp_region_to {id : Nat} {a : Act} {w : World} (hm : P.follows .mixedOrders = true) (hS : S w.drew)
 (h : S w.drew → wpTo P .any ops Q S T ops.size (Array.replicate ops.size false) a w.drew) : (Code.region id ops true).wp P Q a w :=
 wp_region_any hm (wpAny_of_to _ _ _ _ (h hS))
end
end Go.Proofs.Ytcblpoeeembniaa
