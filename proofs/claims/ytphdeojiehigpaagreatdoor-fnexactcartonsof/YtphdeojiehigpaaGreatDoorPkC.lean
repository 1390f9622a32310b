/- FitsPlain, HeldTo, FitsImpl, FitsSpec: one text. -/
import Derived.Test.YtphdeojiehigpaaGreatDoorPkB
import Derived.OrdersHeld
import Derived.Deep.RegionHeld
import Derived.Test.YtphdeojiehigpaaGreatDoorPkA
import Derived.Deep.DeepCutAuto
import Derived.Deep.DeepMust
import Derived.Deep.RegionHeld3
/- Three sides in order; what fits; plain. -/
namespace Go.Proofs.YtphdeojiehigpaaGreatDoor
set_option linter.unusedVariables false

def lo3 (a b c : Int) : Int := min a (min b c)
def hi3 (a b c : Int) : Int := max a (max b c)
def mid3 (a b c : Int) : Int := max (min a b) (min (max a b) c)
def srt3 (a b c : Int) : List Int := [lo3 a b c, mid3 a b c, hi3 a b c]
theorem srt3_up (a b c : Int) : upI (srt3 a b c) := by
  unfold upI srt3
  refine List.pairwise_cons.2 ⟨fun x hx => ?_, List.pairwise_cons.2 ⟨fun x hx => ?_, List.pairwise_cons.2 ⟨fun x hx => ?_, List.Pairwise.nil⟩⟩⟩
  · simp only [List.mem_cons, List.not_mem_nil, or_false, mid3, hi3] at hx
    unfold lo3
    omega
  · simp only [List.mem_cons, List.not_mem_nil, or_false, hi3] at hx
    unfold mid3
    omega
  · simp at hx
theorem srt3_perm (a b c : Int) : (srt3 a b c).Perm [a, b, c] := by
  have h : srt3 a b c = [a, b, c] ∨ srt3 a b c = [a, c, b] ∨ srt3 a b c = [b, a, c] ∨ srt3 a b c = [b, c, a] ∨ srt3 a b c = [c, a, b] ∨ srt3 a b c = [c, b, a] := by
    simp only [srt3, lo3, mid3, hi3, List.cons.injEq, and_true]
    omega
  rcases h with h | h | h | h | h | h <;> rw [h]
  · exact List.Perm.cons _ (List.Perm.swap _ _ _)
  · exact List.Perm.swap _ _ _
  · exact (List.Perm.cons _ (List.Perm.swap _ _ _)).trans (List.Perm.swap _ _ _)
  · exact (List.Perm.swap _ _ _).trans (List.Perm.cons _ (List.Perm.swap _ _ _))
  · exact ((List.Perm.swap _ _ _).trans (List.Perm.cons _ (List.Perm.swap _ _ _))).trans (List.Perm.swap _ _ _)
theorem srt3_of {M : List Int} {a b c : Int} (hp : M.Perm [a, b, c]) (hs : upI M) : M = srt3 a b c :=
  List.Perm.eq_of_pairwise (fun x y _ _ h1 h2 => Int.le_antisymm h1 h2) hs (srt3_up a b c) (hp.trans (srt3_perm a b c).symm)

/-- Each side of the one at most that of the other, the least with the least and so on. -/
def sidesLe (a b c p q r : Int) : Bool := decide (lo3 a b c ≤ lo3 p q r) && decide (mid3 a b c ≤ mid3 p q r) && decide (hi3 a b c ≤ hi3 p q r)
def fitsB (x : ItemV) (t : TypeV) : Bool := sidesLe x.wd x.ht x.dp t.wd t.ht t.dp && decide (x.gram ≤ t.gram)
end Go.Proofs.YtphdeojiehigpaaGreatDoor

/- A region that draws its order, in which one cell is read by a load and written by what waits for that load: the load may be taken first, though the cell is held only till then. -/
namespace Go.Proofs.YtphdeojiehigpaaGreatDoor
open Go
set_option linter.unusedVariables false

section
variable {P : Program} {ops : Array Oper} {Q : Exit → Act → World → Prop} {md : Region.Mode} {S : World → Prop} {T : List Nat}

/-- Whatever order is picked; S holds behind each operation but those of T. -/
def wpTo (P : Program) (md : Region.Mode) (ops : Array Oper) (Q : Exit → Act → World → Prop) (S : World → Prop) (T : List Nat) : Nat → Array Bool → Act → World → Prop
  | 0, listed, a, w => Region.ready md ops listed = [] ∧ Q .normal a w
  | fuel + 1, listed, a, w =>
    (Region.ready md ops listed = [] → Q .normal a w) ∧
    ∀ i ∈ Region.ready md ops listed, wpOp P ops Q i (fun a' w' => (i ∉ T → S w') ∧ wpTo P md ops Q S T fuel (listed.setIfInBounds i true) a' w') a w

theorem wpAny_of_to : ∀ (fuel : Nat) (listed : Array Bool) (a : Act) (w : World), wpTo P md ops Q S T fuel listed a w → wpAny P md ops Q fuel listed a w
  | 0, _, _, _, h => h
  | fuel + 1, _, _, _, h => ⟨h.1, fun i hi => wpOp_mono (fun a' w' h' => wpAny_of_to fuel _ a' w' h'.2) (h.2 i hi)⟩

/-- What has come up, with all that it waits for. -/
def Closed (md : Region.Mode) (ops : Array Oper) (listed : Array Bool) : Prop := ∀ m o, ops[m]? = some o → listed.getD m false = true → ∀ e ∈ o.after, Region.binds md e = true → listed.getD e.on false = true
theorem Closed.set {listed : Array Bool} {j : Nat} (h : Closed md ops listed) (hj : j ∈ Region.ready md ops listed) : Closed md ops (listed.setIfInBounds j true) := by
  intro m o hm hl e he hb
  obtain ⟨_, oj, hoj, hall⟩ := mem_ready.1 hj
  by_cases hjm : j = m
  · subst hjm
    rw [hoj] at hm
    cases hm
    exact getD_set_true (hall e he hb)
  · rw [getD_set_ne false hjm] at hl
    exact getD_set_true (h m o hm hl e he hb)
/-- j waits for i, by some steps. -/
def reachB (md : Region.Mode) (ops : Array Oper) (i : Nat) : Nat → Nat → Bool
  | 0, _ => false
  | n + 1, j => ((ops[j]?).map fun o => o.after.any fun e => Region.binds md e && (e.on == i || reachB md ops i n e.on)).getD false
theorem reach_spec {i : Nat} {listed : Array Bool} (hc : Closed md ops listed) : ∀ (n j : Nat), reachB md ops i n j = true → (∀ oj, ops[j]? = some oj → ∀ e ∈ oj.after, Region.binds md e = true → listed.getD e.on false = true) → listed.getD i false = true
  | 0, _, h, _ => by cases h
  | n + 1, j, h, hall => by
    unfold reachB at h
    cases ho : ops[j]? with
    | none => rw [ho] at h; cases h
    | some o =>
      rw [ho] at h
      simp only [Option.map_some, Option.getD_some, Array.any_eq_true] at h
      obtain ⟨m, hm, h3⟩ := h
      simp only [Bool.and_eq_true, Bool.or_eq_true, beq_iff_eq] at h3
      have hl := hall o ho _ (Array.getElem_mem hm) h3.1
      rcases h3.2 with h4 | h4
      · rwa [h4] at hl
      · exact reach_spec hc n _ h4 (fun oj hoj e he hb => hc _ oj hoj hl e he hb)
/-- Each of T waits for i, or has come up. -/
def waits (md : Region.Mode) (ops : Array Oper) (T : List Nat) (i : Nat) : Bool := T.all fun j => j != i && reachB md ops i ops.size j
def closedB (md : Region.Mode) (ops : Array Oper) (listed : Array Bool) : Bool :=
  (List.range ops.size).all fun m => !listed.getD m false || ((ops[m]?).map fun o => o.after.all fun e => !Region.binds md e || listed.getD e.on false).getD true
theorem closed_of {listed : Array Bool} (h : closedB md ops listed = true) : Closed md ops listed := by
  intro m o hm hl e he hb
  have h1 := List.all_eq_true.1 h m (List.mem_range.2 (Array.getElem?_eq_some_iff.1 hm).1)
  rw [hl, hm] at h1
  simp only [Bool.not_true, Bool.false_or, Option.map_some, Option.getD_some] at h1
  have h2 := Array.all_eq_true_iff_forall_mem.1 h1 e he
  rw [hb] at h2
  simpa using h2

theorem wpTo_first {i : Nat} {oi : Oper} {v : Value} (hi : ops[i]? = some oi) (hsel : ∀ (j : Nat) (o : Oper) cs b, ops[j]? = some o → o.op ≠ .select cs b)
    (hQ : ∀ c a w, Q (.panic c) (a.put oi.dst v) w → Q (.panic c) a w) (hT : waits md ops T i = true) :
    ∀ (fuel : Nat) (listed : Array Bool) (a : Act) (w : World), Closed md ops listed →
      (∀ j oj, ops[j]? = some oj → j ≠ i → listed.getD j true = false → (∀ e ∈ oj.after, Region.binds md e = true → e.on ≠ i) → oi.apart ops oj = true) →
      i ∈ Region.ready md ops listed → YieldsIf P ops S oi v a → S w →
      wpTo P md ops Q S T fuel (listed.setIfInBounds i true) (a.put oi.dst v) w → wpTo P md ops Q S T (fuel + 1) listed a w := by
  intro fuel
  induction fuel with
  | zero =>
    intro listed a w _ _ hr hy hS H
    refine ⟨fun h => (by rw [h] at hr; cases hr), fun j hj => ?_⟩
    by_cases hji : j = i
    · subst hji
      exact hy.wpOp hi hS ⟨fun _ => hS, H⟩
    · have h1 := ready_mono hj hji
      rw [H.1] at h1
      cases h1
  | succ fuel ih =>
    intro listed a w hcl hfree hr hy hS H
    have hun : listed.getD i true = false := (mem_ready.1 hr).1
    have hnl : ¬ listed.getD i false = true := by
      intro h1
      rcases Nat.lt_or_ge i listed.size with h' | h'
      · simp [h'] at hun h1
        rw [hun] at h1
        cases h1
      · simp [Array.getElem?_eq_none h'] at h1
    refine ⟨fun h => (by rw [h] at hr; cases hr), fun j hj => ?_⟩
    by_cases hji : j = i
    · subst hji
      exact hy.wpOp hi hS ⟨fun _ => hS, H⟩
    · have h1 := H.2 j (ready_mono hj hji)
      obtain ⟨hjun, oj, hoj, hall⟩ := mem_ready.1 hj
      have hnot : ∀ e ∈ oj.after, Region.binds md e = true → e.on ≠ i := fun e he hb heq => hnl (heq ▸ hall e he hb)
      have hjT : j ∉ T := fun hm => by
        have h5 := List.all_eq_true.1 hT j hm
        simp only [Bool.and_eq_true] at h5
        exact hnl (reach_spec hcl _ _ h5.2 (fun o ho e he hb => by rw [hoj] at ho; cases ho; exact hall e he hb))
      have h2 := wpOp_putIf hoj (hfree j oj hoj hji hjun hnot) (fun cs b => hsel i oi cs b hi) (fun cs b => hsel j oj cs b hoj) hQ hy h1
      refine wpOp_mono (fun a' w' h3 => ⟨fun _ => h3.2.1 hjT, ih (listed.setIfInBounds j true) a' w' (hcl.set hj) (fun m om hm hmi hu hno => ?_) (ready_mono hr (Ne.symm hji)) h3.1 (h3.2.1 hjT) ?_⟩) h2
      · refine hfree m om hm hmi ?_ hno
        by_cases hjm : j = m
        · subst hjm; exact hjun
        · rw [getD_set_ne true hjm] at hu; exact hu
      · rw [Array.setIfInBounds_comm _ _ hji]
        exact h3.2.2

/-- Take number i first. -/
theorem wpTo_take {i : Nat} {oi : Oper} {v : Value} {fuel : Nat} {listed : Array Bool} {a : Act} {w : World} (hi : ops[i]? = some oi)
    (hs : Region.noSelect ops = true) (hf : Region.free md ops listed i = true) (hr : (Region.ready md ops listed).contains i = true) (hw : waits md ops T i = true) (hc : closedB md ops listed = true)
    (hQ : ∀ c a w, Q (.panic c) (a.put oi.dst v) w → Q (.panic c) a w) (hy : YieldsIf P ops S oi v a) (hS : S w)
    (h : wpTo P md ops Q S T fuel (listed.setIfInBounds i true) (a.put oi.dst v) w) : wpTo P md ops Q S T (fuel + 1) listed a w :=
  wpTo_first hi (Region.noSelect_spec hs) hQ hw fuel listed a w (closed_of hc) (Region.free_spec hi hf) (by simpa using hr) hy hS h

/-- The same, its closed conditions as one. -/
theorem wpTo_tk {i : Nat} {oi : Oper} {v : Value} {fuel : Nat} {listed : Array Bool} {a : Act} {w : World} (hi : ops[i]? = some oi)
    (hb : (Region.noSelect ops && (Region.free md ops listed i && ((Region.ready md ops listed).contains i && (waits md ops T i && closedB md ops listed)))) = true)
    (hy : YieldsIf P ops S oi v a) (hS : S w) (h : wpTo P md ops Q S T fuel (listed.setIfInBounds i true) (a.put oi.dst v) w)
    (hQ : ∀ c a w, Q (.panic c) (a.put oi.dst v) w → Q (.panic c) a w := by exact fun _ _ _ h => h) : wpTo P md ops Q S T (fuel + 1) listed a w := by
  simp only [Bool.and_eq_true] at hb
  obtain ⟨h1, h2, h3, h4, h5⟩ := hb
  exact wpTo_take hi h1 h2 h3 h4 h5 hQ hy hS h
def AllTo (P : Program) (md : Region.Mode) (ops : Array Oper) (Q : Exit → Act → World → Prop) (S : World → Prop) (T : List Nat) (fuel : Nat) (listed : Array Bool) (a : Act) (w : World) (rs : List Nat) : Prop :=
  ∀ i ∈ rs, wpOp P ops Q i (fun a' w' => (i ∉ T → S w') ∧ wpTo P md ops Q S T fuel (listed.setIfInBounds i true) a' w') a w
theorem AllTo.nil {fuel : Nat} {listed : Array Bool} {a : Act} {w : World} : AllTo P md ops Q S T fuel listed a w [] := fun _ h => by cases h
theorem AllTo.cons {fuel : Nat} {listed : Array Bool} {a : Act} {w : World} {i : Nat} {o : Oper} {rs : List Nat} (ho : ops[i]? = some o)
    (h : ∀ K' : Act → World → Prop, Shut (∀ a w, (i ∉ T → S w) → wpTo P md ops Q S T fuel (listed.setIfInBounds i true) a w → K' a w) → if Region.wanted o (yielded ops a.tmps) = true then Oper.wp P o a w K' Q else K' (a.put o.dst undef) w)
    (hs : AllTo P md ops Q S T fuel listed a w rs) : AllTo P md ops Q S T fuel listed a w (i :: rs) := fun j hj => by
  rcases List.mem_cons.1 hj with rfl | hj
  · exact wpOp_step ho (fun K' hK => h K' (fun a w hS hW => hK a w ⟨hS, hW⟩))
  · exact hs j hj
theorem wpTo_ready {rs : List Nat} {fuel : Nat} {listed : Array Bool} {a : Act} {w : World} (hr : Region.ready md ops listed = rs) (hne : rs ≠ [])
    (h : AllTo P md ops Q S T fuel listed a w rs) : wpTo P md ops Q S T (fuel + 1) listed a w := ⟨fun h0 => absurd (hr ▸ h0) hne, hr ▸ h⟩
theorem wpTo_done {listed : Array Bool} {a : Act} {w : World} (hr : Region.ready md ops listed = []) (h : Q .normal a w) :
    ∀ fuel, wpTo P md ops Q S T fuel listed a w
  | 0 => ⟨hr, h⟩
  | _ + 1 => ⟨fun _ => h, by rw [hr]; simp⟩
theorem wp_region_to {id : Nat} {a : Act} {w : World} (hm : P.follows .mixedOrders = true) (hS : S w.drew)
    (h : S w.drew → wpTo P .any ops Q S T ops.size (Array.replicate ops.size false) a w.drew) : (Code.region id ops true).wp P Q a w :=
  wp_region_any hm (wpAny_of_to _ _ _ _ (h hS))
end
end Go.Proofs.YtphdeojiehigpaaGreatDoor

/- The program's Fits. -/
namespace Go.Proofs.YtphdeojiehigpaaGreatDoor
open Go.RowKit
set_option linter.unusedVariables false
set_option linter.unusedSimpArgs false

theorem fits_all (x : ItemV) (t : TypeV) (h : ∀ m, m < 3 → (srt3 x.wd x.ht x.dp).getD m 0 ≤ (srt3 t.wd t.ht t.dp).getD m 0) : fitsB x t = decide (x.gram ≤ t.gram) := by
  have h0 := h 0 (by omega)
  have h1 := h 1 (by omega)
  have h2 := h 2 (by omega)
  simp [srt3] at h0 h1 h2
  simp [fitsB, sidesLe, h0, h1, h2]
theorem fits_not (x : ItemV) (t : TypeV) (h : ¬ ∀ m, m < 3 → (srt3 x.wd x.ht x.dp).getD m 0 ≤ (srt3 t.wd t.ht t.dp).getD m 0) : fitsB x t = false := by
  cases e : fitsB x t
  · rfl
  · exfalso
    apply h
    simp [fitsB, sidesLe] at e
    intro m hm
    obtain rfl | rfl | rfl : m = 0 ∨ m = 1 ∨ m = 2 := by omega
    · simpa [srt3] using e.1.1.1
    · simpa [srt3] using e.1.1.2
    · simpa [srt3] using e.1.2
set_option maxHeartbeats 1600000 in
theorem sidesUp_any (a b c : Int) (w : World) : Calls Tryz.prog 176 #[.int .i64 a, .int .i64 b, .int .i64 c] w fun e w' =>
    e = .returned (.agg #[.int .i64 (lo3 a b c), .int .i64 (mid3 a b c), .int .i64 (hi3 a b c)]) ∧ Below w.heap.size w w' := by
  go_enter Tryz.func176, Tryz.ntmps176
  go_wp2_with fail
  refine (sortI_any (w.heap.size + 1) 3 3 [a, b, c] _ rfl (by omega) (by omega) ?_).mono ?_
  · exact Blk.allocAt (ci [a, b, c]) (by simp)
  rintro e w1 ⟨rfl, M, hp, hs, hB, hg⟩
  obtain rfl := srt3_of hp hs
  have c0 := (hB 0 (by simp [ci, srt3])).1
  have c1 := (hB 1 (by simp [ci, srt3])).1
  have c2 := (hB 2 (by simp [ci, srt3])).1
  simp only [ci, srt3, List.map_cons, List.map_nil, List.getElem?_cons_zero, List.getElem?_cons_succ] at c0 c1 c2
  have hR : Blk w1 w.heap.size [.int .i64 0, .int .i64 0, .int .i64 0] := Blk.gb ((Blk.allocAt [.int .i64 0, .int .i64 0, .int .i64 0] rfl).allocOld (by simp) _) hg (by simp; omega) (by omega)
  have r0 := (hR 0 (by simp)).1
  have r1 := (hR 1 (by simp)).1
  have r2 := (hR 2 (by simp)).1
  have f0 := (hR 0 (by simp)).2
  have f1 := (hR 1 (by simp)).2
  have f2 := (hR 2 (by simp)).2
  have HB : Hid (Below w.heap.size w w1) := (((Below.refl w.heap.size w).alloc (Nat.le_refl _) _).alloc (by simp) _).grown hg (by simp; omega) (by intro k hk; cases hk; omega)
  clear hR hB hg hp hs
  go_wp2_with fail
  refine bodyPost_ret (v := .agg #[.int .i64 (lo3 a b c), .int .i64 (mid3 a b c), .int .i64 (hi3 a b c)]) (by simp [results, Tryz.results176, go_sem, r0, r1, r2]) rfl ⟨rfl, ?_⟩
  exact (((unhide HB).setCell (Nat.le_refl _) _).setCell (Nat.le_refl _) _).setCell (Nat.le_refl _) _

set_option maxHeartbeats 4000000 in
theorem fits_any (x : ItemV) (t : TypeV) (w : World) : Calls Tryz.prog 129 #[.agg #[.int .i64 x.id, .int .i64 x.wd, .int .i64 x.ht, .int .i64 x.dp, .int .i64 x.gram, .int .i64 x.cls, .int .i64 x.cnt], .agg #[.int .i64 t.id, .int .i64 t.wd, .int .i64 t.ht, .int .i64 t.dp, .int .i64 t.tare, .int .i64 t.gram, .int .i64 t.cost]] w fun e w' => e = .returned (.bool (fitsB x t)) ∧ Below w.heap.size w w' := by
  go_enter Tryz.func129, Tryz.ntmps129
  go_wp2
  have HX : Blk ((w.alloc (.cells #[.int .i64 x.id, .int .i64 x.wd, .int .i64 x.ht, .int .i64 x.dp, .int .i64 x.gram, .int .i64 x.cls, .int .i64 x.cnt] 101)).alloc (.cells #[.int .i64 t.id, .int .i64 t.wd, .int .i64 t.ht, .int .i64 t.dp, .int .i64 t.tare, .int .i64 t.gram, .int .i64 t.cost] 55)) w.heap.size [.int .i64 x.id, .int .i64 x.wd, .int .i64 x.ht, .int .i64 x.dp, .int .i64 x.gram, .int .i64 x.cls, .int .i64 x.cnt] := (Blk.allocAt [.int .i64 x.id, .int .i64 x.wd, .int .i64 x.ht, .int .i64 x.dp, .int .i64 x.gram, .int .i64 x.cls, .int .i64 x.cnt] rfl).allocOld (by simp) _
  have HT : Blk ((w.alloc (.cells #[.int .i64 x.id, .int .i64 x.wd, .int .i64 x.ht, .int .i64 x.dp, .int .i64 x.gram, .int .i64 x.cls, .int .i64 x.cnt] 101)).alloc (.cells #[.int .i64 t.id, .int .i64 t.wd, .int .i64 t.ht, .int .i64 t.dp, .int .i64 t.tare, .int .i64 t.gram, .int .i64 t.cost] 55)) (w.heap.size + 1) [.int .i64 t.id, .int .i64 t.wd, .int .i64 t.ht, .int .i64 t.dp, .int .i64 t.tare, .int .i64 t.gram, .int .i64 t.cost] := Blk.allocAt [.int .i64 t.id, .int .i64 t.wd, .int .i64 t.ht, .int .i64 t.dp, .int .i64 t.tare, .int .i64 t.gram, .int .i64 t.cost] (by simp)
  have HB : Hid (Below w.heap.size w ((w.alloc (.cells #[.int .i64 x.id, .int .i64 x.wd, .int .i64 x.ht, .int .i64 x.dp, .int .i64 x.gram, .int .i64 x.cls, .int .i64 x.cnt] 101)).alloc (.cells #[.int .i64 t.id, .int .i64 t.wd, .int .i64 t.ht, .int .i64 t.dp, .int .i64 t.tare, .int .i64 t.gram, .int .i64 t.cost] 55))) := ((Below.refl w.heap.size w).alloc (Nat.le_refl _) _).alloc (by simp) _
  have hz : ((w.alloc (.cells #[.int .i64 x.id, .int .i64 x.wd, .int .i64 x.ht, .int .i64 x.dp, .int .i64 x.gram, .int .i64 x.cls, .int .i64 x.cnt] 101)).alloc (.cells #[.int .i64 t.id, .int .i64 t.wd, .int .i64 t.ht, .int .i64 t.dp, .int .i64 t.tare, .int .i64 t.gram, .int .i64 t.cost] 55)).heap.size = w.heap.size + 2 := by simp
  generalize (w.alloc (.cells #[.int .i64 x.id, .int .i64 x.wd, .int .i64 x.ht, .int .i64 x.dp, .int .i64 x.gram, .int .i64 x.cls, .int .i64 x.cnt] 101)).alloc (.cells #[.int .i64 t.id, .int .i64 t.wd, .int .i64 t.ht, .int .i64 t.dp, .int .i64 t.tare, .int .i64 t.gram, .int .i64 t.cost] 55) = W at *
  obtain ⟨G, hG⟩ : ∃ G, G = w.heap.size := ⟨_, rfl⟩
  rw [← hG] at HX HT hz ⊢
  have x1 : W.cell? ⟨G, 1, none⟩ = some (.int .i64 x.wd) := (HX 1 (by simp)).1
  have x2 : W.cell? ⟨G, 2, none⟩ = some (.int .i64 x.ht) := (HX 2 (by simp)).1
  have x3 : W.cell? ⟨G, 3, none⟩ = some (.int .i64 x.dp) := (HX 3 (by simp)).1
  have t1 : W.cell? ⟨G + 1, 1, none⟩ = some (.int .i64 t.wd) := (HT 1 (by simp)).1
  have t2 : W.cell? ⟨G + 1, 2, none⟩ = some (.int .i64 t.ht) := (HT 2 (by simp)).1
  have t3 : W.cell? ⟨G + 1, 3, none⟩ = some (.int .i64 t.dp) := (HT 3 (by simp)).1
  have HG := hide hG
  have KS : Hid (∀ w', Below W.heap.size W w' → (w'.cell? ⟨G, 1, none⟩ = some (.int .i64 x.wd) ∧ w'.cell? ⟨G, 2, none⟩ = some (.int .i64 x.ht) ∧ w'.cell? ⟨G, 3, none⟩ = some (.int .i64 x.dp)
     ∧ w'.cell? ⟨G + 1, 1, none⟩ = some (.int .i64 t.wd) ∧ w'.cell? ⟨G + 1, 2, none⟩ = some (.int .i64 t.ht) ∧ w'.cell? ⟨G + 1, 3, none⟩ = some (.int .i64 t.dp))) := by
    intro w' hb
    have l0 : G < W.heap.size := by omega
    have l1 : G + 1 < W.heap.size := by omega
    exact ⟨(hb.cell (p := ⟨G, 1, none⟩) l0).trans x1, (hb.cell (p := ⟨G, 2, none⟩) l0).trans x2, (hb.cell (p := ⟨G, 3, none⟩) l0).trans x3, (hb.cell (p := ⟨G + 1, 1, none⟩) l1).trans t1, (hb.cell (p := ⟨G + 1, 2, none⟩) l1).trans t2, (hb.cell (p := ⟨G + 1, 3, none⟩) l1).trans t3⟩
  have HXX := hide HX
  have HTT := hide HT
  have HZ := hide hz
  have lt0 : G < W.heap.size := by omega
  have lt1 : G + 1 < W.heap.size := by omega
  clear hG HX HT hz x1 x2 x3 t1 t2 t3
  have B1 : Hid (Below W.heap.size W W) := Below.refl _ _
  go_cut [5, 6] (fun p q wc => ∃ g h, p = .pointer (some ⟨g, 0, none⟩) ∧ q = .pointer (some ⟨h, 0, none⟩) ∧ Blk wc g [.int .i64 (lo3 x.wd x.ht x.dp), .int .i64 (mid3 x.wd x.ht x.dp), .int .i64 (hi3 x.wd x.ht x.dp)] ∧ Blk wc h [.int .i64 (lo3 t.wd t.ht t.dp), .int .i64 (mid3 t.wd t.ht t.dp), .int .i64 (hi3 t.wd t.ht t.dp)] ∧ Below W.heap.size W wc)
  case first =>
    refine wp_region_noPanic ?_
    refine wp_region_to (S := fun w' => w'.cell? ⟨G, 1, none⟩ = some (.int .i64 x.wd) ∧ w'.cell? ⟨G, 2, none⟩ = some (.int .i64 x.ht) ∧ w'.cell? ⟨G, 3, none⟩ = some (.int .i64 x.dp) ∧ w'.cell? ⟨G + 1, 1, none⟩ = some (.int .i64 t.wd) ∧ w'.cell? ⟨G + 1, 2, none⟩ = some (.int .i64 t.ht) ∧ w'.cell? ⟨G + 1, 3, none⟩ = some (.int .i64 t.dp)) (T := []) (by kernel_rfl) ((unhide KS) _ (Below.refl _ _).drew) (fun hHeld => ?_)
    have Bu0 : Hid (Below W.heap.size W W.drew) := (Below.refl _ _).drew
    generalize W.drew = u0 at *
    refine wpTo_tk (i := 0) (v := ?_) rfl (by kernel_rfl) (Or.inl ⟨by rfl, ?_⟩) (by assumption) ?_
    rotate_left
    · intro w hSw
      (try dsimp only at hSw)
      go_simp <;> with_reducible rfl
    refine wpTo_tk (i := 1) (v := ?_) rfl (by kernel_rfl) (Or.inl ⟨by rfl, ?_⟩) (by assumption) ?_
    rotate_left
    · intro w hSw
      (try dsimp only at hSw)
      go_simp <;> with_reducible rfl
    refine wpTo_tk (i := 2) (v := ?_) rfl (by kernel_rfl) (Or.inl ⟨by rfl, ?_⟩) (by assumption) ?_
    rotate_left
    · intro w hSw
      (try dsimp only at hSw)
      go_simp <;> with_reducible rfl
    try simp only [Act.put, List.getElem_toArray, List.getElem_cons_zero, List.getElem_cons_succ, List.setIfInBounds_toArray, List.set_cons_zero, List.set_cons_succ]
    refine wpTo_tk (i := 3) (v := ?_) rfl (by kernel_rfl) (Or.inl ⟨by rfl, ?_⟩) (by assumption) ?_
    rotate_left
    · intro w hSw
      (try dsimp only at hSw)
      go_simp <;> with_reducible rfl
    refine wpTo_tk (i := 4) (v := ?_) rfl (by kernel_rfl) (Or.inl ⟨by rfl, ?_⟩) (by assumption) ?_
    rotate_left
    · intro w hSw
      (try dsimp only at hSw)
      go_simp <;> with_reducible rfl
    refine wpTo_tk (i := 5) (v := ?_) rfl (by kernel_rfl) (Or.inl ⟨by rfl, ?_⟩) (by assumption) ?_
    rotate_left
    · intro w hSw
      (try dsimp only at hSw)
      go_simp <;> with_reducible rfl
    try simp only [Act.put, List.getElem_toArray, List.getElem_cons_zero, List.getElem_cons_succ, List.setIfInBounds_toArray, List.set_cons_zero, List.set_cons_succ]
    refine wpTo_tk (i := 7) (v := ?_) rfl (by kernel_rfl) (Or.inl ⟨by rfl, ?_⟩) (by assumption) ?_
    rotate_left
    · intro w hSw
      (try dsimp only at hSw)
      go_simp <;> with_reducible rfl
    refine wpTo_tk (i := 8) (v := ?_) rfl (by kernel_rfl) (Or.inl ⟨by rfl, ?_⟩) (by assumption) ?_
    rotate_left
    · intro w hSw
      (try dsimp only at hSw)
      go_simp <;> with_reducible rfl
    refine wpTo_tk (i := 9) (v := ?_) rfl (by kernel_rfl) (Or.inl ⟨by rfl, ?_⟩) (by assumption) ?_
    rotate_left
    · intro w hSw
      (try dsimp only at hSw)
      go_simp <;> with_reducible rfl
    try simp only [Act.put, List.getElem_toArray, List.getElem_cons_zero, List.getElem_cons_succ, List.setIfInBounds_toArray, List.set_cons_zero, List.set_cons_succ]
    refine wpTo_tk (i := 10) (v := ?_) rfl (by kernel_rfl) (Or.inl ⟨by rfl, ?_⟩) (by assumption) ?_
    rotate_left
    · intro w hSw
      (try dsimp only at hSw)
      go_simp <;> with_reducible rfl
    refine wpTo_tk (i := 11) (v := ?_) rfl (by kernel_rfl) (Or.inl ⟨by rfl, ?_⟩) (by assumption) ?_
    rotate_left
    · intro w hSw
      (try dsimp only at hSw)
      go_simp <;> with_reducible rfl
    refine wpTo_tk (i := 12) (v := ?_) rfl (by kernel_rfl) (Or.inl ⟨by rfl, ?_⟩) (by assumption) ?_
    rotate_left
    · intro w hSw
      (try dsimp only at hSw)
      go_simp <;> with_reducible rfl
    try simp only [Act.put, List.getElem_toArray, List.getElem_cons_zero, List.getElem_cons_succ, List.setIfInBounds_toArray, List.set_cons_zero, List.set_cons_succ]
    (try clear hHeld)
    refine wpTo_ready (rs := [6, 14, 15]) (by kernel_rfl) (by simp) ?_
    refine AllTo.cons (o := _) rfl (fun K hK => ?_) ?_
    · (try simp only [List.getElem_toArray, List.getElem_cons_zero, List.getElem_cons_succ])
      go_simp
      refine (sidesUp_any _ _ _ _).mono ?_
      rintro e u1 ⟨rfl, hb⟩
      have Bu1 := hide (bw_call (unhide Bu0) hb)
      clear hb
      go_wp2_with fail
      refine hK.out _ _ (fun _ => (unhide KS) _ (unhide Bu1)) ?_
      clear hK K
      try simp only [Act.put, List.getElem_toArray, List.getElem_cons_zero, List.getElem_cons_succ, List.setIfInBounds_toArray, List.set_cons_zero, List.set_cons_succ]
      (try clear hHeld)
      refine wpTo_ready (rs := [13, 14, 15]) (by kernel_rfl) (by simp) ?_
      refine AllTo.cons (o := _) rfl (fun K hK => ?_) ?_
      · (try simp only [List.getElem_toArray, List.getElem_cons_zero, List.getElem_cons_succ])
        go_simp
        refine (sidesUp_any _ _ _ _).mono ?_
        rintro e u2 ⟨rfl, hb⟩
        have Bu2 := hide (bw_call (unhide Bu1) hb)
        clear hb
        go_wp2_with fail
        refine hK.out _ _ (fun _ => (unhide KS) _ (unhide Bu2)) ?_
        clear hK K
        try simp only [Act.put, List.getElem_toArray, List.getElem_cons_zero, List.getElem_cons_succ, List.setIfInBounds_toArray, List.set_cons_zero, List.set_cons_succ]
        (try clear hHeld)
        refine wpTo_ready (rs := [14, 15]) (by kernel_rfl) (by simp) ?_
        refine AllTo.cons (o := _) rfl (fun K hK => ?_) ?_
        · (try simp only [List.getElem_toArray, List.getElem_cons_zero, List.getElem_cons_succ])
          go_simp
          refine hK.out _ _ (fun _ => (unhide KS) _ (bw_alloc (unhide Bu2) _)) ?_
          clear hK K
          try simp only [Act.put, List.getElem_toArray, List.getElem_cons_zero, List.getElem_cons_succ, List.setIfInBounds_toArray, List.set_cons_zero, List.set_cons_succ]
          have Bu3 : Hid (Below W.heap.size W (u2.alloc (.cells #[.int .i64 0, .int .i64 0, .int .i64 0] 212))) := bw_alloc (unhide Bu2) _
          have Kpu3 : Hid (Blk (u2.alloc (.cells #[.int .i64 0, .int .i64 0, .int .i64 0] 212)) u2.heap.size [.int .i64 0, .int .i64 0, .int .i64 0]) := Blk.allocAt [.int .i64 0, .int .i64 0, .int .i64 0] rfl
          have Lpu3 : u2.heap.size < (u2.alloc (.cells #[.int .i64 0, .int .i64 0, .int .i64 0] 212)).heap.size := by simp
          have Gp : W.heap.size ≤ u2.heap.size := (unhide Bu2).size
          generalize (u2.alloc (.cells #[.int .i64 0, .int .i64 0, .int .i64 0] 212)) = u3 at *
          (try clear hHeld)
          refine wpTo_ready (rs := [15]) (by kernel_rfl) (by simp) ?_
          refine AllTo.cons (o := _) rfl (fun K hK => ?_) ?_
          · (try simp only [List.getElem_toArray, List.getElem_cons_zero, List.getElem_cons_succ])
            go_simp
            refine hK.out _ _ (fun _ => (unhide KS) _ (bw_alloc (unhide Bu3) _)) ?_
            clear hK K
            try simp only [Act.put, List.getElem_toArray, List.getElem_cons_zero, List.getElem_cons_succ, List.setIfInBounds_toArray, List.set_cons_zero, List.set_cons_succ]
            have Bu4 : Hid (Below W.heap.size W (u3.alloc (.cells #[.int .i64 0, .int .i64 0, .int .i64 0] 212))) := bw_alloc (unhide Bu3) _
            have Kqu4 : Hid (Blk (u3.alloc (.cells #[.int .i64 0, .int .i64 0, .int .i64 0] 212)) u3.heap.size [.int .i64 0, .int .i64 0, .int .i64 0]) := Blk.allocAt [.int .i64 0, .int .i64 0, .int .i64 0] rfl
            have Lqu4 : u3.heap.size < (u3.alloc (.cells #[.int .i64 0, .int .i64 0, .int .i64 0] 212)).heap.size := by simp
            have Gq : W.heap.size ≤ u3.heap.size := (unhide Bu3).size
            have Kpu4 : Hid (Blk (u3.alloc (.cells #[.int .i64 0, .int .i64 0, .int .i64 0] 212)) u2.heap.size [.int .i64 0, .int .i64 0, .int .i64 0]) := (unhide Kpu3).allocOld Lpu3 _
            have Lpu4 : u2.heap.size < (u3.alloc (.cells #[.int .i64 0, .int .i64 0, .int .i64 0] 212)).heap.size := by simp; omega
            have Npq : u2.heap.size ≠ u3.heap.size := Nat.ne_of_lt Lpu3
            have Nqp : u3.heap.size ≠ u2.heap.size := Ne.symm Npq
            clear Kpu3 Lpu3
            generalize (u3.alloc (.cells #[.int .i64 0, .int .i64 0, .int .i64 0] 212)) = u4 at *
            (try clear hHeld)
            refine wpTo_ready (rs := [16]) (by kernel_rfl) (by simp) ?_
            refine AllTo.cons (o := _) rfl (fun K hK => ?_) ?_
            · (try simp only [List.getElem_toArray, List.getElem_cons_zero, List.getElem_cons_succ])
              have p0 := ((unhide Kpu4) 0 (by simp)).1
              have q0 := ((unhide Kpu4) 0 (by simp)).2
              have p1 := ((unhide Kpu4) 1 (by simp)).1
              have q1 := ((unhide Kpu4) 1 (by simp)).2
              have p2 := ((unhide Kpu4) 2 (by simp)).1
              have q2 := ((unhide Kpu4) 2 (by simp)).2
              go_simp
              refine hK.out _ _ (fun _ => (unhide KS) _ (bw_set (bw_set (bw_set (unhide Bu4) Gp _) Gp _) Gp _)) ?_
              clear hK K
              try simp only [Act.put, List.getElem_toArray, List.getElem_cons_zero, List.getElem_cons_succ, List.setIfInBounds_toArray, List.set_cons_zero, List.set_cons_succ]
              clear p0 q0 p1 q1 p2 q2
              have Bu5 : Hid (Below W.heap.size W (((u4.setCell ⟨u2.heap.size, 0, none⟩ (.int .i64 (lo3 x.wd x.ht x.dp))).setCell ⟨u2.heap.size, 1, none⟩ (.int .i64 (mid3 x.wd x.ht x.dp))).setCell ⟨u2.heap.size, 2, none⟩ (.int .i64 (hi3 x.wd x.ht x.dp)))) := (bw_set (bw_set (bw_set (unhide Bu4) Gp _) Gp _) Gp _)
              have Kpu5 : Hid (Blk (((u4.setCell ⟨u2.heap.size, 0, none⟩ (.int .i64 (lo3 x.wd x.ht x.dp))).setCell ⟨u2.heap.size, 1, none⟩ (.int .i64 (mid3 x.wd x.ht x.dp))).setCell ⟨u2.heap.size, 2, none⟩ (.int .i64 (hi3 x.wd x.ht x.dp))) u2.heap.size [.int .i64 (lo3 x.wd x.ht x.dp), .int .i64 (mid3 x.wd x.ht x.dp), .int .i64 (hi3 x.wd x.ht x.dp)]) := Blk.fill3 (unhide Kpu4)
              have Lpu5 : u2.heap.size < (((u4.setCell ⟨u2.heap.size, 0, none⟩ (.int .i64 (lo3 x.wd x.ht x.dp))).setCell ⟨u2.heap.size, 1, none⟩ (.int .i64 (mid3 x.wd x.ht x.dp))).setCell ⟨u2.heap.size, 2, none⟩ (.int .i64 (hi3 x.wd x.ht x.dp))).heap.size := by simpa using Lpu4
              have Kqu5 : Hid (Blk (((u4.setCell ⟨u2.heap.size, 0, none⟩ (.int .i64 (lo3 x.wd x.ht x.dp))).setCell ⟨u2.heap.size, 1, none⟩ (.int .i64 (mid3 x.wd x.ht x.dp))).setCell ⟨u2.heap.size, 2, none⟩ (.int .i64 (hi3 x.wd x.ht x.dp))) u3.heap.size [.int .i64 0, .int .i64 0, .int .i64 0]) := ((((unhide Kqu4).other Nqp).other Nqp).other Nqp)
              have Lqu5 : u3.heap.size < (((u4.setCell ⟨u2.heap.size, 0, none⟩ (.int .i64 (lo3 x.wd x.ht x.dp))).setCell ⟨u2.heap.size, 1, none⟩ (.int .i64 (mid3 x.wd x.ht x.dp))).setCell ⟨u2.heap.size, 2, none⟩ (.int .i64 (hi3 x.wd x.ht x.dp))).heap.size := by simpa using Lqu4
              clear Kqu4 Lqu4
              clear Kpu4 Lpu4
              generalize (((u4.setCell ⟨u2.heap.size, 0, none⟩ (.int .i64 (lo3 x.wd x.ht x.dp))).setCell ⟨u2.heap.size, 1, none⟩ (.int .i64 (mid3 x.wd x.ht x.dp))).setCell ⟨u2.heap.size, 2, none⟩ (.int .i64 (hi3 x.wd x.ht x.dp))) = u5 at *
              (try clear hHeld)
              refine wpTo_ready (rs := [17]) (by kernel_rfl) (by simp) ?_
              refine AllTo.cons (o := _) rfl (fun K hK => ?_) ?_
              · (try simp only [List.getElem_toArray, List.getElem_cons_zero, List.getElem_cons_succ])
                have p0 := ((unhide Kqu5) 0 (by simp)).1
                have q0 := ((unhide Kqu5) 0 (by simp)).2
                have p1 := ((unhide Kqu5) 1 (by simp)).1
                have q1 := ((unhide Kqu5) 1 (by simp)).2
                have p2 := ((unhide Kqu5) 2 (by simp)).1
                have q2 := ((unhide Kqu5) 2 (by simp)).2
                go_simp
                refine hK.out _ _ (fun _ => (unhide KS) _ (bw_set (bw_set (bw_set (unhide Bu5) Gq _) Gq _) Gq _)) ?_
                clear hK K
                try simp only [Act.put, List.getElem_toArray, List.getElem_cons_zero, List.getElem_cons_succ, List.setIfInBounds_toArray, List.set_cons_zero, List.set_cons_succ]
                clear p0 q0 p1 q1 p2 q2
                have Bu6 : Hid (Below W.heap.size W (((u5.setCell ⟨u3.heap.size, 0, none⟩ (.int .i64 (lo3 t.wd t.ht t.dp))).setCell ⟨u3.heap.size, 1, none⟩ (.int .i64 (mid3 t.wd t.ht t.dp))).setCell ⟨u3.heap.size, 2, none⟩ (.int .i64 (hi3 t.wd t.ht t.dp)))) := (bw_set (bw_set (bw_set (unhide Bu5) Gq _) Gq _) Gq _)
                have Kqu6 : Hid (Blk (((u5.setCell ⟨u3.heap.size, 0, none⟩ (.int .i64 (lo3 t.wd t.ht t.dp))).setCell ⟨u3.heap.size, 1, none⟩ (.int .i64 (mid3 t.wd t.ht t.dp))).setCell ⟨u3.heap.size, 2, none⟩ (.int .i64 (hi3 t.wd t.ht t.dp))) u3.heap.size [.int .i64 (lo3 t.wd t.ht t.dp), .int .i64 (mid3 t.wd t.ht t.dp), .int .i64 (hi3 t.wd t.ht t.dp)]) := Blk.fill3 (unhide Kqu5)
                have Lqu6 : u3.heap.size < (((u5.setCell ⟨u3.heap.size, 0, none⟩ (.int .i64 (lo3 t.wd t.ht t.dp))).setCell ⟨u3.heap.size, 1, none⟩ (.int .i64 (mid3 t.wd t.ht t.dp))).setCell ⟨u3.heap.size, 2, none⟩ (.int .i64 (hi3 t.wd t.ht t.dp))).heap.size := by simpa using Lqu5
                have Kpu6 : Hid (Blk (((u5.setCell ⟨u3.heap.size, 0, none⟩ (.int .i64 (lo3 t.wd t.ht t.dp))).setCell ⟨u3.heap.size, 1, none⟩ (.int .i64 (mid3 t.wd t.ht t.dp))).setCell ⟨u3.heap.size, 2, none⟩ (.int .i64 (hi3 t.wd t.ht t.dp))) u2.heap.size [.int .i64 (lo3 x.wd x.ht x.dp), .int .i64 (mid3 x.wd x.ht x.dp), .int .i64 (hi3 x.wd x.ht x.dp)]) := ((((unhide Kpu5).other Npq).other Npq).other Npq)
                have Lpu6 : u2.heap.size < (((u5.setCell ⟨u3.heap.size, 0, none⟩ (.int .i64 (lo3 t.wd t.ht t.dp))).setCell ⟨u3.heap.size, 1, none⟩ (.int .i64 (mid3 t.wd t.ht t.dp))).setCell ⟨u3.heap.size, 2, none⟩ (.int .i64 (hi3 t.wd t.ht t.dp))).heap.size := by simpa using Lpu5
                clear Kpu5 Lpu5
                clear Kqu5 Lqu5
                generalize (((u5.setCell ⟨u3.heap.size, 0, none⟩ (.int .i64 (lo3 t.wd t.ht t.dp))).setCell ⟨u3.heap.size, 1, none⟩ (.int .i64 (mid3 t.wd t.ht t.dp))).setCell ⟨u3.heap.size, 2, none⟩ (.int .i64 (hi3 t.wd t.ht t.dp))) = u6 at *
                refine wpTo_done (by kernel_rfl) ?_ _
                refine NoPanic.normal ?_
                go_wp2_with fail
                go_meet
                case rel => exact ⟨_, _, rfl, rfl, unhide Kpu6, unhide Kqu6, unhide Bu6⟩
              exact AllTo.nil
            exact AllTo.nil
          exact AllTo.nil
        refine AllTo.cons (o := _) rfl (fun K hK => ?_) ?_
        · (try simp only [List.getElem_toArray, List.getElem_cons_zero, List.getElem_cons_succ])
          go_simp
          refine hK.out _ _ (fun _ => (unhide KS) _ (bw_alloc (unhide Bu2) _)) ?_
          clear hK K
          try simp only [Act.put, List.getElem_toArray, List.getElem_cons_zero, List.getElem_cons_succ, List.setIfInBounds_toArray, List.set_cons_zero, List.set_cons_succ]
          have Bu3 : Hid (Below W.heap.size W (u2.alloc (.cells #[.int .i64 0, .int .i64 0, .int .i64 0] 212))) := bw_alloc (unhide Bu2) _
          have Kqu3 : Hid (Blk (u2.alloc (.cells #[.int .i64 0, .int .i64 0, .int .i64 0] 212)) u2.heap.size [.int .i64 0, .int .i64 0, .int .i64 0]) := Blk.allocAt [.int .i64 0, .int .i64 0, .int .i64 0] rfl
          have Lqu3 : u2.heap.size < (u2.alloc (.cells #[.int .i64 0, .int .i64 0, .int .i64 0] 212)).heap.size := by simp
          have Gq : W.heap.size ≤ u2.heap.size := (unhide Bu2).size
          generalize (u2.alloc (.cells #[.int .i64 0, .int .i64 0, .int .i64 0] 212)) = u3 at *
          (try clear hHeld)
          refine wpTo_ready (rs := [14]) (by kernel_rfl) (by simp) ?_
          refine AllTo.cons (o := _) rfl (fun K hK => ?_) ?_
          · (try simp only [List.getElem_toArray, List.getElem_cons_zero, List.getElem_cons_succ])
            go_simp
            refine hK.out _ _ (fun _ => (unhide KS) _ (bw_alloc (unhide Bu3) _)) ?_
            clear hK K
            try simp only [Act.put, List.getElem_toArray, List.getElem_cons_zero, List.getElem_cons_succ, List.setIfInBounds_toArray, List.set_cons_zero, List.set_cons_succ]
            have Bu4 : Hid (Below W.heap.size W (u3.alloc (.cells #[.int .i64 0, .int .i64 0, .int .i64 0] 212))) := bw_alloc (unhide Bu3) _
            have Kpu4 : Hid (Blk (u3.alloc (.cells #[.int .i64 0, .int .i64 0, .int .i64 0] 212)) u3.heap.size [.int .i64 0, .int .i64 0, .int .i64 0]) := Blk.allocAt [.int .i64 0, .int .i64 0, .int .i64 0] rfl
            have Lpu4 : u3.heap.size < (u3.alloc (.cells #[.int .i64 0, .int .i64 0, .int .i64 0] 212)).heap.size := by simp
            have Gp : W.heap.size ≤ u3.heap.size := (unhide Bu3).size
            have Kqu4 : Hid (Blk (u3.alloc (.cells #[.int .i64 0, .int .i64 0, .int .i64 0] 212)) u2.heap.size [.int .i64 0, .int .i64 0, .int .i64 0]) := (unhide Kqu3).allocOld Lqu3 _
            have Lqu4 : u2.heap.size < (u3.alloc (.cells #[.int .i64 0, .int .i64 0, .int .i64 0] 212)).heap.size := by simp; omega
            have Nqp : u2.heap.size ≠ u3.heap.size := Nat.ne_of_lt Lqu3
            have Npq : u3.heap.size ≠ u2.heap.size := Ne.symm Nqp
            clear Kqu3 Lqu3
            generalize (u3.alloc (.cells #[.int .i64 0, .int .i64 0, .int .i64 0] 212)) = u4 at *
            (try clear hHeld)
            refine wpTo_ready (rs := [16]) (by kernel_rfl) (by simp) ?_
            refine AllTo.cons (o := _) rfl (fun K hK => ?_) ?_
            · (try simp only [List.getElem_toArray, List.getElem_cons_zero, List.getElem_cons_succ])
              have p0 := ((unhide Kpu4) 0 (by simp)).1
              have q0 := ((unhide Kpu4) 0 (by simp)).2
              have p1 := ((unhide Kpu4) 1 (by simp)).1
              have q1 := ((unhide Kpu4) 1 (by simp)).2
              have p2 := ((unhide Kpu4) 2 (by simp)).1
              have q2 := ((unhide Kpu4) 2 (by simp)).2
              go_simp
              refine hK.out _ _ (fun _ => (unhide KS) _ (bw_set (bw_set (bw_set (unhide Bu4) Gp _) Gp _) Gp _)) ?_
              clear hK K
              try simp only [Act.put, List.getElem_toArray, List.getElem_cons_zero, List.getElem_cons_succ, List.setIfInBounds_toArray, List.set_cons_zero, List.set_cons_succ]
              clear p0 q0 p1 q1 p2 q2
              have Bu5 : Hid (Below W.heap.size W (((u4.setCell ⟨u3.heap.size, 0, none⟩ (.int .i64 (lo3 x.wd x.ht x.dp))).setCell ⟨u3.heap.size, 1, none⟩ (.int .i64 (mid3 x.wd x.ht x.dp))).setCell ⟨u3.heap.size, 2, none⟩ (.int .i64 (hi3 x.wd x.ht x.dp)))) := (bw_set (bw_set (bw_set (unhide Bu4) Gp _) Gp _) Gp _)
              have Kpu5 : Hid (Blk (((u4.setCell ⟨u3.heap.size, 0, none⟩ (.int .i64 (lo3 x.wd x.ht x.dp))).setCell ⟨u3.heap.size, 1, none⟩ (.int .i64 (mid3 x.wd x.ht x.dp))).setCell ⟨u3.heap.size, 2, none⟩ (.int .i64 (hi3 x.wd x.ht x.dp))) u3.heap.size [.int .i64 (lo3 x.wd x.ht x.dp), .int .i64 (mid3 x.wd x.ht x.dp), .int .i64 (hi3 x.wd x.ht x.dp)]) := Blk.fill3 (unhide Kpu4)
              have Lpu5 : u3.heap.size < (((u4.setCell ⟨u3.heap.size, 0, none⟩ (.int .i64 (lo3 x.wd x.ht x.dp))).setCell ⟨u3.heap.size, 1, none⟩ (.int .i64 (mid3 x.wd x.ht x.dp))).setCell ⟨u3.heap.size, 2, none⟩ (.int .i64 (hi3 x.wd x.ht x.dp))).heap.size := by simpa using Lpu4
              have Kqu5 : Hid (Blk (((u4.setCell ⟨u3.heap.size, 0, none⟩ (.int .i64 (lo3 x.wd x.ht x.dp))).setCell ⟨u3.heap.size, 1, none⟩ (.int .i64 (mid3 x.wd x.ht x.dp))).setCell ⟨u3.heap.size, 2, none⟩ (.int .i64 (hi3 x.wd x.ht x.dp))) u2.heap.size [.int .i64 0, .int .i64 0, .int .i64 0]) := ((((unhide Kqu4).other Nqp).other Nqp).other Nqp)
              have Lqu5 : u2.heap.size < (((u4.setCell ⟨u3.heap.size, 0, none⟩ (.int .i64 (lo3 x.wd x.ht x.dp))).setCell ⟨u3.heap.size, 1, none⟩ (.int .i64 (mid3 x.wd x.ht x.dp))).setCell ⟨u3.heap.size, 2, none⟩ (.int .i64 (hi3 x.wd x.ht x.dp))).heap.size := by simpa using Lqu4
              clear Kqu4 Lqu4
              clear Kpu4 Lpu4
              generalize (((u4.setCell ⟨u3.heap.size, 0, none⟩ (.int .i64 (lo3 x.wd x.ht x.dp))).setCell ⟨u3.heap.size, 1, none⟩ (.int .i64 (mid3 x.wd x.ht x.dp))).setCell ⟨u3.heap.size, 2, none⟩ (.int .i64 (hi3 x.wd x.ht x.dp))) = u5 at *
              (try clear hHeld)
              refine wpTo_ready (rs := [17]) (by kernel_rfl) (by simp) ?_
              refine AllTo.cons (o := _) rfl (fun K hK => ?_) ?_
              · (try simp only [List.getElem_toArray, List.getElem_cons_zero, List.getElem_cons_succ])
                have p0 := ((unhide Kqu5) 0 (by simp)).1
                have q0 := ((unhide Kqu5) 0 (by simp)).2
                have p1 := ((unhide Kqu5) 1 (by simp)).1
                have q1 := ((unhide Kqu5) 1 (by simp)).2
                have p2 := ((unhide Kqu5) 2 (by simp)).1
                have q2 := ((unhide Kqu5) 2 (by simp)).2
                go_simp
                refine hK.out _ _ (fun _ => (unhide KS) _ (bw_set (bw_set (bw_set (unhide Bu5) Gq _) Gq _) Gq _)) ?_
                clear hK K
                try simp only [Act.put, List.getElem_toArray, List.getElem_cons_zero, List.getElem_cons_succ, List.setIfInBounds_toArray, List.set_cons_zero, List.set_cons_succ]
                clear p0 q0 p1 q1 p2 q2
                have Bu6 : Hid (Below W.heap.size W (((u5.setCell ⟨u2.heap.size, 0, none⟩ (.int .i64 (lo3 t.wd t.ht t.dp))).setCell ⟨u2.heap.size, 1, none⟩ (.int .i64 (mid3 t.wd t.ht t.dp))).setCell ⟨u2.heap.size, 2, none⟩ (.int .i64 (hi3 t.wd t.ht t.dp)))) := (bw_set (bw_set (bw_set (unhide Bu5) Gq _) Gq _) Gq _)
                have Kqu6 : Hid (Blk (((u5.setCell ⟨u2.heap.size, 0, none⟩ (.int .i64 (lo3 t.wd t.ht t.dp))).setCell ⟨u2.heap.size, 1, none⟩ (.int .i64 (mid3 t.wd t.ht t.dp))).setCell ⟨u2.heap.size, 2, none⟩ (.int .i64 (hi3 t.wd t.ht t.dp))) u2.heap.size [.int .i64 (lo3 t.wd t.ht t.dp), .int .i64 (mid3 t.wd t.ht t.dp), .int .i64 (hi3 t.wd t.ht t.dp)]) := Blk.fill3 (unhide Kqu5)
                have Lqu6 : u2.heap.size < (((u5.setCell ⟨u2.heap.size, 0, none⟩ (.int .i64 (lo3 t.wd t.ht t.dp))).setCell ⟨u2.heap.size, 1, none⟩ (.int .i64 (mid3 t.wd t.ht t.dp))).setCell ⟨u2.heap.size, 2, none⟩ (.int .i64 (hi3 t.wd t.ht t.dp))).heap.size := by simpa using Lqu5
                have Kpu6 : Hid (Blk (((u5.setCell ⟨u2.heap.size, 0, none⟩ (.int .i64 (lo3 t.wd t.ht t.dp))).setCell ⟨u2.heap.size, 1, none⟩ (.int .i64 (mid3 t.wd t.ht t.dp))).setCell ⟨u2.heap.size, 2, none⟩ (.int .i64 (hi3 t.wd t.ht t.dp))) u3.heap.size [.int .i64 (lo3 x.wd x.ht x.dp), .int .i64 (mid3 x.wd x.ht x.dp), .int .i64 (hi3 x.wd x.ht x.dp)]) := ((((unhide Kpu5).other Npq).other Npq).other Npq)
                have Lpu6 : u3.heap.size < (((u5.setCell ⟨u2.heap.size, 0, none⟩ (.int .i64 (lo3 t.wd t.ht t.dp))).setCell ⟨u2.heap.size, 1, none⟩ (.int .i64 (mid3 t.wd t.ht t.dp))).setCell ⟨u2.heap.size, 2, none⟩ (.int .i64 (hi3 t.wd t.ht t.dp))).heap.size := by simpa using Lpu5
                clear Kpu5 Lpu5
                clear Kqu5 Lqu5
                generalize (((u5.setCell ⟨u2.heap.size, 0, none⟩ (.int .i64 (lo3 t.wd t.ht t.dp))).setCell ⟨u2.heap.size, 1, none⟩ (.int .i64 (mid3 t.wd t.ht t.dp))).setCell ⟨u2.heap.size, 2, none⟩ (.int .i64 (hi3 t.wd t.ht t.dp))) = u6 at *
                refine wpTo_done (by kernel_rfl) ?_ _
                refine NoPanic.normal ?_
                go_wp2_with fail
                go_meet
                case rel => exact ⟨_, _, rfl, rfl, unhide Kpu6, unhide Kqu6, unhide Bu6⟩
              exact AllTo.nil
            exact AllTo.nil
          exact AllTo.nil
        exact AllTo.nil
      refine AllTo.cons (o := _) rfl (fun K hK => ?_) ?_
      · (try simp only [List.getElem_toArray, List.getElem_cons_zero, List.getElem_cons_succ])
        go_simp
        refine hK.out _ _ (fun _ => (unhide KS) _ (bw_alloc (unhide Bu1) _)) ?_
        clear hK K
        try simp only [Act.put, List.getElem_toArray, List.getElem_cons_zero, List.getElem_cons_succ, List.setIfInBounds_toArray, List.set_cons_zero, List.set_cons_succ]
        have Bu2 : Hid (Below W.heap.size W (u1.alloc (.cells #[.int .i64 0, .int .i64 0, .int .i64 0] 212))) := bw_alloc (unhide Bu1) _
        have Kpu2 : Hid (Blk (u1.alloc (.cells #[.int .i64 0, .int .i64 0, .int .i64 0] 212)) u1.heap.size [.int .i64 0, .int .i64 0, .int .i64 0]) := Blk.allocAt [.int .i64 0, .int .i64 0, .int .i64 0] rfl
        have Lpu2 : u1.heap.size < (u1.alloc (.cells #[.int .i64 0, .int .i64 0, .int .i64 0] 212)).heap.size := by simp
        have Gp : W.heap.size ≤ u1.heap.size := (unhide Bu1).size
        generalize (u1.alloc (.cells #[.int .i64 0, .int .i64 0, .int .i64 0] 212)) = u2 at *
        (try clear hHeld)
        refine wpTo_ready (rs := [13, 15]) (by kernel_rfl) (by simp) ?_
        refine AllTo.cons (o := _) rfl (fun K hK => ?_) ?_
        · (try simp only [List.getElem_toArray, List.getElem_cons_zero, List.getElem_cons_succ])
          go_simp
          refine (sidesUp_any _ _ _ _).mono ?_
          rintro e u3 ⟨rfl, hb⟩
          have Bu3 := hide (bw_call (unhide Bu2) hb)
          have Kpu3 := hide (Blk.below hb Lpu2 (unhide Kpu2))
          have Lpu3 : u1.heap.size < u3.heap.size := Nat.lt_of_lt_of_le Lpu2 hb.size
          clear hb
          go_wp2_with fail
          refine hK.out _ _ (fun _ => (unhide KS) _ (unhide Bu3)) ?_
          clear hK K
          try simp only [Act.put, List.getElem_toArray, List.getElem_cons_zero, List.getElem_cons_succ, List.setIfInBounds_toArray, List.set_cons_zero, List.set_cons_succ]
          clear Kpu2 Lpu2
          (try clear hHeld)
          refine wpTo_ready (rs := [15]) (by kernel_rfl) (by simp) ?_
          refine AllTo.cons (o := _) rfl (fun K hK => ?_) ?_
          · (try simp only [List.getElem_toArray, List.getElem_cons_zero, List.getElem_cons_succ])
            go_simp
            refine hK.out _ _ (fun _ => (unhide KS) _ (bw_alloc (unhide Bu3) _)) ?_
            clear hK K
            try simp only [Act.put, List.getElem_toArray, List.getElem_cons_zero, List.getElem_cons_succ, List.setIfInBounds_toArray, List.set_cons_zero, List.set_cons_succ]
            have Bu4 : Hid (Below W.heap.size W (u3.alloc (.cells #[.int .i64 0, .int .i64 0, .int .i64 0] 212))) := bw_alloc (unhide Bu3) _
            have Kqu4 : Hid (Blk (u3.alloc (.cells #[.int .i64 0, .int .i64 0, .int .i64 0] 212)) u3.heap.size [.int .i64 0, .int .i64 0, .int .i64 0]) := Blk.allocAt [.int .i64 0, .int .i64 0, .int .i64 0] rfl
            have Lqu4 : u3.heap.size < (u3.alloc (.cells #[.int .i64 0, .int .i64 0, .int .i64 0] 212)).heap.size := by simp
            have Gq : W.heap.size ≤ u3.heap.size := (unhide Bu3).size
            have Kpu4 : Hid (Blk (u3.alloc (.cells #[.int .i64 0, .int .i64 0, .int .i64 0] 212)) u1.heap.size [.int .i64 0, .int .i64 0, .int .i64 0]) := (unhide Kpu3).allocOld Lpu3 _
            have Lpu4 : u1.heap.size < (u3.alloc (.cells #[.int .i64 0, .int .i64 0, .int .i64 0] 212)).heap.size := by simp; omega
            have Npq : u1.heap.size ≠ u3.heap.size := Nat.ne_of_lt Lpu3
            have Nqp : u3.heap.size ≠ u1.heap.size := Ne.symm Npq
            clear Kpu3 Lpu3
            generalize (u3.alloc (.cells #[.int .i64 0, .int .i64 0, .int .i64 0] 212)) = u4 at *
            (try clear hHeld)
            refine wpTo_ready (rs := [16]) (by kernel_rfl) (by simp) ?_
            refine AllTo.cons (o := _) rfl (fun K hK => ?_) ?_
            · (try simp only [List.getElem_toArray, List.getElem_cons_zero, List.getElem_cons_succ])
              have p0 := ((unhide Kpu4) 0 (by simp)).1
              have q0 := ((unhide Kpu4) 0 (by simp)).2
              have p1 := ((unhide Kpu4) 1 (by simp)).1
              have q1 := ((unhide Kpu4) 1 (by simp)).2
              have p2 := ((unhide Kpu4) 2 (by simp)).1
              have q2 := ((unhide Kpu4) 2 (by simp)).2
              go_simp
              refine hK.out _ _ (fun _ => (unhide KS) _ (bw_set (bw_set (bw_set (unhide Bu4) Gp _) Gp _) Gp _)) ?_
              clear hK K
              try simp only [Act.put, List.getElem_toArray, List.getElem_cons_zero, List.getElem_cons_succ, List.setIfInBounds_toArray, List.set_cons_zero, List.set_cons_succ]
              clear p0 q0 p1 q1 p2 q2
              have Bu5 : Hid (Below W.heap.size W (((u4.setCell ⟨u1.heap.size, 0, none⟩ (.int .i64 (lo3 x.wd x.ht x.dp))).setCell ⟨u1.heap.size, 1, none⟩ (.int .i64 (mid3 x.wd x.ht x.dp))).setCell ⟨u1.heap.size, 2, none⟩ (.int .i64 (hi3 x.wd x.ht x.dp)))) := (bw_set (bw_set (bw_set (unhide Bu4) Gp _) Gp _) Gp _)
              have Kpu5 : Hid (Blk (((u4.setCell ⟨u1.heap.size, 0, none⟩ (.int .i64 (lo3 x.wd x.ht x.dp))).setCell ⟨u1.heap.size, 1, none⟩ (.int .i64 (mid3 x.wd x.ht x.dp))).setCell ⟨u1.heap.size, 2, none⟩ (.int .i64 (hi3 x.wd x.ht x.dp))) u1.heap.size [.int .i64 (lo3 x.wd x.ht x.dp), .int .i64 (mid3 x.wd x.ht x.dp), .int .i64 (hi3 x.wd x.ht x.dp)]) := Blk.fill3 (unhide Kpu4)
              have Lpu5 : u1.heap.size < (((u4.setCell ⟨u1.heap.size, 0, none⟩ (.int .i64 (lo3 x.wd x.ht x.dp))).setCell ⟨u1.heap.size, 1, none⟩ (.int .i64 (mid3 x.wd x.ht x.dp))).setCell ⟨u1.heap.size, 2, none⟩ (.int .i64 (hi3 x.wd x.ht x.dp))).heap.size := by simpa using Lpu4
              have Kqu5 : Hid (Blk (((u4.setCell ⟨u1.heap.size, 0, none⟩ (.int .i64 (lo3 x.wd x.ht x.dp))).setCell ⟨u1.heap.size, 1, none⟩ (.int .i64 (mid3 x.wd x.ht x.dp))).setCell ⟨u1.heap.size, 2, none⟩ (.int .i64 (hi3 x.wd x.ht x.dp))) u3.heap.size [.int .i64 0, .int .i64 0, .int .i64 0]) := ((((unhide Kqu4).other Nqp).other Nqp).other Nqp)
              have Lqu5 : u3.heap.size < (((u4.setCell ⟨u1.heap.size, 0, none⟩ (.int .i64 (lo3 x.wd x.ht x.dp))).setCell ⟨u1.heap.size, 1, none⟩ (.int .i64 (mid3 x.wd x.ht x.dp))).setCell ⟨u1.heap.size, 2, none⟩ (.int .i64 (hi3 x.wd x.ht x.dp))).heap.size := by simpa using Lqu4
              clear Kqu4 Lqu4
              clear Kpu4 Lpu4
              generalize (((u4.setCell ⟨u1.heap.size, 0, none⟩ (.int .i64 (lo3 x.wd x.ht x.dp))).setCell ⟨u1.heap.size, 1, none⟩ (.int .i64 (mid3 x.wd x.ht x.dp))).setCell ⟨u1.heap.size, 2, none⟩ (.int .i64 (hi3 x.wd x.ht x.dp))) = u5 at *
              (try clear hHeld)
              refine wpTo_ready (rs := [17]) (by kernel_rfl) (by simp) ?_
              refine AllTo.cons (o := _) rfl (fun K hK => ?_) ?_
              · (try simp only [List.getElem_toArray, List.getElem_cons_zero, List.getElem_cons_succ])
                have p0 := ((unhide Kqu5) 0 (by simp)).1
                have q0 := ((unhide Kqu5) 0 (by simp)).2
                have p1 := ((unhide Kqu5) 1 (by simp)).1
                have q1 := ((unhide Kqu5) 1 (by simp)).2
                have p2 := ((unhide Kqu5) 2 (by simp)).1
                have q2 := ((unhide Kqu5) 2 (by simp)).2
                go_simp
                refine hK.out _ _ (fun _ => (unhide KS) _ (bw_set (bw_set (bw_set (unhide Bu5) Gq _) Gq _) Gq _)) ?_
                clear hK K
                try simp only [Act.put, List.getElem_toArray, List.getElem_cons_zero, List.getElem_cons_succ, List.setIfInBounds_toArray, List.set_cons_zero, List.set_cons_succ]
                clear p0 q0 p1 q1 p2 q2
                have Bu6 : Hid (Below W.heap.size W (((u5.setCell ⟨u3.heap.size, 0, none⟩ (.int .i64 (lo3 t.wd t.ht t.dp))).setCell ⟨u3.heap.size, 1, none⟩ (.int .i64 (mid3 t.wd t.ht t.dp))).setCell ⟨u3.heap.size, 2, none⟩ (.int .i64 (hi3 t.wd t.ht t.dp)))) := (bw_set (bw_set (bw_set (unhide Bu5) Gq _) Gq _) Gq _)
                have Kqu6 : Hid (Blk (((u5.setCell ⟨u3.heap.size, 0, none⟩ (.int .i64 (lo3 t.wd t.ht t.dp))).setCell ⟨u3.heap.size, 1, none⟩ (.int .i64 (mid3 t.wd t.ht t.dp))).setCell ⟨u3.heap.size, 2, none⟩ (.int .i64 (hi3 t.wd t.ht t.dp))) u3.heap.size [.int .i64 (lo3 t.wd t.ht t.dp), .int .i64 (mid3 t.wd t.ht t.dp), .int .i64 (hi3 t.wd t.ht t.dp)]) := Blk.fill3 (unhide Kqu5)
                have Lqu6 : u3.heap.size < (((u5.setCell ⟨u3.heap.size, 0, none⟩ (.int .i64 (lo3 t.wd t.ht t.dp))).setCell ⟨u3.heap.size, 1, none⟩ (.int .i64 (mid3 t.wd t.ht t.dp))).setCell ⟨u3.heap.size, 2, none⟩ (.int .i64 (hi3 t.wd t.ht t.dp))).heap.size := by simpa using Lqu5
                have Kpu6 : Hid (Blk (((u5.setCell ⟨u3.heap.size, 0, none⟩ (.int .i64 (lo3 t.wd t.ht t.dp))).setCell ⟨u3.heap.size, 1, none⟩ (.int .i64 (mid3 t.wd t.ht t.dp))).setCell ⟨u3.heap.size, 2, none⟩ (.int .i64 (hi3 t.wd t.ht t.dp))) u1.heap.size [.int .i64 (lo3 x.wd x.ht x.dp), .int .i64 (mid3 x.wd x.ht x.dp), .int .i64 (hi3 x.wd x.ht x.dp)]) := ((((unhide Kpu5).other Npq).other Npq).other Npq)
                have Lpu6 : u1.heap.size < (((u5.setCell ⟨u3.heap.size, 0, none⟩ (.int .i64 (lo3 t.wd t.ht t.dp))).setCell ⟨u3.heap.size, 1, none⟩ (.int .i64 (mid3 t.wd t.ht t.dp))).setCell ⟨u3.heap.size, 2, none⟩ (.int .i64 (hi3 t.wd t.ht t.dp))).heap.size := by simpa using Lpu5
                clear Kpu5 Lpu5
                clear Kqu5 Lqu5
                generalize (((u5.setCell ⟨u3.heap.size, 0, none⟩ (.int .i64 (lo3 t.wd t.ht t.dp))).setCell ⟨u3.heap.size, 1, none⟩ (.int .i64 (mid3 t.wd t.ht t.dp))).setCell ⟨u3.heap.size, 2, none⟩ (.int .i64 (hi3 t.wd t.ht t.dp))) = u6 at *
                refine wpTo_done (by kernel_rfl) ?_ _
                refine NoPanic.normal ?_
                go_wp2_with fail
                go_meet
                case rel => exact ⟨_, _, rfl, rfl, unhide Kpu6, unhide Kqu6, unhide Bu6⟩
              exact AllTo.nil
            exact AllTo.nil
          exact AllTo.nil
        refine AllTo.cons (o := _) rfl (fun K hK => ?_) ?_
        · (try simp only [List.getElem_toArray, List.getElem_cons_zero, List.getElem_cons_succ])
          go_simp
          refine hK.out _ _ (fun _ => (unhide KS) _ (bw_alloc (unhide Bu2) _)) ?_
          clear hK K
          try simp only [Act.put, List.getElem_toArray, List.getElem_cons_zero, List.getElem_cons_succ, List.setIfInBounds_toArray, List.set_cons_zero, List.set_cons_succ]
          have Bu3 : Hid (Below W.heap.size W (u2.alloc (.cells #[.int .i64 0, .int .i64 0, .int .i64 0] 212))) := bw_alloc (unhide Bu2) _
          have Kqu3 : Hid (Blk (u2.alloc (.cells #[.int .i64 0, .int .i64 0, .int .i64 0] 212)) u2.heap.size [.int .i64 0, .int .i64 0, .int .i64 0]) := Blk.allocAt [.int .i64 0, .int .i64 0, .int .i64 0] rfl
          have Lqu3 : u2.heap.size < (u2.alloc (.cells #[.int .i64 0, .int .i64 0, .int .i64 0] 212)).heap.size := by simp
          have Gq : W.heap.size ≤ u2.heap.size := (unhide Bu2).size
          have Kpu3 : Hid (Blk (u2.alloc (.cells #[.int .i64 0, .int .i64 0, .int .i64 0] 212)) u1.heap.size [.int .i64 0, .int .i64 0, .int .i64 0]) := (unhide Kpu2).allocOld Lpu2 _
          have Lpu3 : u1.heap.size < (u2.alloc (.cells #[.int .i64 0, .int .i64 0, .int .i64 0] 212)).heap.size := by simp; omega
          have Npq : u1.heap.size ≠ u2.heap.size := Nat.ne_of_lt Lpu2
          have Nqp : u2.heap.size ≠ u1.heap.size := Ne.symm Npq
          clear Kpu2 Lpu2
          generalize (u2.alloc (.cells #[.int .i64 0, .int .i64 0, .int .i64 0] 212)) = u3 at *
          (try clear hHeld)
          refine wpTo_ready (rs := [13]) (by kernel_rfl) (by simp) ?_
          refine AllTo.cons (o := _) rfl (fun K hK => ?_) ?_
          · (try simp only [List.getElem_toArray, List.getElem_cons_zero, List.getElem_cons_succ])
            go_simp
            refine (sidesUp_any _ _ _ _).mono ?_
            rintro e u4 ⟨rfl, hb⟩
            have Bu4 := hide (bw_call (unhide Bu3) hb)
            have Kpu4 := hide (Blk.below hb Lpu3 (unhide Kpu3))
            have Lpu4 : u1.heap.size < u4.heap.size := Nat.lt_of_lt_of_le Lpu3 hb.size
            have Kqu4 := hide (Blk.below hb Lqu3 (unhide Kqu3))
            have Lqu4 : u2.heap.size < u4.heap.size := Nat.lt_of_lt_of_le Lqu3 hb.size
            clear hb
            go_wp2_with fail
            refine hK.out _ _ (fun _ => (unhide KS) _ (unhide Bu4)) ?_
            clear hK K
            try simp only [Act.put, List.getElem_toArray, List.getElem_cons_zero, List.getElem_cons_succ, List.setIfInBounds_toArray, List.set_cons_zero, List.set_cons_succ]
            clear Kpu3 Lpu3
            clear Kqu3 Lqu3
            (try clear hHeld)
            refine wpTo_ready (rs := [16]) (by kernel_rfl) (by simp) ?_
            refine AllTo.cons (o := _) rfl (fun K hK => ?_) ?_
            · (try simp only [List.getElem_toArray, List.getElem_cons_zero, List.getElem_cons_succ])
              have p0 := ((unhide Kpu4) 0 (by simp)).1
              have q0 := ((unhide Kpu4) 0 (by simp)).2
              have p1 := ((unhide Kpu4) 1 (by simp)).1
              have q1 := ((unhide Kpu4) 1 (by simp)).2
              have p2 := ((unhide Kpu4) 2 (by simp)).1
              have q2 := ((unhide Kpu4) 2 (by simp)).2
              go_simp
              refine hK.out _ _ (fun _ => (unhide KS) _ (bw_set (bw_set (bw_set (unhide Bu4) Gp _) Gp _) Gp _)) ?_
              clear hK K
              try simp only [Act.put, List.getElem_toArray, List.getElem_cons_zero, List.getElem_cons_succ, List.setIfInBounds_toArray, List.set_cons_zero, List.set_cons_succ]
              clear p0 q0 p1 q1 p2 q2
              have Bu5 : Hid (Below W.heap.size W (((u4.setCell ⟨u1.heap.size, 0, none⟩ (.int .i64 (lo3 x.wd x.ht x.dp))).setCell ⟨u1.heap.size, 1, none⟩ (.int .i64 (mid3 x.wd x.ht x.dp))).setCell ⟨u1.heap.size, 2, none⟩ (.int .i64 (hi3 x.wd x.ht x.dp)))) := (bw_set (bw_set (bw_set (unhide Bu4) Gp _) Gp _) Gp _)
              have Kpu5 : Hid (Blk (((u4.setCell ⟨u1.heap.size, 0, none⟩ (.int .i64 (lo3 x.wd x.ht x.dp))).setCell ⟨u1.heap.size, 1, none⟩ (.int .i64 (mid3 x.wd x.ht x.dp))).setCell ⟨u1.heap.size, 2, none⟩ (.int .i64 (hi3 x.wd x.ht x.dp))) u1.heap.size [.int .i64 (lo3 x.wd x.ht x.dp), .int .i64 (mid3 x.wd x.ht x.dp), .int .i64 (hi3 x.wd x.ht x.dp)]) := Blk.fill3 (unhide Kpu4)
              have Lpu5 : u1.heap.size < (((u4.setCell ⟨u1.heap.size, 0, none⟩ (.int .i64 (lo3 x.wd x.ht x.dp))).setCell ⟨u1.heap.size, 1, none⟩ (.int .i64 (mid3 x.wd x.ht x.dp))).setCell ⟨u1.heap.size, 2, none⟩ (.int .i64 (hi3 x.wd x.ht x.dp))).heap.size := by simpa using Lpu4
              have Kqu5 : Hid (Blk (((u4.setCell ⟨u1.heap.size, 0, none⟩ (.int .i64 (lo3 x.wd x.ht x.dp))).setCell ⟨u1.heap.size, 1, none⟩ (.int .i64 (mid3 x.wd x.ht x.dp))).setCell ⟨u1.heap.size, 2, none⟩ (.int .i64 (hi3 x.wd x.ht x.dp))) u2.heap.size [.int .i64 0, .int .i64 0, .int .i64 0]) := ((((unhide Kqu4).other Nqp).other Nqp).other Nqp)
              have Lqu5 : u2.heap.size < (((u4.setCell ⟨u1.heap.size, 0, none⟩ (.int .i64 (lo3 x.wd x.ht x.dp))).setCell ⟨u1.heap.size, 1, none⟩ (.int .i64 (mid3 x.wd x.ht x.dp))).setCell ⟨u1.heap.size, 2, none⟩ (.int .i64 (hi3 x.wd x.ht x.dp))).heap.size := by simpa using Lqu4
              clear Kqu4 Lqu4
              clear Kpu4 Lpu4
              generalize (((u4.setCell ⟨u1.heap.size, 0, none⟩ (.int .i64 (lo3 x.wd x.ht x.dp))).setCell ⟨u1.heap.size, 1, none⟩ (.int .i64 (mid3 x.wd x.ht x.dp))).setCell ⟨u1.heap.size, 2, none⟩ (.int .i64 (hi3 x.wd x.ht x.dp))) = u5 at *
              (try clear hHeld)
              refine wpTo_ready (rs := [17]) (by kernel_rfl) (by simp) ?_
              refine AllTo.cons (o := _) rfl (fun K hK => ?_) ?_
              · (try simp only [List.getElem_toArray, List.getElem_cons_zero, List.getElem_cons_succ])
                have p0 := ((unhide Kqu5) 0 (by simp)).1
                have q0 := ((unhide Kqu5) 0 (by simp)).2
                have p1 := ((unhide Kqu5) 1 (by simp)).1
                have q1 := ((unhide Kqu5) 1 (by simp)).2
                have p2 := ((unhide Kqu5) 2 (by simp)).1
                have q2 := ((unhide Kqu5) 2 (by simp)).2
                go_simp
                refine hK.out _ _ (fun _ => (unhide KS) _ (bw_set (bw_set (bw_set (unhide Bu5) Gq _) Gq _) Gq _)) ?_
                clear hK K
                try simp only [Act.put, List.getElem_toArray, List.getElem_cons_zero, List.getElem_cons_succ, List.setIfInBounds_toArray, List.set_cons_zero, List.set_cons_succ]
                clear p0 q0 p1 q1 p2 q2
                have Bu6 : Hid (Below W.heap.size W (((u5.setCell ⟨u2.heap.size, 0, none⟩ (.int .i64 (lo3 t.wd t.ht t.dp))).setCell ⟨u2.heap.size, 1, none⟩ (.int .i64 (mid3 t.wd t.ht t.dp))).setCell ⟨u2.heap.size, 2, none⟩ (.int .i64 (hi3 t.wd t.ht t.dp)))) := (bw_set (bw_set (bw_set (unhide Bu5) Gq _) Gq _) Gq _)
                have Kqu6 : Hid (Blk (((u5.setCell ⟨u2.heap.size, 0, none⟩ (.int .i64 (lo3 t.wd t.ht t.dp))).setCell ⟨u2.heap.size, 1, none⟩ (.int .i64 (mid3 t.wd t.ht t.dp))).setCell ⟨u2.heap.size, 2, none⟩ (.int .i64 (hi3 t.wd t.ht t.dp))) u2.heap.size [.int .i64 (lo3 t.wd t.ht t.dp), .int .i64 (mid3 t.wd t.ht t.dp), .int .i64 (hi3 t.wd t.ht t.dp)]) := Blk.fill3 (unhide Kqu5)
                have Lqu6 : u2.heap.size < (((u5.setCell ⟨u2.heap.size, 0, none⟩ (.int .i64 (lo3 t.wd t.ht t.dp))).setCell ⟨u2.heap.size, 1, none⟩ (.int .i64 (mid3 t.wd t.ht t.dp))).setCell ⟨u2.heap.size, 2, none⟩ (.int .i64 (hi3 t.wd t.ht t.dp))).heap.size := by simpa using Lqu5
                have Kpu6 : Hid (Blk (((u5.setCell ⟨u2.heap.size, 0, none⟩ (.int .i64 (lo3 t.wd t.ht t.dp))).setCell ⟨u2.heap.size, 1, none⟩ (.int .i64 (mid3 t.wd t.ht t.dp))).setCell ⟨u2.heap.size, 2, none⟩ (.int .i64 (hi3 t.wd t.ht t.dp))) u1.heap.size [.int .i64 (lo3 x.wd x.ht x.dp), .int .i64 (mid3 x.wd x.ht x.dp), .int .i64 (hi3 x.wd x.ht x.dp)]) := ((((unhide Kpu5).other Npq).other Npq).other Npq)
                have Lpu6 : u1.heap.size < (((u5.setCell ⟨u2.heap.size, 0, none⟩ (.int .i64 (lo3 t.wd t.ht t.dp))).setCell ⟨u2.heap.size, 1, none⟩ (.int .i64 (mid3 t.wd t.ht t.dp))).setCell ⟨u2.heap.size, 2, none⟩ (.int .i64 (hi3 t.wd t.ht t.dp))).heap.size := by simpa using Lpu5
                clear Kpu5 Lpu5
                clear Kqu5 Lqu5
                generalize (((u5.setCell ⟨u2.heap.size, 0, none⟩ (.int .i64 (lo3 t.wd t.ht t.dp))).setCell ⟨u2.heap.size, 1, none⟩ (.int .i64 (mid3 t.wd t.ht t.dp))).setCell ⟨u2.heap.size, 2, none⟩ (.int .i64 (hi3 t.wd t.ht t.dp))) = u6 at *
                refine wpTo_done (by kernel_rfl) ?_ _
                refine NoPanic.normal ?_
                go_wp2_with fail
                go_meet
                case rel => exact ⟨_, _, rfl, rfl, unhide Kpu6, unhide Kqu6, unhide Bu6⟩
              exact AllTo.nil
            exact AllTo.nil
          exact AllTo.nil
        exact AllTo.nil
      refine AllTo.cons (o := _) rfl (fun K hK => ?_) ?_
      · (try simp only [List.getElem_toArray, List.getElem_cons_zero, List.getElem_cons_succ])
        go_simp
        refine hK.out _ _ (fun _ => (unhide KS) _ (bw_alloc (unhide Bu1) _)) ?_
        clear hK K
        try simp only [Act.put, List.getElem_toArray, List.getElem_cons_zero, List.getElem_cons_succ, List.setIfInBounds_toArray, List.set_cons_zero, List.set_cons_succ]
        have Bu2 : Hid (Below W.heap.size W (u1.alloc (.cells #[.int .i64 0, .int .i64 0, .int .i64 0] 212))) := bw_alloc (unhide Bu1) _
        have Kqu2 : Hid (Blk (u1.alloc (.cells #[.int .i64 0, .int .i64 0, .int .i64 0] 212)) u1.heap.size [.int .i64 0, .int .i64 0, .int .i64 0]) := Blk.allocAt [.int .i64 0, .int .i64 0, .int .i64 0] rfl
        have Lqu2 : u1.heap.size < (u1.alloc (.cells #[.int .i64 0, .int .i64 0, .int .i64 0] 212)).heap.size := by simp
        have Gq : W.heap.size ≤ u1.heap.size := (unhide Bu1).size
        generalize (u1.alloc (.cells #[.int .i64 0, .int .i64 0, .int .i64 0] 212)) = u2 at *
        (try clear hHeld)
        refine wpTo_ready (rs := [13, 14]) (by kernel_rfl) (by simp) ?_
        refine AllTo.cons (o := _) rfl (fun K hK => ?_) ?_
        · (try simp only [List.getElem_toArray, List.getElem_cons_zero, List.getElem_cons_succ])
          go_simp
          refine (sidesUp_any _ _ _ _).mono ?_
          rintro e u3 ⟨rfl, hb⟩
          have Bu3 := hide (bw_call (unhide Bu2) hb)
          have Kqu3 := hide (Blk.below hb Lqu2 (unhide Kqu2))
          have Lqu3 : u1.heap.size < u3.heap.size := Nat.lt_of_lt_of_le Lqu2 hb.size
          clear hb
          go_wp2_with fail
          refine hK.out _ _ (fun _ => (unhide KS) _ (unhide Bu3)) ?_
          clear hK K
          try simp only [Act.put, List.getElem_toArray, List.getElem_cons_zero, List.getElem_cons_succ, List.setIfInBounds_toArray, List.set_cons_zero, List.set_cons_succ]
          clear Kqu2 Lqu2
          (try clear hHeld)
          refine wpTo_ready (rs := [14]) (by kernel_rfl) (by simp) ?_
          refine AllTo.cons (o := _) rfl (fun K hK => ?_) ?_
          · (try simp only [List.getElem_toArray, List.getElem_cons_zero, List.getElem_cons_succ])
            go_simp
            refine hK.out _ _ (fun _ => (unhide KS) _ (bw_alloc (unhide Bu3) _)) ?_
            clear hK K
            try simp only [Act.put, List.getElem_toArray, List.getElem_cons_zero, List.getElem_cons_succ, List.setIfInBounds_toArray, List.set_cons_zero, List.set_cons_succ]
            have Bu4 : Hid (Below W.heap.size W (u3.alloc (.cells #[.int .i64 0, .int .i64 0, .int .i64 0] 212))) := bw_alloc (unhide Bu3) _
            have Kpu4 : Hid (Blk (u3.alloc (.cells #[.int .i64 0, .int .i64 0, .int .i64 0] 212)) u3.heap.size [.int .i64 0, .int .i64 0, .int .i64 0]) := Blk.allocAt [.int .i64 0, .int .i64 0, .int .i64 0] rfl
            have Lpu4 : u3.heap.size < (u3.alloc (.cells #[.int .i64 0, .int .i64 0, .int .i64 0] 212)).heap.size := by simp
            have Gp : W.heap.size ≤ u3.heap.size := (unhide Bu3).size
            have Kqu4 : Hid (Blk (u3.alloc (.cells #[.int .i64 0, .int .i64 0, .int .i64 0] 212)) u1.heap.size [.int .i64 0, .int .i64 0, .int .i64 0]) := (unhide Kqu3).allocOld Lqu3 _
            have Lqu4 : u1.heap.size < (u3.alloc (.cells #[.int .i64 0, .int .i64 0, .int .i64 0] 212)).heap.size := by simp; omega
            have Nqp : u1.heap.size ≠ u3.heap.size := Nat.ne_of_lt Lqu3
            have Npq : u3.heap.size ≠ u1.heap.size := Ne.symm Nqp
            clear Kqu3 Lqu3
            generalize (u3.alloc (.cells #[.int .i64 0, .int .i64 0, .int .i64 0] 212)) = u4 at *
            (try clear hHeld)
            refine wpTo_ready (rs := [16]) (by kernel_rfl) (by simp) ?_
            refine AllTo.cons (o := _) rfl (fun K hK => ?_) ?_
            · (try simp only [List.getElem_toArray, List.getElem_cons_zero, List.getElem_cons_succ])
              have p0 := ((unhide Kpu4) 0 (by simp)).1
              have q0 := ((unhide Kpu4) 0 (by simp)).2
              have p1 := ((unhide Kpu4) 1 (by simp)).1
              have q1 := ((unhide Kpu4) 1 (by simp)).2
              have p2 := ((unhide Kpu4) 2 (by simp)).1
              have q2 := ((unhide Kpu4) 2 (by simp)).2
              go_simp
              refine hK.out _ _ (fun _ => (unhide KS) _ (bw_set (bw_set (bw_set (unhide Bu4) Gp _) Gp _) Gp _)) ?_
              clear hK K
              try simp only [Act.put, List.getElem_toArray, List.getElem_cons_zero, List.getElem_cons_succ, List.setIfInBounds_toArray, List.set_cons_zero, List.set_cons_succ]
              clear p0 q0 p1 q1 p2 q2
              have Bu5 : Hid (Below W.heap.size W (((u4.setCell ⟨u3.heap.size, 0, none⟩ (.int .i64 (lo3 x.wd x.ht x.dp))).setCell ⟨u3.heap.size, 1, none⟩ (.int .i64 (mid3 x.wd x.ht x.dp))).setCell ⟨u3.heap.size, 2, none⟩ (.int .i64 (hi3 x.wd x.ht x.dp)))) := (bw_set (bw_set (bw_set (unhide Bu4) Gp _) Gp _) Gp _)
              have Kpu5 : Hid (Blk (((u4.setCell ⟨u3.heap.size, 0, none⟩ (.int .i64 (lo3 x.wd x.ht x.dp))).setCell ⟨u3.heap.size, 1, none⟩ (.int .i64 (mid3 x.wd x.ht x.dp))).setCell ⟨u3.heap.size, 2, none⟩ (.int .i64 (hi3 x.wd x.ht x.dp))) u3.heap.size [.int .i64 (lo3 x.wd x.ht x.dp), .int .i64 (mid3 x.wd x.ht x.dp), .int .i64 (hi3 x.wd x.ht x.dp)]) := Blk.fill3 (unhide Kpu4)
              have Lpu5 : u3.heap.size < (((u4.setCell ⟨u3.heap.size, 0, none⟩ (.int .i64 (lo3 x.wd x.ht x.dp))).setCell ⟨u3.heap.size, 1, none⟩ (.int .i64 (mid3 x.wd x.ht x.dp))).setCell ⟨u3.heap.size, 2, none⟩ (.int .i64 (hi3 x.wd x.ht x.dp))).heap.size := by simpa using Lpu4
              have Kqu5 : Hid (Blk (((u4.setCell ⟨u3.heap.size, 0, none⟩ (.int .i64 (lo3 x.wd x.ht x.dp))).setCell ⟨u3.heap.size, 1, none⟩ (.int .i64 (mid3 x.wd x.ht x.dp))).setCell ⟨u3.heap.size, 2, none⟩ (.int .i64 (hi3 x.wd x.ht x.dp))) u1.heap.size [.int .i64 0, .int .i64 0, .int .i64 0]) := ((((unhide Kqu4).other Nqp).other Nqp).other Nqp)
              have Lqu5 : u1.heap.size < (((u4.setCell ⟨u3.heap.size, 0, none⟩ (.int .i64 (lo3 x.wd x.ht x.dp))).setCell ⟨u3.heap.size, 1, none⟩ (.int .i64 (mid3 x.wd x.ht x.dp))).setCell ⟨u3.heap.size, 2, none⟩ (.int .i64 (hi3 x.wd x.ht x.dp))).heap.size := by simpa using Lqu4
              clear Kqu4 Lqu4
              clear Kpu4 Lpu4
              generalize (((u4.setCell ⟨u3.heap.size, 0, none⟩ (.int .i64 (lo3 x.wd x.ht x.dp))).setCell ⟨u3.heap.size, 1, none⟩ (.int .i64 (mid3 x.wd x.ht x.dp))).setCell ⟨u3.heap.size, 2, none⟩ (.int .i64 (hi3 x.wd x.ht x.dp))) = u5 at *
              (try clear hHeld)
              refine wpTo_ready (rs := [17]) (by kernel_rfl) (by simp) ?_
              refine AllTo.cons (o := _) rfl (fun K hK => ?_) ?_
              · (try simp only [List.getElem_toArray, List.getElem_cons_zero, List.getElem_cons_succ])
                have p0 := ((unhide Kqu5) 0 (by simp)).1
                have q0 := ((unhide Kqu5) 0 (by simp)).2
                have p1 := ((unhide Kqu5) 1 (by simp)).1
                have q1 := ((unhide Kqu5) 1 (by simp)).2
                have p2 := ((unhide Kqu5) 2 (by simp)).1
                have q2 := ((unhide Kqu5) 2 (by simp)).2
                go_simp
                refine hK.out _ _ (fun _ => (unhide KS) _ (bw_set (bw_set (bw_set (unhide Bu5) Gq _) Gq _) Gq _)) ?_
                clear hK K
                try simp only [Act.put, List.getElem_toArray, List.getElem_cons_zero, List.getElem_cons_succ, List.setIfInBounds_toArray, List.set_cons_zero, List.set_cons_succ]
                clear p0 q0 p1 q1 p2 q2
                have Bu6 : Hid (Below W.heap.size W (((u5.setCell ⟨u1.heap.size, 0, none⟩ (.int .i64 (lo3 t.wd t.ht t.dp))).setCell ⟨u1.heap.size, 1, none⟩ (.int .i64 (mid3 t.wd t.ht t.dp))).setCell ⟨u1.heap.size, 2, none⟩ (.int .i64 (hi3 t.wd t.ht t.dp)))) := (bw_set (bw_set (bw_set (unhide Bu5) Gq _) Gq _) Gq _)
                have Kqu6 : Hid (Blk (((u5.setCell ⟨u1.heap.size, 0, none⟩ (.int .i64 (lo3 t.wd t.ht t.dp))).setCell ⟨u1.heap.size, 1, none⟩ (.int .i64 (mid3 t.wd t.ht t.dp))).setCell ⟨u1.heap.size, 2, none⟩ (.int .i64 (hi3 t.wd t.ht t.dp))) u1.heap.size [.int .i64 (lo3 t.wd t.ht t.dp), .int .i64 (mid3 t.wd t.ht t.dp), .int .i64 (hi3 t.wd t.ht t.dp)]) := Blk.fill3 (unhide Kqu5)
                have Lqu6 : u1.heap.size < (((u5.setCell ⟨u1.heap.size, 0, none⟩ (.int .i64 (lo3 t.wd t.ht t.dp))).setCell ⟨u1.heap.size, 1, none⟩ (.int .i64 (mid3 t.wd t.ht t.dp))).setCell ⟨u1.heap.size, 2, none⟩ (.int .i64 (hi3 t.wd t.ht t.dp))).heap.size := by simpa using Lqu5
                have Kpu6 : Hid (Blk (((u5.setCell ⟨u1.heap.size, 0, none⟩ (.int .i64 (lo3 t.wd t.ht t.dp))).setCell ⟨u1.heap.size, 1, none⟩ (.int .i64 (mid3 t.wd t.ht t.dp))).setCell ⟨u1.heap.size, 2, none⟩ (.int .i64 (hi3 t.wd t.ht t.dp))) u3.heap.size [.int .i64 (lo3 x.wd x.ht x.dp), .int .i64 (mid3 x.wd x.ht x.dp), .int .i64 (hi3 x.wd x.ht x.dp)]) := ((((unhide Kpu5).other Npq).other Npq).other Npq)
                have Lpu6 : u3.heap.size < (((u5.setCell ⟨u1.heap.size, 0, none⟩ (.int .i64 (lo3 t.wd t.ht t.dp))).setCell ⟨u1.heap.size, 1, none⟩ (.int .i64 (mid3 t.wd t.ht t.dp))).setCell ⟨u1.heap.size, 2, none⟩ (.int .i64 (hi3 t.wd t.ht t.dp))).heap.size := by simpa using Lpu5
                clear Kpu5 Lpu5
                clear Kqu5 Lqu5
                generalize (((u5.setCell ⟨u1.heap.size, 0, none⟩ (.int .i64 (lo3 t.wd t.ht t.dp))).setCell ⟨u1.heap.size, 1, none⟩ (.int .i64 (mid3 t.wd t.ht t.dp))).setCell ⟨u1.heap.size, 2, none⟩ (.int .i64 (hi3 t.wd t.ht t.dp))) = u6 at *
                refine wpTo_done (by kernel_rfl) ?_ _
                refine NoPanic.normal ?_
                go_wp2_with fail
                go_meet
                case rel => exact ⟨_, _, rfl, rfl, unhide Kpu6, unhide Kqu6, unhide Bu6⟩
              exact AllTo.nil
            exact AllTo.nil
          exact AllTo.nil
        refine AllTo.cons (o := _) rfl (fun K hK => ?_) ?_
        · (try simp only [List.getElem_toArray, List.getElem_cons_zero, List.getElem_cons_succ])
          go_simp
          refine hK.out _ _ (fun _ => (unhide KS) _ (bw_alloc (unhide Bu2) _)) ?_
          clear hK K
          try simp only [Act.put, List.getElem_toArray, List.getElem_cons_zero, List.getElem_cons_succ, List.setIfInBounds_toArray, List.set_cons_zero, List.set_cons_succ]
          have Bu3 : Hid (Below W.heap.size W (u2.alloc (.cells #[.int .i64 0, .int .i64 0, .int .i64 0] 212))) := bw_alloc (unhide Bu2) _
          have Kpu3 : Hid (Blk (u2.alloc (.cells #[.int .i64 0, .int .i64 0, .int .i64 0] 212)) u2.heap.size [.int .i64 0, .int .i64 0, .int .i64 0]) := Blk.allocAt [.int .i64 0, .int .i64 0, .int .i64 0] rfl
          have Lpu3 : u2.heap.size < (u2.alloc (.cells #[.int .i64 0, .int .i64 0, .int .i64 0] 212)).heap.size := by simp
          have Gp : W.heap.size ≤ u2.heap.size := (unhide Bu2).size
          have Kqu3 : Hid (Blk (u2.alloc (.cells #[.int .i64 0, .int .i64 0, .int .i64 0] 212)) u1.heap.size [.int .i64 0, .int .i64 0, .int .i64 0]) := (unhide Kqu2).allocOld Lqu2 _
          have Lqu3 : u1.heap.size < (u2.alloc (.cells #[.int .i64 0, .int .i64 0, .int .i64 0] 212)).heap.size := by simp; omega
          have Nqp : u1.heap.size ≠ u2.heap.size := Nat.ne_of_lt Lqu2
          have Npq : u2.heap.size ≠ u1.heap.size := Ne.symm Nqp
          clear Kqu2 Lqu2
          generalize (u2.alloc (.cells #[.int .i64 0, .int .i64 0, .int .i64 0] 212)) = u3 at *
          (try clear hHeld)
          refine wpTo_ready (rs := [13]) (by kernel_rfl) (by simp) ?_
          refine AllTo.cons (o := _) rfl (fun K hK => ?_) ?_
          · (try simp only [List.getElem_toArray, List.getElem_cons_zero, List.getElem_cons_succ])
            go_simp
            refine (sidesUp_any _ _ _ _).mono ?_
            rintro e u4 ⟨rfl, hb⟩
            have Bu4 := hide (bw_call (unhide Bu3) hb)
            have Kqu4 := hide (Blk.below hb Lqu3 (unhide Kqu3))
            have Lqu4 : u1.heap.size < u4.heap.size := Nat.lt_of_lt_of_le Lqu3 hb.size
            have Kpu4 := hide (Blk.below hb Lpu3 (unhide Kpu3))
            have Lpu4 : u2.heap.size < u4.heap.size := Nat.lt_of_lt_of_le Lpu3 hb.size
            clear hb
            go_wp2_with fail
            refine hK.out _ _ (fun _ => (unhide KS) _ (unhide Bu4)) ?_
            clear hK K
            try simp only [Act.put, List.getElem_toArray, List.getElem_cons_zero, List.getElem_cons_succ, List.setIfInBounds_toArray, List.set_cons_zero, List.set_cons_succ]
            clear Kqu3 Lqu3
            clear Kpu3 Lpu3
            (try clear hHeld)
            refine wpTo_ready (rs := [16]) (by kernel_rfl) (by simp) ?_
            refine AllTo.cons (o := _) rfl (fun K hK => ?_) ?_
            · (try simp only [List.getElem_toArray, List.getElem_cons_zero, List.getElem_cons_succ])
              have p0 := ((unhide Kpu4) 0 (by simp)).1
              have q0 := ((unhide Kpu4) 0 (by simp)).2
              have p1 := ((unhide Kpu4) 1 (by simp)).1
              have q1 := ((unhide Kpu4) 1 (by simp)).2
              have p2 := ((unhide Kpu4) 2 (by simp)).1
              have q2 := ((unhide Kpu4) 2 (by simp)).2
              go_simp
              refine hK.out _ _ (fun _ => (unhide KS) _ (bw_set (bw_set (bw_set (unhide Bu4) Gp _) Gp _) Gp _)) ?_
              clear hK K
              try simp only [Act.put, List.getElem_toArray, List.getElem_cons_zero, List.getElem_cons_succ, List.setIfInBounds_toArray, List.set_cons_zero, List.set_cons_succ]
              clear p0 q0 p1 q1 p2 q2
              have Bu5 : Hid (Below W.heap.size W (((u4.setCell ⟨u2.heap.size, 0, none⟩ (.int .i64 (lo3 x.wd x.ht x.dp))).setCell ⟨u2.heap.size, 1, none⟩ (.int .i64 (mid3 x.wd x.ht x.dp))).setCell ⟨u2.heap.size, 2, none⟩ (.int .i64 (hi3 x.wd x.ht x.dp)))) := (bw_set (bw_set (bw_set (unhide Bu4) Gp _) Gp _) Gp _)
              have Kpu5 : Hid (Blk (((u4.setCell ⟨u2.heap.size, 0, none⟩ (.int .i64 (lo3 x.wd x.ht x.dp))).setCell ⟨u2.heap.size, 1, none⟩ (.int .i64 (mid3 x.wd x.ht x.dp))).setCell ⟨u2.heap.size, 2, none⟩ (.int .i64 (hi3 x.wd x.ht x.dp))) u2.heap.size [.int .i64 (lo3 x.wd x.ht x.dp), .int .i64 (mid3 x.wd x.ht x.dp), .int .i64 (hi3 x.wd x.ht x.dp)]) := Blk.fill3 (unhide Kpu4)
              have Lpu5 : u2.heap.size < (((u4.setCell ⟨u2.heap.size, 0, none⟩ (.int .i64 (lo3 x.wd x.ht x.dp))).setCell ⟨u2.heap.size, 1, none⟩ (.int .i64 (mid3 x.wd x.ht x.dp))).setCell ⟨u2.heap.size, 2, none⟩ (.int .i64 (hi3 x.wd x.ht x.dp))).heap.size := by simpa using Lpu4
              have Kqu5 : Hid (Blk (((u4.setCell ⟨u2.heap.size, 0, none⟩ (.int .i64 (lo3 x.wd x.ht x.dp))).setCell ⟨u2.heap.size, 1, none⟩ (.int .i64 (mid3 x.wd x.ht x.dp))).setCell ⟨u2.heap.size, 2, none⟩ (.int .i64 (hi3 x.wd x.ht x.dp))) u1.heap.size [.int .i64 0, .int .i64 0, .int .i64 0]) := ((((unhide Kqu4).other Nqp).other Nqp).other Nqp)
              have Lqu5 : u1.heap.size < (((u4.setCell ⟨u2.heap.size, 0, none⟩ (.int .i64 (lo3 x.wd x.ht x.dp))).setCell ⟨u2.heap.size, 1, none⟩ (.int .i64 (mid3 x.wd x.ht x.dp))).setCell ⟨u2.heap.size, 2, none⟩ (.int .i64 (hi3 x.wd x.ht x.dp))).heap.size := by simpa using Lqu4
              clear Kqu4 Lqu4
              clear Kpu4 Lpu4
              generalize (((u4.setCell ⟨u2.heap.size, 0, none⟩ (.int .i64 (lo3 x.wd x.ht x.dp))).setCell ⟨u2.heap.size, 1, none⟩ (.int .i64 (mid3 x.wd x.ht x.dp))).setCell ⟨u2.heap.size, 2, none⟩ (.int .i64 (hi3 x.wd x.ht x.dp))) = u5 at *
              (try clear hHeld)
              refine wpTo_ready (rs := [17]) (by kernel_rfl) (by simp) ?_
              refine AllTo.cons (o := _) rfl (fun K hK => ?_) ?_
              · (try simp only [List.getElem_toArray, List.getElem_cons_zero, List.getElem_cons_succ])
                have p0 := ((unhide Kqu5) 0 (by simp)).1
                have q0 := ((unhide Kqu5) 0 (by simp)).2
                have p1 := ((unhide Kqu5) 1 (by simp)).1
                have q1 := ((unhide Kqu5) 1 (by simp)).2
                have p2 := ((unhide Kqu5) 2 (by simp)).1
                have q2 := ((unhide Kqu5) 2 (by simp)).2
                go_simp
                refine hK.out _ _ (fun _ => (unhide KS) _ (bw_set (bw_set (bw_set (unhide Bu5) Gq _) Gq _) Gq _)) ?_
                clear hK K
                try simp only [Act.put, List.getElem_toArray, List.getElem_cons_zero, List.getElem_cons_succ, List.setIfInBounds_toArray, List.set_cons_zero, List.set_cons_succ]
                clear p0 q0 p1 q1 p2 q2
                have Bu6 : Hid (Below W.heap.size W (((u5.setCell ⟨u1.heap.size, 0, none⟩ (.int .i64 (lo3 t.wd t.ht t.dp))).setCell ⟨u1.heap.size, 1, none⟩ (.int .i64 (mid3 t.wd t.ht t.dp))).setCell ⟨u1.heap.size, 2, none⟩ (.int .i64 (hi3 t.wd t.ht t.dp)))) := (bw_set (bw_set (bw_set (unhide Bu5) Gq _) Gq _) Gq _)
                have Kqu6 : Hid (Blk (((u5.setCell ⟨u1.heap.size, 0, none⟩ (.int .i64 (lo3 t.wd t.ht t.dp))).setCell ⟨u1.heap.size, 1, none⟩ (.int .i64 (mid3 t.wd t.ht t.dp))).setCell ⟨u1.heap.size, 2, none⟩ (.int .i64 (hi3 t.wd t.ht t.dp))) u1.heap.size [.int .i64 (lo3 t.wd t.ht t.dp), .int .i64 (mid3 t.wd t.ht t.dp), .int .i64 (hi3 t.wd t.ht t.dp)]) := Blk.fill3 (unhide Kqu5)
                have Lqu6 : u1.heap.size < (((u5.setCell ⟨u1.heap.size, 0, none⟩ (.int .i64 (lo3 t.wd t.ht t.dp))).setCell ⟨u1.heap.size, 1, none⟩ (.int .i64 (mid3 t.wd t.ht t.dp))).setCell ⟨u1.heap.size, 2, none⟩ (.int .i64 (hi3 t.wd t.ht t.dp))).heap.size := by simpa using Lqu5
                have Kpu6 : Hid (Blk (((u5.setCell ⟨u1.heap.size, 0, none⟩ (.int .i64 (lo3 t.wd t.ht t.dp))).setCell ⟨u1.heap.size, 1, none⟩ (.int .i64 (mid3 t.wd t.ht t.dp))).setCell ⟨u1.heap.size, 2, none⟩ (.int .i64 (hi3 t.wd t.ht t.dp))) u2.heap.size [.int .i64 (lo3 x.wd x.ht x.dp), .int .i64 (mid3 x.wd x.ht x.dp), .int .i64 (hi3 x.wd x.ht x.dp)]) := ((((unhide Kpu5).other Npq).other Npq).other Npq)
                have Lpu6 : u2.heap.size < (((u5.setCell ⟨u1.heap.size, 0, none⟩ (.int .i64 (lo3 t.wd t.ht t.dp))).setCell ⟨u1.heap.size, 1, none⟩ (.int .i64 (mid3 t.wd t.ht t.dp))).setCell ⟨u1.heap.size, 2, none⟩ (.int .i64 (hi3 t.wd t.ht t.dp))).heap.size := by simpa using Lpu5
                clear Kpu5 Lpu5
                clear Kqu5 Lqu5
                generalize (((u5.setCell ⟨u1.heap.size, 0, none⟩ (.int .i64 (lo3 t.wd t.ht t.dp))).setCell ⟨u1.heap.size, 1, none⟩ (.int .i64 (mid3 t.wd t.ht t.dp))).setCell ⟨u1.heap.size, 2, none⟩ (.int .i64 (hi3 t.wd t.ht t.dp))) = u6 at *
                refine wpTo_done (by kernel_rfl) ?_ _
                refine NoPanic.normal ?_
                go_wp2_with fail
                go_meet
                case rel => exact ⟨_, _, rfl, rfl, unhide Kpu6, unhide Kqu6, unhide Bu6⟩
              exact AllTo.nil
            exact AllTo.nil
          exact AllTo.nil
        exact AllTo.nil
      exact AllTo.nil
    refine AllTo.cons (o := _) rfl (fun K hK => ?_) ?_
    · (try simp only [List.getElem_toArray, List.getElem_cons_zero, List.getElem_cons_succ])
      go_simp
      refine hK.out _ _ (fun _ => (unhide KS) _ (bw_alloc (unhide Bu0) _)) ?_
      clear hK K
      try simp only [Act.put, List.getElem_toArray, List.getElem_cons_zero, List.getElem_cons_succ, List.setIfInBounds_toArray, List.set_cons_zero, List.set_cons_succ]
      have Bu1 : Hid (Below W.heap.size W (u0.alloc (.cells #[.int .i64 0, .int .i64 0, .int .i64 0] 212))) := bw_alloc (unhide Bu0) _
      have Kpu1 : Hid (Blk (u0.alloc (.cells #[.int .i64 0, .int .i64 0, .int .i64 0] 212)) u0.heap.size [.int .i64 0, .int .i64 0, .int .i64 0]) := Blk.allocAt [.int .i64 0, .int .i64 0, .int .i64 0] rfl
      have Lpu1 : u0.heap.size < (u0.alloc (.cells #[.int .i64 0, .int .i64 0, .int .i64 0] 212)).heap.size := by simp
      have Gp : W.heap.size ≤ u0.heap.size := (unhide Bu0).size
      generalize (u0.alloc (.cells #[.int .i64 0, .int .i64 0, .int .i64 0] 212)) = u1 at *
      (try clear hHeld)
      refine wpTo_ready (rs := [6, 15]) (by kernel_rfl) (by simp) ?_
      refine AllTo.cons (o := _) rfl (fun K hK => ?_) ?_
      · (try simp only [List.getElem_toArray, List.getElem_cons_zero, List.getElem_cons_succ])
        go_simp
        refine (sidesUp_any _ _ _ _).mono ?_
        rintro e u2 ⟨rfl, hb⟩
        have Bu2 := hide (bw_call (unhide Bu1) hb)
        have Kpu2 := hide (Blk.below hb Lpu1 (unhide Kpu1))
        have Lpu2 : u0.heap.size < u2.heap.size := Nat.lt_of_lt_of_le Lpu1 hb.size
        clear hb
        go_wp2_with fail
        refine hK.out _ _ (fun _ => (unhide KS) _ (unhide Bu2)) ?_
        clear hK K
        try simp only [Act.put, List.getElem_toArray, List.getElem_cons_zero, List.getElem_cons_succ, List.setIfInBounds_toArray, List.set_cons_zero, List.set_cons_succ]
        clear Kpu1 Lpu1
        (try clear hHeld)
        refine wpTo_ready (rs := [13, 15]) (by kernel_rfl) (by simp) ?_
        refine AllTo.cons (o := _) rfl (fun K hK => ?_) ?_
        · (try simp only [List.getElem_toArray, List.getElem_cons_zero, List.getElem_cons_succ])
          go_simp
          refine (sidesUp_any _ _ _ _).mono ?_
          rintro e u3 ⟨rfl, hb⟩
          have Bu3 := hide (bw_call (unhide Bu2) hb)
          have Kpu3 := hide (Blk.below hb Lpu2 (unhide Kpu2))
          have Lpu3 : u0.heap.size < u3.heap.size := Nat.lt_of_lt_of_le Lpu2 hb.size
          clear hb
          go_wp2_with fail
          refine hK.out _ _ (fun _ => (unhide KS) _ (unhide Bu3)) ?_
          clear hK K
          try simp only [Act.put, List.getElem_toArray, List.getElem_cons_zero, List.getElem_cons_succ, List.setIfInBounds_toArray, List.set_cons_zero, List.set_cons_succ]
          clear Kpu2 Lpu2
          (try clear hHeld)
          refine wpTo_ready (rs := [15]) (by kernel_rfl) (by simp) ?_
          refine AllTo.cons (o := _) rfl (fun K hK => ?_) ?_
          · (try simp only [List.getElem_toArray, List.getElem_cons_zero, List.getElem_cons_succ])
            go_simp
            refine hK.out _ _ (fun _ => (unhide KS) _ (bw_alloc (unhide Bu3) _)) ?_
            clear hK K
            try simp only [Act.put, List.getElem_toArray, List.getElem_cons_zero, List.getElem_cons_succ, List.setIfInBounds_toArray, List.set_cons_zero, List.set_cons_succ]
            have Bu4 : Hid (Below W.heap.size W (u3.alloc (.cells #[.int .i64 0, .int .i64 0, .int .i64 0] 212))) := bw_alloc (unhide Bu3) _
            have Kqu4 : Hid (Blk (u3.alloc (.cells #[.int .i64 0, .int .i64 0, .int .i64 0] 212)) u3.heap.size [.int .i64 0, .int .i64 0, .int .i64 0]) := Blk.allocAt [.int .i64 0, .int .i64 0, .int .i64 0] rfl
            have Lqu4 : u3.heap.size < (u3.alloc (.cells #[.int .i64 0, .int .i64 0, .int .i64 0] 212)).heap.size := by simp
            have Gq : W.heap.size ≤ u3.heap.size := (unhide Bu3).size
            have Kpu4 : Hid (Blk (u3.alloc (.cells #[.int .i64 0, .int .i64 0, .int .i64 0] 212)) u0.heap.size [.int .i64 0, .int .i64 0, .int .i64 0]) := (unhide Kpu3).allocOld Lpu3 _
            have Lpu4 : u0.heap.size < (u3.alloc (.cells #[.int .i64 0, .int .i64 0, .int .i64 0] 212)).heap.size := by simp; omega
            have Npq : u0.heap.size ≠ u3.heap.size := Nat.ne_of_lt Lpu3
            have Nqp : u3.heap.size ≠ u0.heap.size := Ne.symm Npq
            clear Kpu3 Lpu3
            generalize (u3.alloc (.cells #[.int .i64 0, .int .i64 0, .int .i64 0] 212)) = u4 at *
            (try clear hHeld)
            refine wpTo_ready (rs := [16]) (by kernel_rfl) (by simp) ?_
            refine AllTo.cons (o := _) rfl (fun K hK => ?_) ?_
            · (try simp only [List.getElem_toArray, List.getElem_cons_zero, List.getElem_cons_succ])
              have p0 := ((unhide Kpu4) 0 (by simp)).1
              have q0 := ((unhide Kpu4) 0 (by simp)).2
              have p1 := ((unhide Kpu4) 1 (by simp)).1
              have q1 := ((unhide Kpu4) 1 (by simp)).2
              have p2 := ((unhide Kpu4) 2 (by simp)).1
              have q2 := ((unhide Kpu4) 2 (by simp)).2
              go_simp
              refine hK.out _ _ (fun _ => (unhide KS) _ (bw_set (bw_set (bw_set (unhide Bu4) Gp _) Gp _) Gp _)) ?_
              clear hK K
              try simp only [Act.put, List.getElem_toArray, List.getElem_cons_zero, List.getElem_cons_succ, List.setIfInBounds_toArray, List.set_cons_zero, List.set_cons_succ]
              clear p0 q0 p1 q1 p2 q2
              have Bu5 : Hid (Below W.heap.size W (((u4.setCell ⟨u0.heap.size, 0, none⟩ (.int .i64 (lo3 x.wd x.ht x.dp))).setCell ⟨u0.heap.size, 1, none⟩ (.int .i64 (mid3 x.wd x.ht x.dp))).setCell ⟨u0.heap.size, 2, none⟩ (.int .i64 (hi3 x.wd x.ht x.dp)))) := (bw_set (bw_set (bw_set (unhide Bu4) Gp _) Gp _) Gp _)
              have Kpu5 : Hid (Blk (((u4.setCell ⟨u0.heap.size, 0, none⟩ (.int .i64 (lo3 x.wd x.ht x.dp))).setCell ⟨u0.heap.size, 1, none⟩ (.int .i64 (mid3 x.wd x.ht x.dp))).setCell ⟨u0.heap.size, 2, none⟩ (.int .i64 (hi3 x.wd x.ht x.dp))) u0.heap.size [.int .i64 (lo3 x.wd x.ht x.dp), .int .i64 (mid3 x.wd x.ht x.dp), .int .i64 (hi3 x.wd x.ht x.dp)]) := Blk.fill3 (unhide Kpu4)
              have Lpu5 : u0.heap.size < (((u4.setCell ⟨u0.heap.size, 0, none⟩ (.int .i64 (lo3 x.wd x.ht x.dp))).setCell ⟨u0.heap.size, 1, none⟩ (.int .i64 (mid3 x.wd x.ht x.dp))).setCell ⟨u0.heap.size, 2, none⟩ (.int .i64 (hi3 x.wd x.ht x.dp))).heap.size := by simpa using Lpu4
              have Kqu5 : Hid (Blk (((u4.setCell ⟨u0.heap.size, 0, none⟩ (.int .i64 (lo3 x.wd x.ht x.dp))).setCell ⟨u0.heap.size, 1, none⟩ (.int .i64 (mid3 x.wd x.ht x.dp))).setCell ⟨u0.heap.size, 2, none⟩ (.int .i64 (hi3 x.wd x.ht x.dp))) u3.heap.size [.int .i64 0, .int .i64 0, .int .i64 0]) := ((((unhide Kqu4).other Nqp).other Nqp).other Nqp)
              have Lqu5 : u3.heap.size < (((u4.setCell ⟨u0.heap.size, 0, none⟩ (.int .i64 (lo3 x.wd x.ht x.dp))).setCell ⟨u0.heap.size, 1, none⟩ (.int .i64 (mid3 x.wd x.ht x.dp))).setCell ⟨u0.heap.size, 2, none⟩ (.int .i64 (hi3 x.wd x.ht x.dp))).heap.size := by simpa using Lqu4
              clear Kqu4 Lqu4
              clear Kpu4 Lpu4
              generalize (((u4.setCell ⟨u0.heap.size, 0, none⟩ (.int .i64 (lo3 x.wd x.ht x.dp))).setCell ⟨u0.heap.size, 1, none⟩ (.int .i64 (mid3 x.wd x.ht x.dp))).setCell ⟨u0.heap.size, 2, none⟩ (.int .i64 (hi3 x.wd x.ht x.dp))) = u5 at *
              (try clear hHeld)
              refine wpTo_ready (rs := [17]) (by kernel_rfl) (by simp) ?_
              refine AllTo.cons (o := _) rfl (fun K hK => ?_) ?_
              · (try simp only [List.getElem_toArray, List.getElem_cons_zero, List.getElem_cons_succ])
                have p0 := ((unhide Kqu5) 0 (by simp)).1
                have q0 := ((unhide Kqu5) 0 (by simp)).2
                have p1 := ((unhide Kqu5) 1 (by simp)).1
                have q1 := ((unhide Kqu5) 1 (by simp)).2
                have p2 := ((unhide Kqu5) 2 (by simp)).1
                have q2 := ((unhide Kqu5) 2 (by simp)).2
                go_simp
                refine hK.out _ _ (fun _ => (unhide KS) _ (bw_set (bw_set (bw_set (unhide Bu5) Gq _) Gq _) Gq _)) ?_
                clear hK K
                try simp only [Act.put, List.getElem_toArray, List.getElem_cons_zero, List.getElem_cons_succ, List.setIfInBounds_toArray, List.set_cons_zero, List.set_cons_succ]
                clear p0 q0 p1 q1 p2 q2
                have Bu6 : Hid (Below W.heap.size W (((u5.setCell ⟨u3.heap.size, 0, none⟩ (.int .i64 (lo3 t.wd t.ht t.dp))).setCell ⟨u3.heap.size, 1, none⟩ (.int .i64 (mid3 t.wd t.ht t.dp))).setCell ⟨u3.heap.size, 2, none⟩ (.int .i64 (hi3 t.wd t.ht t.dp)))) := (bw_set (bw_set (bw_set (unhide Bu5) Gq _) Gq _) Gq _)
                have Kqu6 : Hid (Blk (((u5.setCell ⟨u3.heap.size, 0, none⟩ (.int .i64 (lo3 t.wd t.ht t.dp))).setCell ⟨u3.heap.size, 1, none⟩ (.int .i64 (mid3 t.wd t.ht t.dp))).setCell ⟨u3.heap.size, 2, none⟩ (.int .i64 (hi3 t.wd t.ht t.dp))) u3.heap.size [.int .i64 (lo3 t.wd t.ht t.dp), .int .i64 (mid3 t.wd t.ht t.dp), .int .i64 (hi3 t.wd t.ht t.dp)]) := Blk.fill3 (unhide Kqu5)
                have Lqu6 : u3.heap.size < (((u5.setCell ⟨u3.heap.size, 0, none⟩ (.int .i64 (lo3 t.wd t.ht t.dp))).setCell ⟨u3.heap.size, 1, none⟩ (.int .i64 (mid3 t.wd t.ht t.dp))).setCell ⟨u3.heap.size, 2, none⟩ (.int .i64 (hi3 t.wd t.ht t.dp))).heap.size := by simpa using Lqu5
                have Kpu6 : Hid (Blk (((u5.setCell ⟨u3.heap.size, 0, none⟩ (.int .i64 (lo3 t.wd t.ht t.dp))).setCell ⟨u3.heap.size, 1, none⟩ (.int .i64 (mid3 t.wd t.ht t.dp))).setCell ⟨u3.heap.size, 2, none⟩ (.int .i64 (hi3 t.wd t.ht t.dp))) u0.heap.size [.int .i64 (lo3 x.wd x.ht x.dp), .int .i64 (mid3 x.wd x.ht x.dp), .int .i64 (hi3 x.wd x.ht x.dp)]) := ((((unhide Kpu5).other Npq).other Npq).other Npq)
                have Lpu6 : u0.heap.size < (((u5.setCell ⟨u3.heap.size, 0, none⟩ (.int .i64 (lo3 t.wd t.ht t.dp))).setCell ⟨u3.heap.size, 1, none⟩ (.int .i64 (mid3 t.wd t.ht t.dp))).setCell ⟨u3.heap.size, 2, none⟩ (.int .i64 (hi3 t.wd t.ht t.dp))).heap.size := by simpa using Lpu5
                clear Kpu5 Lpu5
                clear Kqu5 Lqu5
                generalize (((u5.setCell ⟨u3.heap.size, 0, none⟩ (.int .i64 (lo3 t.wd t.ht t.dp))).setCell ⟨u3.heap.size, 1, none⟩ (.int .i64 (mid3 t.wd t.ht t.dp))).setCell ⟨u3.heap.size, 2, none⟩ (.int .i64 (hi3 t.wd t.ht t.dp))) = u6 at *
                refine wpTo_done (by kernel_rfl) ?_ _
                refine NoPanic.normal ?_
                go_wp2_with fail
                go_meet
                case rel => exact ⟨_, _, rfl, rfl, unhide Kpu6, unhide Kqu6, unhide Bu6⟩
              exact AllTo.nil
            exact AllTo.nil
          exact AllTo.nil
        refine AllTo.cons (o := _) rfl (fun K hK => ?_) ?_
        · (try simp only [List.getElem_toArray, List.getElem_cons_zero, List.getElem_cons_succ])
          go_simp
          refine hK.out _ _ (fun _ => (unhide KS) _ (bw_alloc (unhide Bu2) _)) ?_
          clear hK K
          try simp only [Act.put, List.getElem_toArray, List.getElem_cons_zero, List.getElem_cons_succ, List.setIfInBounds_toArray, List.set_cons_zero, List.set_cons_succ]
          have Bu3 : Hid (Below W.heap.size W (u2.alloc (.cells #[.int .i64 0, .int .i64 0, .int .i64 0] 212))) := bw_alloc (unhide Bu2) _
          have Kqu3 : Hid (Blk (u2.alloc (.cells #[.int .i64 0, .int .i64 0, .int .i64 0] 212)) u2.heap.size [.int .i64 0, .int .i64 0, .int .i64 0]) := Blk.allocAt [.int .i64 0, .int .i64 0, .int .i64 0] rfl
          have Lqu3 : u2.heap.size < (u2.alloc (.cells #[.int .i64 0, .int .i64 0, .int .i64 0] 212)).heap.size := by simp
          have Gq : W.heap.size ≤ u2.heap.size := (unhide Bu2).size
          have Kpu3 : Hid (Blk (u2.alloc (.cells #[.int .i64 0, .int .i64 0, .int .i64 0] 212)) u0.heap.size [.int .i64 0, .int .i64 0, .int .i64 0]) := (unhide Kpu2).allocOld Lpu2 _
          have Lpu3 : u0.heap.size < (u2.alloc (.cells #[.int .i64 0, .int .i64 0, .int .i64 0] 212)).heap.size := by simp; omega
          have Npq : u0.heap.size ≠ u2.heap.size := Nat.ne_of_lt Lpu2
          have Nqp : u2.heap.size ≠ u0.heap.size := Ne.symm Npq
          clear Kpu2 Lpu2
          generalize (u2.alloc (.cells #[.int .i64 0, .int .i64 0, .int .i64 0] 212)) = u3 at *
          (try clear hHeld)
          refine wpTo_ready (rs := [13]) (by kernel_rfl) (by simp) ?_
          refine AllTo.cons (o := _) rfl (fun K hK => ?_) ?_
          · (try simp only [List.getElem_toArray, List.getElem_cons_zero, List.getElem_cons_succ])
            go_simp
            refine (sidesUp_any _ _ _ _).mono ?_
            rintro e u4 ⟨rfl, hb⟩
            have Bu4 := hide (bw_call (unhide Bu3) hb)
            have Kpu4 := hide (Blk.below hb Lpu3 (unhide Kpu3))
            have Lpu4 : u0.heap.size < u4.heap.size := Nat.lt_of_lt_of_le Lpu3 hb.size
            have Kqu4 := hide (Blk.below hb Lqu3 (unhide Kqu3))
            have Lqu4 : u2.heap.size < u4.heap.size := Nat.lt_of_lt_of_le Lqu3 hb.size
            clear hb
            go_wp2_with fail
            refine hK.out _ _ (fun _ => (unhide KS) _ (unhide Bu4)) ?_
            clear hK K
            try simp only [Act.put, List.getElem_toArray, List.getElem_cons_zero, List.getElem_cons_succ, List.setIfInBounds_toArray, List.set_cons_zero, List.set_cons_succ]
            clear Kpu3 Lpu3
            clear Kqu3 Lqu3
            (try clear hHeld)
            refine wpTo_ready (rs := [16]) (by kernel_rfl) (by simp) ?_
            refine AllTo.cons (o := _) rfl (fun K hK => ?_) ?_
            · (try simp only [List.getElem_toArray, List.getElem_cons_zero, List.getElem_cons_succ])
              have p0 := ((unhide Kpu4) 0 (by simp)).1
              have q0 := ((unhide Kpu4) 0 (by simp)).2
              have p1 := ((unhide Kpu4) 1 (by simp)).1
              have q1 := ((unhide Kpu4) 1 (by simp)).2
              have p2 := ((unhide Kpu4) 2 (by simp)).1
              have q2 := ((unhide Kpu4) 2 (by simp)).2
              go_simp
              refine hK.out _ _ (fun _ => (unhide KS) _ (bw_set (bw_set (bw_set (unhide Bu4) Gp _) Gp _) Gp _)) ?_
              clear hK K
              try simp only [Act.put, List.getElem_toArray, List.getElem_cons_zero, List.getElem_cons_succ, List.setIfInBounds_toArray, List.set_cons_zero, List.set_cons_succ]
              clear p0 q0 p1 q1 p2 q2
              have Bu5 : Hid (Below W.heap.size W (((u4.setCell ⟨u0.heap.size, 0, none⟩ (.int .i64 (lo3 x.wd x.ht x.dp))).setCell ⟨u0.heap.size, 1, none⟩ (.int .i64 (mid3 x.wd x.ht x.dp))).setCell ⟨u0.heap.size, 2, none⟩ (.int .i64 (hi3 x.wd x.ht x.dp)))) := (bw_set (bw_set (bw_set (unhide Bu4) Gp _) Gp _) Gp _)
              have Kpu5 : Hid (Blk (((u4.setCell ⟨u0.heap.size, 0, none⟩ (.int .i64 (lo3 x.wd x.ht x.dp))).setCell ⟨u0.heap.size, 1, none⟩ (.int .i64 (mid3 x.wd x.ht x.dp))).setCell ⟨u0.heap.size, 2, none⟩ (.int .i64 (hi3 x.wd x.ht x.dp))) u0.heap.size [.int .i64 (lo3 x.wd x.ht x.dp), .int .i64 (mid3 x.wd x.ht x.dp), .int .i64 (hi3 x.wd x.ht x.dp)]) := Blk.fill3 (unhide Kpu4)
              have Lpu5 : u0.heap.size < (((u4.setCell ⟨u0.heap.size, 0, none⟩ (.int .i64 (lo3 x.wd x.ht x.dp))).setCell ⟨u0.heap.size, 1, none⟩ (.int .i64 (mid3 x.wd x.ht x.dp))).setCell ⟨u0.heap.size, 2, none⟩ (.int .i64 (hi3 x.wd x.ht x.dp))).heap.size := by simpa using Lpu4
              have Kqu5 : Hid (Blk (((u4.setCell ⟨u0.heap.size, 0, none⟩ (.int .i64 (lo3 x.wd x.ht x.dp))).setCell ⟨u0.heap.size, 1, none⟩ (.int .i64 (mid3 x.wd x.ht x.dp))).setCell ⟨u0.heap.size, 2, none⟩ (.int .i64 (hi3 x.wd x.ht x.dp))) u2.heap.size [.int .i64 0, .int .i64 0, .int .i64 0]) := ((((unhide Kqu4).other Nqp).other Nqp).other Nqp)
              have Lqu5 : u2.heap.size < (((u4.setCell ⟨u0.heap.size, 0, none⟩ (.int .i64 (lo3 x.wd x.ht x.dp))).setCell ⟨u0.heap.size, 1, none⟩ (.int .i64 (mid3 x.wd x.ht x.dp))).setCell ⟨u0.heap.size, 2, none⟩ (.int .i64 (hi3 x.wd x.ht x.dp))).heap.size := by simpa using Lqu4
              clear Kqu4 Lqu4
              clear Kpu4 Lpu4
              generalize (((u4.setCell ⟨u0.heap.size, 0, none⟩ (.int .i64 (lo3 x.wd x.ht x.dp))).setCell ⟨u0.heap.size, 1, none⟩ (.int .i64 (mid3 x.wd x.ht x.dp))).setCell ⟨u0.heap.size, 2, none⟩ (.int .i64 (hi3 x.wd x.ht x.dp))) = u5 at *
              (try clear hHeld)
              refine wpTo_ready (rs := [17]) (by kernel_rfl) (by simp) ?_
              refine AllTo.cons (o := _) rfl (fun K hK => ?_) ?_
              · (try simp only [List.getElem_toArray, List.getElem_cons_zero, List.getElem_cons_succ])
                have p0 := ((unhide Kqu5) 0 (by simp)).1
                have q0 := ((unhide Kqu5) 0 (by simp)).2
                have p1 := ((unhide Kqu5) 1 (by simp)).1
                have q1 := ((unhide Kqu5) 1 (by simp)).2
                have p2 := ((unhide Kqu5) 2 (by simp)).1
                have q2 := ((unhide Kqu5) 2 (by simp)).2
                go_simp
                refine hK.out _ _ (fun _ => (unhide KS) _ (bw_set (bw_set (bw_set (unhide Bu5) Gq _) Gq _) Gq _)) ?_
                clear hK K
                try simp only [Act.put, List.getElem_toArray, List.getElem_cons_zero, List.getElem_cons_succ, List.setIfInBounds_toArray, List.set_cons_zero, List.set_cons_succ]
                clear p0 q0 p1 q1 p2 q2
                have Bu6 : Hid (Below W.heap.size W (((u5.setCell ⟨u2.heap.size, 0, none⟩ (.int .i64 (lo3 t.wd t.ht t.dp))).setCell ⟨u2.heap.size, 1, none⟩ (.int .i64 (mid3 t.wd t.ht t.dp))).setCell ⟨u2.heap.size, 2, none⟩ (.int .i64 (hi3 t.wd t.ht t.dp)))) := (bw_set (bw_set (bw_set (unhide Bu5) Gq _) Gq _) Gq _)
                have Kqu6 : Hid (Blk (((u5.setCell ⟨u2.heap.size, 0, none⟩ (.int .i64 (lo3 t.wd t.ht t.dp))).setCell ⟨u2.heap.size, 1, none⟩ (.int .i64 (mid3 t.wd t.ht t.dp))).setCell ⟨u2.heap.size, 2, none⟩ (.int .i64 (hi3 t.wd t.ht t.dp))) u2.heap.size [.int .i64 (lo3 t.wd t.ht t.dp), .int .i64 (mid3 t.wd t.ht t.dp), .int .i64 (hi3 t.wd t.ht t.dp)]) := Blk.fill3 (unhide Kqu5)
                have Lqu6 : u2.heap.size < (((u5.setCell ⟨u2.heap.size, 0, none⟩ (.int .i64 (lo3 t.wd t.ht t.dp))).setCell ⟨u2.heap.size, 1, none⟩ (.int .i64 (mid3 t.wd t.ht t.dp))).setCell ⟨u2.heap.size, 2, none⟩ (.int .i64 (hi3 t.wd t.ht t.dp))).heap.size := by simpa using Lqu5
                have Kpu6 : Hid (Blk (((u5.setCell ⟨u2.heap.size, 0, none⟩ (.int .i64 (lo3 t.wd t.ht t.dp))).setCell ⟨u2.heap.size, 1, none⟩ (.int .i64 (mid3 t.wd t.ht t.dp))).setCell ⟨u2.heap.size, 2, none⟩ (.int .i64 (hi3 t.wd t.ht t.dp))) u0.heap.size [.int .i64 (lo3 x.wd x.ht x.dp), .int .i64 (mid3 x.wd x.ht x.dp), .int .i64 (hi3 x.wd x.ht x.dp)]) := ((((unhide Kpu5).other Npq).other Npq).other Npq)
                have Lpu6 : u0.heap.size < (((u5.setCell ⟨u2.heap.size, 0, none⟩ (.int .i64 (lo3 t.wd t.ht t.dp))).setCell ⟨u2.heap.size, 1, none⟩ (.int .i64 (mid3 t.wd t.ht t.dp))).setCell ⟨u2.heap.size, 2, none⟩ (.int .i64 (hi3 t.wd t.ht t.dp))).heap.size := by simpa using Lpu5
                clear Kpu5 Lpu5
                clear Kqu5 Lqu5
                generalize (((u5.setCell ⟨u2.heap.size, 0, none⟩ (.int .i64 (lo3 t.wd t.ht t.dp))).setCell ⟨u2.heap.size, 1, none⟩ (.int .i64 (mid3 t.wd t.ht t.dp))).setCell ⟨u2.heap.size, 2, none⟩ (.int .i64 (hi3 t.wd t.ht t.dp))) = u6 at *
                refine wpTo_done (by kernel_rfl) ?_ _
                refine NoPanic.normal ?_
                go_wp2_with fail
                go_meet
                case rel => exact ⟨_, _, rfl, rfl, unhide Kpu6, unhide Kqu6, unhide Bu6⟩
              exact AllTo.nil
            exact AllTo.nil
          exact AllTo.nil
        exact AllTo.nil
      refine AllTo.cons (o := _) rfl (fun K hK => ?_) ?_
      · (try simp only [List.getElem_toArray, List.getElem_cons_zero, List.getElem_cons_succ])
        go_simp
        refine hK.out _ _ (fun _ => (unhide KS) _ (bw_alloc (unhide Bu1) _)) ?_
        clear hK K
        try simp only [Act.put, List.getElem_toArray, List.getElem_cons_zero, List.getElem_cons_succ, List.setIfInBounds_toArray, List.set_cons_zero, List.set_cons_succ]
        have Bu2 : Hid (Below W.heap.size W (u1.alloc (.cells #[.int .i64 0, .int .i64 0, .int .i64 0] 212))) := bw_alloc (unhide Bu1) _
        have Kqu2 : Hid (Blk (u1.alloc (.cells #[.int .i64 0, .int .i64 0, .int .i64 0] 212)) u1.heap.size [.int .i64 0, .int .i64 0, .int .i64 0]) := Blk.allocAt [.int .i64 0, .int .i64 0, .int .i64 0] rfl
        have Lqu2 : u1.heap.size < (u1.alloc (.cells #[.int .i64 0, .int .i64 0, .int .i64 0] 212)).heap.size := by simp
        have Gq : W.heap.size ≤ u1.heap.size := (unhide Bu1).size
        have Kpu2 : Hid (Blk (u1.alloc (.cells #[.int .i64 0, .int .i64 0, .int .i64 0] 212)) u0.heap.size [.int .i64 0, .int .i64 0, .int .i64 0]) := (unhide Kpu1).allocOld Lpu1 _
        have Lpu2 : u0.heap.size < (u1.alloc (.cells #[.int .i64 0, .int .i64 0, .int .i64 0] 212)).heap.size := by simp; omega
        have Npq : u0.heap.size ≠ u1.heap.size := Nat.ne_of_lt Lpu1
        have Nqp : u1.heap.size ≠ u0.heap.size := Ne.symm Npq
        clear Kpu1 Lpu1
        generalize (u1.alloc (.cells #[.int .i64 0, .int .i64 0, .int .i64 0] 212)) = u2 at *
        (try clear hHeld)
        refine wpTo_ready (rs := [6]) (by kernel_rfl) (by simp) ?_
        refine AllTo.cons (o := _) rfl (fun K hK => ?_) ?_
        · (try simp only [List.getElem_toArray, List.getElem_cons_zero, List.getElem_cons_succ])
          go_simp
          refine (sidesUp_any _ _ _ _).mono ?_
          rintro e u3 ⟨rfl, hb⟩
          have Bu3 := hide (bw_call (unhide Bu2) hb)
          have Kpu3 := hide (Blk.below hb Lpu2 (unhide Kpu2))
          have Lpu3 : u0.heap.size < u3.heap.size := Nat.lt_of_lt_of_le Lpu2 hb.size
          have Kqu3 := hide (Blk.below hb Lqu2 (unhide Kqu2))
          have Lqu3 : u1.heap.size < u3.heap.size := Nat.lt_of_lt_of_le Lqu2 hb.size
          clear hb
          go_wp2_with fail
          refine hK.out _ _ (fun _ => (unhide KS) _ (unhide Bu3)) ?_
          clear hK K
          try simp only [Act.put, List.getElem_toArray, List.getElem_cons_zero, List.getElem_cons_succ, List.setIfInBounds_toArray, List.set_cons_zero, List.set_cons_succ]
          clear Kpu2 Lpu2
          clear Kqu2 Lqu2
          (try clear hHeld)
          refine wpTo_ready (rs := [13]) (by kernel_rfl) (by simp) ?_
          refine AllTo.cons (o := _) rfl (fun K hK => ?_) ?_
          · (try simp only [List.getElem_toArray, List.getElem_cons_zero, List.getElem_cons_succ])
            go_simp
            refine (sidesUp_any _ _ _ _).mono ?_
            rintro e u4 ⟨rfl, hb⟩
            have Bu4 := hide (bw_call (unhide Bu3) hb)
            have Kpu4 := hide (Blk.below hb Lpu3 (unhide Kpu3))
            have Lpu4 : u0.heap.size < u4.heap.size := Nat.lt_of_lt_of_le Lpu3 hb.size
            have Kqu4 := hide (Blk.below hb Lqu3 (unhide Kqu3))
            have Lqu4 : u1.heap.size < u4.heap.size := Nat.lt_of_lt_of_le Lqu3 hb.size
            clear hb
            go_wp2_with fail
            refine hK.out _ _ (fun _ => (unhide KS) _ (unhide Bu4)) ?_
            clear hK K
            try simp only [Act.put, List.getElem_toArray, List.getElem_cons_zero, List.getElem_cons_succ, List.setIfInBounds_toArray, List.set_cons_zero, List.set_cons_succ]
            clear Kpu3 Lpu3
            clear Kqu3 Lqu3
            (try clear hHeld)
            refine wpTo_ready (rs := [16]) (by kernel_rfl) (by simp) ?_
            refine AllTo.cons (o := _) rfl (fun K hK => ?_) ?_
            · (try simp only [List.getElem_toArray, List.getElem_cons_zero, List.getElem_cons_succ])
              have p0 := ((unhide Kpu4) 0 (by simp)).1
              have q0 := ((unhide Kpu4) 0 (by simp)).2
              have p1 := ((unhide Kpu4) 1 (by simp)).1
              have q1 := ((unhide Kpu4) 1 (by simp)).2
              have p2 := ((unhide Kpu4) 2 (by simp)).1
              have q2 := ((unhide Kpu4) 2 (by simp)).2
              go_simp
              refine hK.out _ _ (fun _ => (unhide KS) _ (bw_set (bw_set (bw_set (unhide Bu4) Gp _) Gp _) Gp _)) ?_
              clear hK K
              try simp only [Act.put, List.getElem_toArray, List.getElem_cons_zero, List.getElem_cons_succ, List.setIfInBounds_toArray, List.set_cons_zero, List.set_cons_succ]
              clear p0 q0 p1 q1 p2 q2
              have Bu5 : Hid (Below W.heap.size W (((u4.setCell ⟨u0.heap.size, 0, none⟩ (.int .i64 (lo3 x.wd x.ht x.dp))).setCell ⟨u0.heap.size, 1, none⟩ (.int .i64 (mid3 x.wd x.ht x.dp))).setCell ⟨u0.heap.size, 2, none⟩ (.int .i64 (hi3 x.wd x.ht x.dp)))) := (bw_set (bw_set (bw_set (unhide Bu4) Gp _) Gp _) Gp _)
              have Kpu5 : Hid (Blk (((u4.setCell ⟨u0.heap.size, 0, none⟩ (.int .i64 (lo3 x.wd x.ht x.dp))).setCell ⟨u0.heap.size, 1, none⟩ (.int .i64 (mid3 x.wd x.ht x.dp))).setCell ⟨u0.heap.size, 2, none⟩ (.int .i64 (hi3 x.wd x.ht x.dp))) u0.heap.size [.int .i64 (lo3 x.wd x.ht x.dp), .int .i64 (mid3 x.wd x.ht x.dp), .int .i64 (hi3 x.wd x.ht x.dp)]) := Blk.fill3 (unhide Kpu4)
              have Lpu5 : u0.heap.size < (((u4.setCell ⟨u0.heap.size, 0, none⟩ (.int .i64 (lo3 x.wd x.ht x.dp))).setCell ⟨u0.heap.size, 1, none⟩ (.int .i64 (mid3 x.wd x.ht x.dp))).setCell ⟨u0.heap.size, 2, none⟩ (.int .i64 (hi3 x.wd x.ht x.dp))).heap.size := by simpa using Lpu4
              have Kqu5 : Hid (Blk (((u4.setCell ⟨u0.heap.size, 0, none⟩ (.int .i64 (lo3 x.wd x.ht x.dp))).setCell ⟨u0.heap.size, 1, none⟩ (.int .i64 (mid3 x.wd x.ht x.dp))).setCell ⟨u0.heap.size, 2, none⟩ (.int .i64 (hi3 x.wd x.ht x.dp))) u1.heap.size [.int .i64 0, .int .i64 0, .int .i64 0]) := ((((unhide Kqu4).other Nqp).other Nqp).other Nqp)
              have Lqu5 : u1.heap.size < (((u4.setCell ⟨u0.heap.size, 0, none⟩ (.int .i64 (lo3 x.wd x.ht x.dp))).setCell ⟨u0.heap.size, 1, none⟩ (.int .i64 (mid3 x.wd x.ht x.dp))).setCell ⟨u0.heap.size, 2, none⟩ (.int .i64 (hi3 x.wd x.ht x.dp))).heap.size := by simpa using Lqu4
              clear Kqu4 Lqu4
              clear Kpu4 Lpu4
              generalize (((u4.setCell ⟨u0.heap.size, 0, none⟩ (.int .i64 (lo3 x.wd x.ht x.dp))).setCell ⟨u0.heap.size, 1, none⟩ (.int .i64 (mid3 x.wd x.ht x.dp))).setCell ⟨u0.heap.size, 2, none⟩ (.int .i64 (hi3 x.wd x.ht x.dp))) = u5 at *
              (try clear hHeld)
              refine wpTo_ready (rs := [17]) (by kernel_rfl) (by simp) ?_
              refine AllTo.cons (o := _) rfl (fun K hK => ?_) ?_
              · (try simp only [List.getElem_toArray, List.getElem_cons_zero, List.getElem_cons_succ])
                have p0 := ((unhide Kqu5) 0 (by simp)).1
                have q0 := ((unhide Kqu5) 0 (by simp)).2
                have p1 := ((unhide Kqu5) 1 (by simp)).1
                have q1 := ((unhide Kqu5) 1 (by simp)).2
                have p2 := ((unhide Kqu5) 2 (by simp)).1
                have q2 := ((unhide Kqu5) 2 (by simp)).2
                go_simp
                refine hK.out _ _ (fun _ => (unhide KS) _ (bw_set (bw_set (bw_set (unhide Bu5) Gq _) Gq _) Gq _)) ?_
                clear hK K
                try simp only [Act.put, List.getElem_toArray, List.getElem_cons_zero, List.getElem_cons_succ, List.setIfInBounds_toArray, List.set_cons_zero, List.set_cons_succ]
                clear p0 q0 p1 q1 p2 q2
                have Bu6 : Hid (Below W.heap.size W (((u5.setCell ⟨u1.heap.size, 0, none⟩ (.int .i64 (lo3 t.wd t.ht t.dp))).setCell ⟨u1.heap.size, 1, none⟩ (.int .i64 (mid3 t.wd t.ht t.dp))).setCell ⟨u1.heap.size, 2, none⟩ (.int .i64 (hi3 t.wd t.ht t.dp)))) := (bw_set (bw_set (bw_set (unhide Bu5) Gq _) Gq _) Gq _)
                have Kqu6 : Hid (Blk (((u5.setCell ⟨u1.heap.size, 0, none⟩ (.int .i64 (lo3 t.wd t.ht t.dp))).setCell ⟨u1.heap.size, 1, none⟩ (.int .i64 (mid3 t.wd t.ht t.dp))).setCell ⟨u1.heap.size, 2, none⟩ (.int .i64 (hi3 t.wd t.ht t.dp))) u1.heap.size [.int .i64 (lo3 t.wd t.ht t.dp), .int .i64 (mid3 t.wd t.ht t.dp), .int .i64 (hi3 t.wd t.ht t.dp)]) := Blk.fill3 (unhide Kqu5)
                have Lqu6 : u1.heap.size < (((u5.setCell ⟨u1.heap.size, 0, none⟩ (.int .i64 (lo3 t.wd t.ht t.dp))).setCell ⟨u1.heap.size, 1, none⟩ (.int .i64 (mid3 t.wd t.ht t.dp))).setCell ⟨u1.heap.size, 2, none⟩ (.int .i64 (hi3 t.wd t.ht t.dp))).heap.size := by simpa using Lqu5
                have Kpu6 : Hid (Blk (((u5.setCell ⟨u1.heap.size, 0, none⟩ (.int .i64 (lo3 t.wd t.ht t.dp))).setCell ⟨u1.heap.size, 1, none⟩ (.int .i64 (mid3 t.wd t.ht t.dp))).setCell ⟨u1.heap.size, 2, none⟩ (.int .i64 (hi3 t.wd t.ht t.dp))) u0.heap.size [.int .i64 (lo3 x.wd x.ht x.dp), .int .i64 (mid3 x.wd x.ht x.dp), .int .i64 (hi3 x.wd x.ht x.dp)]) := ((((unhide Kpu5).other Npq).other Npq).other Npq)
                have Lpu6 : u0.heap.size < (((u5.setCell ⟨u1.heap.size, 0, none⟩ (.int .i64 (lo3 t.wd t.ht t.dp))).setCell ⟨u1.heap.size, 1, none⟩ (.int .i64 (mid3 t.wd t.ht t.dp))).setCell ⟨u1.heap.size, 2, none⟩ (.int .i64 (hi3 t.wd t.ht t.dp))).heap.size := by simpa using Lpu5
                clear Kpu5 Lpu5
                clear Kqu5 Lqu5
                generalize (((u5.setCell ⟨u1.heap.size, 0, none⟩ (.int .i64 (lo3 t.wd t.ht t.dp))).setCell ⟨u1.heap.size, 1, none⟩ (.int .i64 (mid3 t.wd t.ht t.dp))).setCell ⟨u1.heap.size, 2, none⟩ (.int .i64 (hi3 t.wd t.ht t.dp))) = u6 at *
                refine wpTo_done (by kernel_rfl) ?_ _
                refine NoPanic.normal ?_
                go_wp2_with fail
                go_meet
                case rel => exact ⟨_, _, rfl, rfl, unhide Kpu6, unhide Kqu6, unhide Bu6⟩
              exact AllTo.nil
            exact AllTo.nil
          exact AllTo.nil
        exact AllTo.nil
      exact AllTo.nil
    refine AllTo.cons (o := _) rfl (fun K hK => ?_) ?_
    · (try simp only [List.getElem_toArray, List.getElem_cons_zero, List.getElem_cons_succ])
      go_simp
      refine hK.out _ _ (fun _ => (unhide KS) _ (bw_alloc (unhide Bu0) _)) ?_
      clear hK K
      try simp only [Act.put, List.getElem_toArray, List.getElem_cons_zero, List.getElem_cons_succ, List.setIfInBounds_toArray, List.set_cons_zero, List.set_cons_succ]
      have Bu1 : Hid (Below W.heap.size W (u0.alloc (.cells #[.int .i64 0, .int .i64 0, .int .i64 0] 212))) := bw_alloc (unhide Bu0) _
      have Kqu1 : Hid (Blk (u0.alloc (.cells #[.int .i64 0, .int .i64 0, .int .i64 0] 212)) u0.heap.size [.int .i64 0, .int .i64 0, .int .i64 0]) := Blk.allocAt [.int .i64 0, .int .i64 0, .int .i64 0] rfl
      have Lqu1 : u0.heap.size < (u0.alloc (.cells #[.int .i64 0, .int .i64 0, .int .i64 0] 212)).heap.size := by simp
      have Gq : W.heap.size ≤ u0.heap.size := (unhide Bu0).size
      generalize (u0.alloc (.cells #[.int .i64 0, .int .i64 0, .int .i64 0] 212)) = u1 at *
      (try clear hHeld)
      refine wpTo_ready (rs := [6, 14]) (by kernel_rfl) (by simp) ?_
      refine AllTo.cons (o := _) rfl (fun K hK => ?_) ?_
      · (try simp only [List.getElem_toArray, List.getElem_cons_zero, List.getElem_cons_succ])
        go_simp
        refine (sidesUp_any _ _ _ _).mono ?_
        rintro e u2 ⟨rfl, hb⟩
        have Bu2 := hide (bw_call (unhide Bu1) hb)
        have Kqu2 := hide (Blk.below hb Lqu1 (unhide Kqu1))
        have Lqu2 : u0.heap.size < u2.heap.size := Nat.lt_of_lt_of_le Lqu1 hb.size
        clear hb
        go_wp2_with fail
        refine hK.out _ _ (fun _ => (unhide KS) _ (unhide Bu2)) ?_
        clear hK K
        try simp only [Act.put, List.getElem_toArray, List.getElem_cons_zero, List.getElem_cons_succ, List.setIfInBounds_toArray, List.set_cons_zero, List.set_cons_succ]
        clear Kqu1 Lqu1
        (try clear hHeld)
        refine wpTo_ready (rs := [13, 14]) (by kernel_rfl) (by simp) ?_
        refine AllTo.cons (o := _) rfl (fun K hK => ?_) ?_
        · (try simp only [List.getElem_toArray, List.getElem_cons_zero, List.getElem_cons_succ])
          go_simp
          refine (sidesUp_any _ _ _ _).mono ?_
          rintro e u3 ⟨rfl, hb⟩
          have Bu3 := hide (bw_call (unhide Bu2) hb)
          have Kqu3 := hide (Blk.below hb Lqu2 (unhide Kqu2))
          have Lqu3 : u0.heap.size < u3.heap.size := Nat.lt_of_lt_of_le Lqu2 hb.size
          clear hb
          go_wp2_with fail
          refine hK.out _ _ (fun _ => (unhide KS) _ (unhide Bu3)) ?_
          clear hK K
          try simp only [Act.put, List.getElem_toArray, List.getElem_cons_zero, List.getElem_cons_succ, List.setIfInBounds_toArray, List.set_cons_zero, List.set_cons_succ]
          clear Kqu2 Lqu2
          (try clear hHeld)
          refine wpTo_ready (rs := [14]) (by kernel_rfl) (by simp) ?_
          refine AllTo.cons (o := _) rfl (fun K hK => ?_) ?_
          · (try simp only [List.getElem_toArray, List.getElem_cons_zero, List.getElem_cons_succ])
            go_simp
            refine hK.out _ _ (fun _ => (unhide KS) _ (bw_alloc (unhide Bu3) _)) ?_
            clear hK K
            try simp only [Act.put, List.getElem_toArray, List.getElem_cons_zero, List.getElem_cons_succ, List.setIfInBounds_toArray, List.set_cons_zero, List.set_cons_succ]
            have Bu4 : Hid (Below W.heap.size W (u3.alloc (.cells #[.int .i64 0, .int .i64 0, .int .i64 0] 212))) := bw_alloc (unhide Bu3) _
            have Kpu4 : Hid (Blk (u3.alloc (.cells #[.int .i64 0, .int .i64 0, .int .i64 0] 212)) u3.heap.size [.int .i64 0, .int .i64 0, .int .i64 0]) := Blk.allocAt [.int .i64 0, .int .i64 0, .int .i64 0] rfl
            have Lpu4 : u3.heap.size < (u3.alloc (.cells #[.int .i64 0, .int .i64 0, .int .i64 0] 212)).heap.size := by simp
            have Gp : W.heap.size ≤ u3.heap.size := (unhide Bu3).size
            have Kqu4 : Hid (Blk (u3.alloc (.cells #[.int .i64 0, .int .i64 0, .int .i64 0] 212)) u0.heap.size [.int .i64 0, .int .i64 0, .int .i64 0]) := (unhide Kqu3).allocOld Lqu3 _
            have Lqu4 : u0.heap.size < (u3.alloc (.cells #[.int .i64 0, .int .i64 0, .int .i64 0] 212)).heap.size := by simp; omega
            have Nqp : u0.heap.size ≠ u3.heap.size := Nat.ne_of_lt Lqu3
            have Npq : u3.heap.size ≠ u0.heap.size := Ne.symm Nqp
            clear Kqu3 Lqu3
            generalize (u3.alloc (.cells #[.int .i64 0, .int .i64 0, .int .i64 0] 212)) = u4 at *
            (try clear hHeld)
            refine wpTo_ready (rs := [16]) (by kernel_rfl) (by simp) ?_
            refine AllTo.cons (o := _) rfl (fun K hK => ?_) ?_
            · (try simp only [List.getElem_toArray, List.getElem_cons_zero, List.getElem_cons_succ])
              have p0 := ((unhide Kpu4) 0 (by simp)).1
              have q0 := ((unhide Kpu4) 0 (by simp)).2
              have p1 := ((unhide Kpu4) 1 (by simp)).1
              have q1 := ((unhide Kpu4) 1 (by simp)).2
              have p2 := ((unhide Kpu4) 2 (by simp)).1
              have q2 := ((unhide Kpu4) 2 (by simp)).2
              go_simp
              refine hK.out _ _ (fun _ => (unhide KS) _ (bw_set (bw_set (bw_set (unhide Bu4) Gp _) Gp _) Gp _)) ?_
              clear hK K
              try simp only [Act.put, List.getElem_toArray, List.getElem_cons_zero, List.getElem_cons_succ, List.setIfInBounds_toArray, List.set_cons_zero, List.set_cons_succ]
              clear p0 q0 p1 q1 p2 q2
              have Bu5 : Hid (Below W.heap.size W (((u4.setCell ⟨u3.heap.size, 0, none⟩ (.int .i64 (lo3 x.wd x.ht x.dp))).setCell ⟨u3.heap.size, 1, none⟩ (.int .i64 (mid3 x.wd x.ht x.dp))).setCell ⟨u3.heap.size, 2, none⟩ (.int .i64 (hi3 x.wd x.ht x.dp)))) := (bw_set (bw_set (bw_set (unhide Bu4) Gp _) Gp _) Gp _)
              have Kpu5 : Hid (Blk (((u4.setCell ⟨u3.heap.size, 0, none⟩ (.int .i64 (lo3 x.wd x.ht x.dp))).setCell ⟨u3.heap.size, 1, none⟩ (.int .i64 (mid3 x.wd x.ht x.dp))).setCell ⟨u3.heap.size, 2, none⟩ (.int .i64 (hi3 x.wd x.ht x.dp))) u3.heap.size [.int .i64 (lo3 x.wd x.ht x.dp), .int .i64 (mid3 x.wd x.ht x.dp), .int .i64 (hi3 x.wd x.ht x.dp)]) := Blk.fill3 (unhide Kpu4)
              have Lpu5 : u3.heap.size < (((u4.setCell ⟨u3.heap.size, 0, none⟩ (.int .i64 (lo3 x.wd x.ht x.dp))).setCell ⟨u3.heap.size, 1, none⟩ (.int .i64 (mid3 x.wd x.ht x.dp))).setCell ⟨u3.heap.size, 2, none⟩ (.int .i64 (hi3 x.wd x.ht x.dp))).heap.size := by simpa using Lpu4
              have Kqu5 : Hid (Blk (((u4.setCell ⟨u3.heap.size, 0, none⟩ (.int .i64 (lo3 x.wd x.ht x.dp))).setCell ⟨u3.heap.size, 1, none⟩ (.int .i64 (mid3 x.wd x.ht x.dp))).setCell ⟨u3.heap.size, 2, none⟩ (.int .i64 (hi3 x.wd x.ht x.dp))) u0.heap.size [.int .i64 0, .int .i64 0, .int .i64 0]) := ((((unhide Kqu4).other Nqp).other Nqp).other Nqp)
              have Lqu5 : u0.heap.size < (((u4.setCell ⟨u3.heap.size, 0, none⟩ (.int .i64 (lo3 x.wd x.ht x.dp))).setCell ⟨u3.heap.size, 1, none⟩ (.int .i64 (mid3 x.wd x.ht x.dp))).setCell ⟨u3.heap.size, 2, none⟩ (.int .i64 (hi3 x.wd x.ht x.dp))).heap.size := by simpa using Lqu4
              clear Kqu4 Lqu4
              clear Kpu4 Lpu4
              generalize (((u4.setCell ⟨u3.heap.size, 0, none⟩ (.int .i64 (lo3 x.wd x.ht x.dp))).setCell ⟨u3.heap.size, 1, none⟩ (.int .i64 (mid3 x.wd x.ht x.dp))).setCell ⟨u3.heap.size, 2, none⟩ (.int .i64 (hi3 x.wd x.ht x.dp))) = u5 at *
              (try clear hHeld)
              refine wpTo_ready (rs := [17]) (by kernel_rfl) (by simp) ?_
              refine AllTo.cons (o := _) rfl (fun K hK => ?_) ?_
              · (try simp only [List.getElem_toArray, List.getElem_cons_zero, List.getElem_cons_succ])
                have p0 := ((unhide Kqu5) 0 (by simp)).1
                have q0 := ((unhide Kqu5) 0 (by simp)).2
                have p1 := ((unhide Kqu5) 1 (by simp)).1
                have q1 := ((unhide Kqu5) 1 (by simp)).2
                have p2 := ((unhide Kqu5) 2 (by simp)).1
                have q2 := ((unhide Kqu5) 2 (by simp)).2
                go_simp
                refine hK.out _ _ (fun _ => (unhide KS) _ (bw_set (bw_set (bw_set (unhide Bu5) Gq _) Gq _) Gq _)) ?_
                clear hK K
                try simp only [Act.put, List.getElem_toArray, List.getElem_cons_zero, List.getElem_cons_succ, List.setIfInBounds_toArray, List.set_cons_zero, List.set_cons_succ]
                clear p0 q0 p1 q1 p2 q2
                have Bu6 : Hid (Below W.heap.size W (((u5.setCell ⟨u0.heap.size, 0, none⟩ (.int .i64 (lo3 t.wd t.ht t.dp))).setCell ⟨u0.heap.size, 1, none⟩ (.int .i64 (mid3 t.wd t.ht t.dp))).setCell ⟨u0.heap.size, 2, none⟩ (.int .i64 (hi3 t.wd t.ht t.dp)))) := (bw_set (bw_set (bw_set (unhide Bu5) Gq _) Gq _) Gq _)
                have Kqu6 : Hid (Blk (((u5.setCell ⟨u0.heap.size, 0, none⟩ (.int .i64 (lo3 t.wd t.ht t.dp))).setCell ⟨u0.heap.size, 1, none⟩ (.int .i64 (mid3 t.wd t.ht t.dp))).setCell ⟨u0.heap.size, 2, none⟩ (.int .i64 (hi3 t.wd t.ht t.dp))) u0.heap.size [.int .i64 (lo3 t.wd t.ht t.dp), .int .i64 (mid3 t.wd t.ht t.dp), .int .i64 (hi3 t.wd t.ht t.dp)]) := Blk.fill3 (unhide Kqu5)
                have Lqu6 : u0.heap.size < (((u5.setCell ⟨u0.heap.size, 0, none⟩ (.int .i64 (lo3 t.wd t.ht t.dp))).setCell ⟨u0.heap.size, 1, none⟩ (.int .i64 (mid3 t.wd t.ht t.dp))).setCell ⟨u0.heap.size, 2, none⟩ (.int .i64 (hi3 t.wd t.ht t.dp))).heap.size := by simpa using Lqu5
                have Kpu6 : Hid (Blk (((u5.setCell ⟨u0.heap.size, 0, none⟩ (.int .i64 (lo3 t.wd t.ht t.dp))).setCell ⟨u0.heap.size, 1, none⟩ (.int .i64 (mid3 t.wd t.ht t.dp))).setCell ⟨u0.heap.size, 2, none⟩ (.int .i64 (hi3 t.wd t.ht t.dp))) u3.heap.size [.int .i64 (lo3 x.wd x.ht x.dp), .int .i64 (mid3 x.wd x.ht x.dp), .int .i64 (hi3 x.wd x.ht x.dp)]) := ((((unhide Kpu5).other Npq).other Npq).other Npq)
                have Lpu6 : u3.heap.size < (((u5.setCell ⟨u0.heap.size, 0, none⟩ (.int .i64 (lo3 t.wd t.ht t.dp))).setCell ⟨u0.heap.size, 1, none⟩ (.int .i64 (mid3 t.wd t.ht t.dp))).setCell ⟨u0.heap.size, 2, none⟩ (.int .i64 (hi3 t.wd t.ht t.dp))).heap.size := by simpa using Lpu5
                clear Kpu5 Lpu5
                clear Kqu5 Lqu5
                generalize (((u5.setCell ⟨u0.heap.size, 0, none⟩ (.int .i64 (lo3 t.wd t.ht t.dp))).setCell ⟨u0.heap.size, 1, none⟩ (.int .i64 (mid3 t.wd t.ht t.dp))).setCell ⟨u0.heap.size, 2, none⟩ (.int .i64 (hi3 t.wd t.ht t.dp))) = u6 at *
                refine wpTo_done (by kernel_rfl) ?_ _
                refine NoPanic.normal ?_
                go_wp2_with fail
                go_meet
                case rel => exact ⟨_, _, rfl, rfl, unhide Kpu6, unhide Kqu6, unhide Bu6⟩
              exact AllTo.nil
            exact AllTo.nil
          exact AllTo.nil
        refine AllTo.cons (o := _) rfl (fun K hK => ?_) ?_
        · (try simp only [List.getElem_toArray, List.getElem_cons_zero, List.getElem_cons_succ])
          go_simp
          refine hK.out _ _ (fun _ => (unhide KS) _ (bw_alloc (unhide Bu2) _)) ?_
          clear hK K
          try simp only [Act.put, List.getElem_toArray, List.getElem_cons_zero, List.getElem_cons_succ, List.setIfInBounds_toArray, List.set_cons_zero, List.set_cons_succ]
          have Bu3 : Hid (Below W.heap.size W (u2.alloc (.cells #[.int .i64 0, .int .i64 0, .int .i64 0] 212))) := bw_alloc (unhide Bu2) _
          have Kpu3 : Hid (Blk (u2.alloc (.cells #[.int .i64 0, .int .i64 0, .int .i64 0] 212)) u2.heap.size [.int .i64 0, .int .i64 0, .int .i64 0]) := Blk.allocAt [.int .i64 0, .int .i64 0, .int .i64 0] rfl
          have Lpu3 : u2.heap.size < (u2.alloc (.cells #[.int .i64 0, .int .i64 0, .int .i64 0] 212)).heap.size := by simp
          have Gp : W.heap.size ≤ u2.heap.size := (unhide Bu2).size
          have Kqu3 : Hid (Blk (u2.alloc (.cells #[.int .i64 0, .int .i64 0, .int .i64 0] 212)) u0.heap.size [.int .i64 0, .int .i64 0, .int .i64 0]) := (unhide Kqu2).allocOld Lqu2 _
          have Lqu3 : u0.heap.size < (u2.alloc (.cells #[.int .i64 0, .int .i64 0, .int .i64 0] 212)).heap.size := by simp; omega
          have Nqp : u0.heap.size ≠ u2.heap.size := Nat.ne_of_lt Lqu2
          have Npq : u2.heap.size ≠ u0.heap.size := Ne.symm Nqp
          clear Kqu2 Lqu2
          generalize (u2.alloc (.cells #[.int .i64 0, .int .i64 0, .int .i64 0] 212)) = u3 at *
          (try clear hHeld)
          refine wpTo_ready (rs := [13]) (by kernel_rfl) (by simp) ?_
          refine AllTo.cons (o := _) rfl (fun K hK => ?_) ?_
          · (try simp only [List.getElem_toArray, List.getElem_cons_zero, List.getElem_cons_succ])
            go_simp
            refine (sidesUp_any _ _ _ _).mono ?_
            rintro e u4 ⟨rfl, hb⟩
            have Bu4 := hide (bw_call (unhide Bu3) hb)
            have Kqu4 := hide (Blk.below hb Lqu3 (unhide Kqu3))
            have Lqu4 : u0.heap.size < u4.heap.size := Nat.lt_of_lt_of_le Lqu3 hb.size
            have Kpu4 := hide (Blk.below hb Lpu3 (unhide Kpu3))
            have Lpu4 : u2.heap.size < u4.heap.size := Nat.lt_of_lt_of_le Lpu3 hb.size
            clear hb
            go_wp2_with fail
            refine hK.out _ _ (fun _ => (unhide KS) _ (unhide Bu4)) ?_
            clear hK K
            try simp only [Act.put, List.getElem_toArray, List.getElem_cons_zero, List.getElem_cons_succ, List.setIfInBounds_toArray, List.set_cons_zero, List.set_cons_succ]
            clear Kqu3 Lqu3
            clear Kpu3 Lpu3
            (try clear hHeld)
            refine wpTo_ready (rs := [16]) (by kernel_rfl) (by simp) ?_
            refine AllTo.cons (o := _) rfl (fun K hK => ?_) ?_
            · (try simp only [List.getElem_toArray, List.getElem_cons_zero, List.getElem_cons_succ])
              have p0 := ((unhide Kpu4) 0 (by simp)).1
              have q0 := ((unhide Kpu4) 0 (by simp)).2
              have p1 := ((unhide Kpu4) 1 (by simp)).1
              have q1 := ((unhide Kpu4) 1 (by simp)).2
              have p2 := ((unhide Kpu4) 2 (by simp)).1
              have q2 := ((unhide Kpu4) 2 (by simp)).2
              go_simp
              refine hK.out _ _ (fun _ => (unhide KS) _ (bw_set (bw_set (bw_set (unhide Bu4) Gp _) Gp _) Gp _)) ?_
              clear hK K
              try simp only [Act.put, List.getElem_toArray, List.getElem_cons_zero, List.getElem_cons_succ, List.setIfInBounds_toArray, List.set_cons_zero, List.set_cons_succ]
              clear p0 q0 p1 q1 p2 q2
              have Bu5 : Hid (Below W.heap.size W (((u4.setCell ⟨u2.heap.size, 0, none⟩ (.int .i64 (lo3 x.wd x.ht x.dp))).setCell ⟨u2.heap.size, 1, none⟩ (.int .i64 (mid3 x.wd x.ht x.dp))).setCell ⟨u2.heap.size, 2, none⟩ (.int .i64 (hi3 x.wd x.ht x.dp)))) := (bw_set (bw_set (bw_set (unhide Bu4) Gp _) Gp _) Gp _)
              have Kpu5 : Hid (Blk (((u4.setCell ⟨u2.heap.size, 0, none⟩ (.int .i64 (lo3 x.wd x.ht x.dp))).setCell ⟨u2.heap.size, 1, none⟩ (.int .i64 (mid3 x.wd x.ht x.dp))).setCell ⟨u2.heap.size, 2, none⟩ (.int .i64 (hi3 x.wd x.ht x.dp))) u2.heap.size [.int .i64 (lo3 x.wd x.ht x.dp), .int .i64 (mid3 x.wd x.ht x.dp), .int .i64 (hi3 x.wd x.ht x.dp)]) := Blk.fill3 (unhide Kpu4)
              have Lpu5 : u2.heap.size < (((u4.setCell ⟨u2.heap.size, 0, none⟩ (.int .i64 (lo3 x.wd x.ht x.dp))).setCell ⟨u2.heap.size, 1, none⟩ (.int .i64 (mid3 x.wd x.ht x.dp))).setCell ⟨u2.heap.size, 2, none⟩ (.int .i64 (hi3 x.wd x.ht x.dp))).heap.size := by simpa using Lpu4
              have Kqu5 : Hid (Blk (((u4.setCell ⟨u2.heap.size, 0, none⟩ (.int .i64 (lo3 x.wd x.ht x.dp))).setCell ⟨u2.heap.size, 1, none⟩ (.int .i64 (mid3 x.wd x.ht x.dp))).setCell ⟨u2.heap.size, 2, none⟩ (.int .i64 (hi3 x.wd x.ht x.dp))) u0.heap.size [.int .i64 0, .int .i64 0, .int .i64 0]) := ((((unhide Kqu4).other Nqp).other Nqp).other Nqp)
              have Lqu5 : u0.heap.size < (((u4.setCell ⟨u2.heap.size, 0, none⟩ (.int .i64 (lo3 x.wd x.ht x.dp))).setCell ⟨u2.heap.size, 1, none⟩ (.int .i64 (mid3 x.wd x.ht x.dp))).setCell ⟨u2.heap.size, 2, none⟩ (.int .i64 (hi3 x.wd x.ht x.dp))).heap.size := by simpa using Lqu4
              clear Kqu4 Lqu4
              clear Kpu4 Lpu4
              generalize (((u4.setCell ⟨u2.heap.size, 0, none⟩ (.int .i64 (lo3 x.wd x.ht x.dp))).setCell ⟨u2.heap.size, 1, none⟩ (.int .i64 (mid3 x.wd x.ht x.dp))).setCell ⟨u2.heap.size, 2, none⟩ (.int .i64 (hi3 x.wd x.ht x.dp))) = u5 at *
              (try clear hHeld)
              refine wpTo_ready (rs := [17]) (by kernel_rfl) (by simp) ?_
              refine AllTo.cons (o := _) rfl (fun K hK => ?_) ?_
              · (try simp only [List.getElem_toArray, List.getElem_cons_zero, List.getElem_cons_succ])
                have p0 := ((unhide Kqu5) 0 (by simp)).1
                have q0 := ((unhide Kqu5) 0 (by simp)).2
                have p1 := ((unhide Kqu5) 1 (by simp)).1
                have q1 := ((unhide Kqu5) 1 (by simp)).2
                have p2 := ((unhide Kqu5) 2 (by simp)).1
                have q2 := ((unhide Kqu5) 2 (by simp)).2
                go_simp
                refine hK.out _ _ (fun _ => (unhide KS) _ (bw_set (bw_set (bw_set (unhide Bu5) Gq _) Gq _) Gq _)) ?_
                clear hK K
                try simp only [Act.put, List.getElem_toArray, List.getElem_cons_zero, List.getElem_cons_succ, List.setIfInBounds_toArray, List.set_cons_zero, List.set_cons_succ]
                clear p0 q0 p1 q1 p2 q2
                have Bu6 : Hid (Below W.heap.size W (((u5.setCell ⟨u0.heap.size, 0, none⟩ (.int .i64 (lo3 t.wd t.ht t.dp))).setCell ⟨u0.heap.size, 1, none⟩ (.int .i64 (mid3 t.wd t.ht t.dp))).setCell ⟨u0.heap.size, 2, none⟩ (.int .i64 (hi3 t.wd t.ht t.dp)))) := (bw_set (bw_set (bw_set (unhide Bu5) Gq _) Gq _) Gq _)
                have Kqu6 : Hid (Blk (((u5.setCell ⟨u0.heap.size, 0, none⟩ (.int .i64 (lo3 t.wd t.ht t.dp))).setCell ⟨u0.heap.size, 1, none⟩ (.int .i64 (mid3 t.wd t.ht t.dp))).setCell ⟨u0.heap.size, 2, none⟩ (.int .i64 (hi3 t.wd t.ht t.dp))) u0.heap.size [.int .i64 (lo3 t.wd t.ht t.dp), .int .i64 (mid3 t.wd t.ht t.dp), .int .i64 (hi3 t.wd t.ht t.dp)]) := Blk.fill3 (unhide Kqu5)
                have Lqu6 : u0.heap.size < (((u5.setCell ⟨u0.heap.size, 0, none⟩ (.int .i64 (lo3 t.wd t.ht t.dp))).setCell ⟨u0.heap.size, 1, none⟩ (.int .i64 (mid3 t.wd t.ht t.dp))).setCell ⟨u0.heap.size, 2, none⟩ (.int .i64 (hi3 t.wd t.ht t.dp))).heap.size := by simpa using Lqu5
                have Kpu6 : Hid (Blk (((u5.setCell ⟨u0.heap.size, 0, none⟩ (.int .i64 (lo3 t.wd t.ht t.dp))).setCell ⟨u0.heap.size, 1, none⟩ (.int .i64 (mid3 t.wd t.ht t.dp))).setCell ⟨u0.heap.size, 2, none⟩ (.int .i64 (hi3 t.wd t.ht t.dp))) u2.heap.size [.int .i64 (lo3 x.wd x.ht x.dp), .int .i64 (mid3 x.wd x.ht x.dp), .int .i64 (hi3 x.wd x.ht x.dp)]) := ((((unhide Kpu5).other Npq).other Npq).other Npq)
                have Lpu6 : u2.heap.size < (((u5.setCell ⟨u0.heap.size, 0, none⟩ (.int .i64 (lo3 t.wd t.ht t.dp))).setCell ⟨u0.heap.size, 1, none⟩ (.int .i64 (mid3 t.wd t.ht t.dp))).setCell ⟨u0.heap.size, 2, none⟩ (.int .i64 (hi3 t.wd t.ht t.dp))).heap.size := by simpa using Lpu5
                clear Kpu5 Lpu5
                clear Kqu5 Lqu5
                generalize (((u5.setCell ⟨u0.heap.size, 0, none⟩ (.int .i64 (lo3 t.wd t.ht t.dp))).setCell ⟨u0.heap.size, 1, none⟩ (.int .i64 (mid3 t.wd t.ht t.dp))).setCell ⟨u0.heap.size, 2, none⟩ (.int .i64 (hi3 t.wd t.ht t.dp))) = u6 at *
                refine wpTo_done (by kernel_rfl) ?_ _
                refine NoPanic.normal ?_
                go_wp2_with fail
                go_meet
                case rel => exact ⟨_, _, rfl, rfl, unhide Kpu6, unhide Kqu6, unhide Bu6⟩
              exact AllTo.nil
            exact AllTo.nil
          exact AllTo.nil
        exact AllTo.nil
      refine AllTo.cons (o := _) rfl (fun K hK => ?_) ?_
      · (try simp only [List.getElem_toArray, List.getElem_cons_zero, List.getElem_cons_succ])
        go_simp
        refine hK.out _ _ (fun _ => (unhide KS) _ (bw_alloc (unhide Bu1) _)) ?_
        clear hK K
        try simp only [Act.put, List.getElem_toArray, List.getElem_cons_zero, List.getElem_cons_succ, List.setIfInBounds_toArray, List.set_cons_zero, List.set_cons_succ]
        have Bu2 : Hid (Below W.heap.size W (u1.alloc (.cells #[.int .i64 0, .int .i64 0, .int .i64 0] 212))) := bw_alloc (unhide Bu1) _
        have Kpu2 : Hid (Blk (u1.alloc (.cells #[.int .i64 0, .int .i64 0, .int .i64 0] 212)) u1.heap.size [.int .i64 0, .int .i64 0, .int .i64 0]) := Blk.allocAt [.int .i64 0, .int .i64 0, .int .i64 0] rfl
        have Lpu2 : u1.heap.size < (u1.alloc (.cells #[.int .i64 0, .int .i64 0, .int .i64 0] 212)).heap.size := by simp
        have Gp : W.heap.size ≤ u1.heap.size := (unhide Bu1).size
        have Kqu2 : Hid (Blk (u1.alloc (.cells #[.int .i64 0, .int .i64 0, .int .i64 0] 212)) u0.heap.size [.int .i64 0, .int .i64 0, .int .i64 0]) := (unhide Kqu1).allocOld Lqu1 _
        have Lqu2 : u0.heap.size < (u1.alloc (.cells #[.int .i64 0, .int .i64 0, .int .i64 0] 212)).heap.size := by simp; omega
        have Nqp : u0.heap.size ≠ u1.heap.size := Nat.ne_of_lt Lqu1
        have Npq : u1.heap.size ≠ u0.heap.size := Ne.symm Nqp
        clear Kqu1 Lqu1
        generalize (u1.alloc (.cells #[.int .i64 0, .int .i64 0, .int .i64 0] 212)) = u2 at *
        (try clear hHeld)
        refine wpTo_ready (rs := [6]) (by kernel_rfl) (by simp) ?_
        refine AllTo.cons (o := _) rfl (fun K hK => ?_) ?_
        · (try simp only [List.getElem_toArray, List.getElem_cons_zero, List.getElem_cons_succ])
          go_simp
          refine (sidesUp_any _ _ _ _).mono ?_
          rintro e u3 ⟨rfl, hb⟩
          have Bu3 := hide (bw_call (unhide Bu2) hb)
          have Kqu3 := hide (Blk.below hb Lqu2 (unhide Kqu2))
          have Lqu3 : u0.heap.size < u3.heap.size := Nat.lt_of_lt_of_le Lqu2 hb.size
          have Kpu3 := hide (Blk.below hb Lpu2 (unhide Kpu2))
          have Lpu3 : u1.heap.size < u3.heap.size := Nat.lt_of_lt_of_le Lpu2 hb.size
          clear hb
          go_wp2_with fail
          refine hK.out _ _ (fun _ => (unhide KS) _ (unhide Bu3)) ?_
          clear hK K
          try simp only [Act.put, List.getElem_toArray, List.getElem_cons_zero, List.getElem_cons_succ, List.setIfInBounds_toArray, List.set_cons_zero, List.set_cons_succ]
          clear Kqu2 Lqu2
          clear Kpu2 Lpu2
          (try clear hHeld)
          refine wpTo_ready (rs := [13]) (by kernel_rfl) (by simp) ?_
          refine AllTo.cons (o := _) rfl (fun K hK => ?_) ?_
          · (try simp only [List.getElem_toArray, List.getElem_cons_zero, List.getElem_cons_succ])
            go_simp
            refine (sidesUp_any _ _ _ _).mono ?_
            rintro e u4 ⟨rfl, hb⟩
            have Bu4 := hide (bw_call (unhide Bu3) hb)
            have Kqu4 := hide (Blk.below hb Lqu3 (unhide Kqu3))
            have Lqu4 : u0.heap.size < u4.heap.size := Nat.lt_of_lt_of_le Lqu3 hb.size
            have Kpu4 := hide (Blk.below hb Lpu3 (unhide Kpu3))
            have Lpu4 : u1.heap.size < u4.heap.size := Nat.lt_of_lt_of_le Lpu3 hb.size
            clear hb
            go_wp2_with fail
            refine hK.out _ _ (fun _ => (unhide KS) _ (unhide Bu4)) ?_
            clear hK K
            try simp only [Act.put, List.getElem_toArray, List.getElem_cons_zero, List.getElem_cons_succ, List.setIfInBounds_toArray, List.set_cons_zero, List.set_cons_succ]
            clear Kqu3 Lqu3
            clear Kpu3 Lpu3
            (try clear hHeld)
            refine wpTo_ready (rs := [16]) (by kernel_rfl) (by simp) ?_
            refine AllTo.cons (o := _) rfl (fun K hK => ?_) ?_
            · (try simp only [List.getElem_toArray, List.getElem_cons_zero, List.getElem_cons_succ])
              have p0 := ((unhide Kpu4) 0 (by simp)).1
              have q0 := ((unhide Kpu4) 0 (by simp)).2
              have p1 := ((unhide Kpu4) 1 (by simp)).1
              have q1 := ((unhide Kpu4) 1 (by simp)).2
              have p2 := ((unhide Kpu4) 2 (by simp)).1
              have q2 := ((unhide Kpu4) 2 (by simp)).2
              go_simp
              refine hK.out _ _ (fun _ => (unhide KS) _ (bw_set (bw_set (bw_set (unhide Bu4) Gp _) Gp _) Gp _)) ?_
              clear hK K
              try simp only [Act.put, List.getElem_toArray, List.getElem_cons_zero, List.getElem_cons_succ, List.setIfInBounds_toArray, List.set_cons_zero, List.set_cons_succ]
              clear p0 q0 p1 q1 p2 q2
              have Bu5 : Hid (Below W.heap.size W (((u4.setCell ⟨u1.heap.size, 0, none⟩ (.int .i64 (lo3 x.wd x.ht x.dp))).setCell ⟨u1.heap.size, 1, none⟩ (.int .i64 (mid3 x.wd x.ht x.dp))).setCell ⟨u1.heap.size, 2, none⟩ (.int .i64 (hi3 x.wd x.ht x.dp)))) := (bw_set (bw_set (bw_set (unhide Bu4) Gp _) Gp _) Gp _)
              have Kpu5 : Hid (Blk (((u4.setCell ⟨u1.heap.size, 0, none⟩ (.int .i64 (lo3 x.wd x.ht x.dp))).setCell ⟨u1.heap.size, 1, none⟩ (.int .i64 (mid3 x.wd x.ht x.dp))).setCell ⟨u1.heap.size, 2, none⟩ (.int .i64 (hi3 x.wd x.ht x.dp))) u1.heap.size [.int .i64 (lo3 x.wd x.ht x.dp), .int .i64 (mid3 x.wd x.ht x.dp), .int .i64 (hi3 x.wd x.ht x.dp)]) := Blk.fill3 (unhide Kpu4)
              have Lpu5 : u1.heap.size < (((u4.setCell ⟨u1.heap.size, 0, none⟩ (.int .i64 (lo3 x.wd x.ht x.dp))).setCell ⟨u1.heap.size, 1, none⟩ (.int .i64 (mid3 x.wd x.ht x.dp))).setCell ⟨u1.heap.size, 2, none⟩ (.int .i64 (hi3 x.wd x.ht x.dp))).heap.size := by simpa using Lpu4
              have Kqu5 : Hid (Blk (((u4.setCell ⟨u1.heap.size, 0, none⟩ (.int .i64 (lo3 x.wd x.ht x.dp))).setCell ⟨u1.heap.size, 1, none⟩ (.int .i64 (mid3 x.wd x.ht x.dp))).setCell ⟨u1.heap.size, 2, none⟩ (.int .i64 (hi3 x.wd x.ht x.dp))) u0.heap.size [.int .i64 0, .int .i64 0, .int .i64 0]) := ((((unhide Kqu4).other Nqp).other Nqp).other Nqp)
              have Lqu5 : u0.heap.size < (((u4.setCell ⟨u1.heap.size, 0, none⟩ (.int .i64 (lo3 x.wd x.ht x.dp))).setCell ⟨u1.heap.size, 1, none⟩ (.int .i64 (mid3 x.wd x.ht x.dp))).setCell ⟨u1.heap.size, 2, none⟩ (.int .i64 (hi3 x.wd x.ht x.dp))).heap.size := by simpa using Lqu4
              clear Kqu4 Lqu4
              clear Kpu4 Lpu4
              generalize (((u4.setCell ⟨u1.heap.size, 0, none⟩ (.int .i64 (lo3 x.wd x.ht x.dp))).setCell ⟨u1.heap.size, 1, none⟩ (.int .i64 (mid3 x.wd x.ht x.dp))).setCell ⟨u1.heap.size, 2, none⟩ (.int .i64 (hi3 x.wd x.ht x.dp))) = u5 at *
              (try clear hHeld)
              refine wpTo_ready (rs := [17]) (by kernel_rfl) (by simp) ?_
              refine AllTo.cons (o := _) rfl (fun K hK => ?_) ?_
              · (try simp only [List.getElem_toArray, List.getElem_cons_zero, List.getElem_cons_succ])
                have p0 := ((unhide Kqu5) 0 (by simp)).1
                have q0 := ((unhide Kqu5) 0 (by simp)).2
                have p1 := ((unhide Kqu5) 1 (by simp)).1
                have q1 := ((unhide Kqu5) 1 (by simp)).2
                have p2 := ((unhide Kqu5) 2 (by simp)).1
                have q2 := ((unhide Kqu5) 2 (by simp)).2
                go_simp
                refine hK.out _ _ (fun _ => (unhide KS) _ (bw_set (bw_set (bw_set (unhide Bu5) Gq _) Gq _) Gq _)) ?_
                clear hK K
                try simp only [Act.put, List.getElem_toArray, List.getElem_cons_zero, List.getElem_cons_succ, List.setIfInBounds_toArray, List.set_cons_zero, List.set_cons_succ]
                clear p0 q0 p1 q1 p2 q2
                have Bu6 : Hid (Below W.heap.size W (((u5.setCell ⟨u0.heap.size, 0, none⟩ (.int .i64 (lo3 t.wd t.ht t.dp))).setCell ⟨u0.heap.size, 1, none⟩ (.int .i64 (mid3 t.wd t.ht t.dp))).setCell ⟨u0.heap.size, 2, none⟩ (.int .i64 (hi3 t.wd t.ht t.dp)))) := (bw_set (bw_set (bw_set (unhide Bu5) Gq _) Gq _) Gq _)
                have Kqu6 : Hid (Blk (((u5.setCell ⟨u0.heap.size, 0, none⟩ (.int .i64 (lo3 t.wd t.ht t.dp))).setCell ⟨u0.heap.size, 1, none⟩ (.int .i64 (mid3 t.wd t.ht t.dp))).setCell ⟨u0.heap.size, 2, none⟩ (.int .i64 (hi3 t.wd t.ht t.dp))) u0.heap.size [.int .i64 (lo3 t.wd t.ht t.dp), .int .i64 (mid3 t.wd t.ht t.dp), .int .i64 (hi3 t.wd t.ht t.dp)]) := Blk.fill3 (unhide Kqu5)
                have Lqu6 : u0.heap.size < (((u5.setCell ⟨u0.heap.size, 0, none⟩ (.int .i64 (lo3 t.wd t.ht t.dp))).setCell ⟨u0.heap.size, 1, none⟩ (.int .i64 (mid3 t.wd t.ht t.dp))).setCell ⟨u0.heap.size, 2, none⟩ (.int .i64 (hi3 t.wd t.ht t.dp))).heap.size := by simpa using Lqu5
                have Kpu6 : Hid (Blk (((u5.setCell ⟨u0.heap.size, 0, none⟩ (.int .i64 (lo3 t.wd t.ht t.dp))).setCell ⟨u0.heap.size, 1, none⟩ (.int .i64 (mid3 t.wd t.ht t.dp))).setCell ⟨u0.heap.size, 2, none⟩ (.int .i64 (hi3 t.wd t.ht t.dp))) u1.heap.size [.int .i64 (lo3 x.wd x.ht x.dp), .int .i64 (mid3 x.wd x.ht x.dp), .int .i64 (hi3 x.wd x.ht x.dp)]) := ((((unhide Kpu5).other Npq).other Npq).other Npq)
                have Lpu6 : u1.heap.size < (((u5.setCell ⟨u0.heap.size, 0, none⟩ (.int .i64 (lo3 t.wd t.ht t.dp))).setCell ⟨u0.heap.size, 1, none⟩ (.int .i64 (mid3 t.wd t.ht t.dp))).setCell ⟨u0.heap.size, 2, none⟩ (.int .i64 (hi3 t.wd t.ht t.dp))).heap.size := by simpa using Lpu5
                clear Kpu5 Lpu5
                clear Kqu5 Lqu5
                generalize (((u5.setCell ⟨u0.heap.size, 0, none⟩ (.int .i64 (lo3 t.wd t.ht t.dp))).setCell ⟨u0.heap.size, 1, none⟩ (.int .i64 (mid3 t.wd t.ht t.dp))).setCell ⟨u0.heap.size, 2, none⟩ (.int .i64 (hi3 t.wd t.ht t.dp))) = u6 at *
                refine wpTo_done (by kernel_rfl) ?_ _
                refine NoPanic.normal ?_
                go_wp2_with fail
                go_meet
                case rel => exact ⟨_, _, rfl, rfl, unhide Kpu6, unhide Kqu6, unhide Bu6⟩
              exact AllTo.nil
            exact AllTo.nil
          exact AllTo.nil
        exact AllTo.nil
      exact AllTo.nil
    exact AllTo.nil
  case rest =>
    obtain ⟨g, h, rfl, rfl, hg, hh, hB⟩ := hcut
    obtain ⟨XL, hXL⟩ : ∃ l, l = srt3 x.wd x.ht x.dp := ⟨_, rfl⟩
    obtain ⟨TL, hTL⟩ : ∃ l, l = srt3 t.wd t.ht t.dp := ⟨_, rfl⟩
    have hg2 : Blk wc g (ci XL) := by rw [hXL]; exact hg
    have hh2 : Blk wc h (ci TL) := by rw [hTL]; exact hh
    have xl : XL.length = 3 := by rw [hXL]; rfl
    have tl : TL.length = 3 := by rw [hTL]; rfl
    have HXL := hide hXL
    have HTL := hide hTL
    have HGR : Hid (∀ w', Below W.heap.size W w' → w'.cell? ⟨G, 4, none⟩ = some (.int .i64 x.gram) ∧ w'.cell? ⟨G + 1, 5, none⟩ = some (.int .i64 t.gram)) := by
      intro w' hb
      exact ⟨(hb.cell (p := ⟨G, 4, none⟩) lt0).trans ((unhide HXX) 4 (by simp)).1, (hb.cell (p := ⟨G + 1, 5, none⟩) lt1).trans ((unhide HTT) 5 (by simp)).1⟩
    have HFIN : Hid (Below w.heap.size w W) := HB
    clear hXL hTL hg hh HXX HTT KS B1 HB HZ lt0 lt1
    go_wp2
    go_loopw [22] (fun i wr => ∃ k : Nat, k ≤ 3 ∧ i = .int .i64 (k : Int) ∧ (∀ m, m < k → XL.getD m 0 ≤ TL.getD m 0) ∧ Blk wr g (ci XL) ∧ Blk wr h (ci TL) ∧ Below W.heap.size W wr) (fun i _ => ((3 : Int) - intOf i).toNat)
    case atStart => exact ⟨0, by omega, rfl, fun m hm => by omega, hg2, hh2, hB⟩
    case round =>
      clear hg2 hh2 hB
      obtain ⟨k, hk, rfl, hle, kg, kh, hb⟩ := hrel
      by_cases hlt : k < 3
      · have c1 := (kg.int k (by omega)).1
        have c2 := (kh.int k (by omega)).1
        have HKG := hide kg
        have HKH := hide kh
        have HBB := hide hb
        have HLE := hide hle
        have i0 : (0 : Int) ≤ (k : Int) := by omega
        have i3 : (k : Int) < 3 := by omega
        clear kg kh hb hle
        generalize hxv : XL.getD k 0 = xv at *
        generalize htv : TL.getD k 0 = tv at *
        have HXV := hide hxv
        have HTV := hide htv
        clear hxv htv
        by_cases hgt : tv < xv
        · go_wp2
          go_quiet (fail)
          go_wp2
          go_ret
          refine ⟨ret_boolF ?_, (unhide HFIN).trans ((below_drewN (unhide HBB) _).mono (unhide HFIN).size)⟩
          refine (fits_not x t ?_).symm
          intro hall
          have := hall k hlt
          rw [← unhide HXL, ← unhide HTL, unhide HXV, unhide HTV] at this
          omega
        · have hle2 : xv ≤ tv := by omega
          go_wp2
          go_quiet (fail)
          go_wp2
          go_roundw
          case rel =>
            refine ⟨k + 1, by omega, by go_num, fun m hm => ?_, (unhide HKG).drewn _, (unhide HKH).drewn _, below_drewN (unhide HBB) _⟩
            by_cases e : m = k
            · subst e; rw [unhide HXV, unhide HTV]; exact hle2
            · exact (unhide HLE) m (by omega)
          case measure => simp [intOf]; omega
      · have hk3 : k = 3 := by omega
        subst hk3
        obtain ⟨c4, c5⟩ := (unhide HGR) _ hb
        have HBB := hide hb
        clear hb kg kh
        go_wp2
        go_ret
        refine ⟨ret_boolF (fits_all x t ?_).symm, (unhide HFIN).trans ((unhide HBB).mono (unhide HFIN).size)⟩
        intro m hm
        rw [← unhide HXL, ← unhide HTL]
        exact hle m hm
end Go.Proofs.YtphdeojiehigpaaGreatDoor

/- The model's Fits. -/
namespace Go.Proofs.YtphdeojiehigpaaGreatDoor
open Go.RowKit
set_option linter.unusedVariables false

theorem map_key_range (keys : List Int) : (List.range keys.length).map (key keys) = keys := by
  apply List.ext_getElem
  · simp
  · intro i h1 h2
    simp [key, h2]
theorem sortedKeys (keys : List Int) : ((sortP keys false (List.range keys.length)).map (key keys)).Perm keys ∧ upI ((sortP keys false (List.range keys.length)).map (key keys)) := by
  refine ⟨?_, ?_⟩
  · have h := (sortP_perm keys false (List.range keys.length)).map (key keys)
    rwa [map_key_range] at h
  · unfold upI
    rw [List.pairwise_map]
    refine (sortP_sorted keys false _ List.nodup_range).imp ?_
    intro a b h
    have := lts_of_bef h
    simp [lts] at this
    omega
theorem three_of {l : List Nat} (h : l.Perm (List.range 3)) : ∃ p q r, l = [p, q, r] ∧ p < 3 ∧ q < 3 ∧ r < 3 := by
  have hl := h.length_eq
  simp at hl
  match l, hl with
  | [p, q, r], _ =>
    refine ⟨p, q, r, rfl, ?_, ?_, ?_⟩
    · exact List.mem_range.1 (h.mem_iff.1 (by simp))
    · exact List.mem_range.1 (h.mem_iff.1 (by simp))
    · exact List.mem_range.1 (h.mem_iff.1 (by simp))

set_option maxHeartbeats 1600000 in
theorem l5Sides_any (a b c : Int) (w : World) : Calls Tryz.prog 121 #[.int .i64 a, .int .i64 b, .int .i64 c] w fun e w' =>
    ∃ g, e = .returned (.slice (some ⟨g, 0, none⟩) 3 3) ∧ Blk w' g (ci (srt3 a b c)) ∧ w.heap.size ≤ g ∧ g < w'.heap.size ∧ Below w.heap.size w w' := by
  have hs := sortedKeys [a, b, c]
  have hr := (sortP_perm [a, b, c] false (List.range 3))
  obtain ⟨p, q, r, hpqr, hp, hq, hr3⟩ := three_of hr
  have hsrt : [key [a, b, c] p, key [a, b, c] q, key [a, b, c] r] = srt3 a b c := by
    have h3 : [a, b, c].length = 3 := rfl
    rw [h3, hpqr] at hs
    exact srt3_of hs.1 hs.2
  have HS := hide hsrt
  have HP := hide hpqr
  clear hs hr hsrt hpqr
  go_enter Tryz.func121, Tryz.ntmps121
  go_wp2_with fail
  have hB0 : Blk (w.alloc (.cells #[.int .i64 a, .int .i64 b, .int .i64 c] 3)) w.heap.size (ci [a, b, c]) := Blk.allocAt (ci [a, b, c]) rfl
  have H0 : Hid (Below w.heap.size w (w.alloc (.cells #[.int .i64 a, .int .i64 b, .int .i64 c] 3))) := (Below.refl _ _).alloc (Nat.le_refl _) _
  have z0 : w.heap.size < (w.alloc (.cells #[.int .i64 a, .int .i64 b, .int .i64 c] 3)).heap.size := by simp
  have hR : Rd (w.alloc (.cells #[.int .i64 a, .int .i64 b, .int .i64 c] 3)) (some ⟨w.heap.size, 0, none⟩) 3 [a, b, c] := ⟨rfl, fun i hi => ⟨w.heap.size, 0, rfl, by rw [Nat.zero_add]; exact (hB0.int i hi).1⟩⟩
  generalize w.alloc (.cells #[.int .i64 a, .int .i64 b, .int .i64 c] 3) = W at *
  refine (specSortUp_any _ 3 3 [a, b, c] _ hR (by omega)).mono ?_
  rintro e w1 ⟨g, cc, rfl, ho, hb⟩
  rw [unhide HP] at ho
  have s0 := ho.cellAt 0 (by omega)
  have s1 := ho.cellAt 1 (by omega)
  have s2 := ho.cellAt 2 (by omega)
  simp only [cellsN, List.map_cons, List.map_nil, List.getElem?_cons_zero, List.getElem?_cons_succ] at s0 s1 s2
  have hB1 := Blk.below hb z0 hB0
  have k0 : w1.cell? ⟨w.heap.size, p, none⟩ = some (.int .i64 (key [a, b, c] p)) := (hB1.int p hp).1
  have k1 : w1.cell? ⟨w.heap.size, q, none⟩ = some (.int .i64 (key [a, b, c] q)) := (hB1.int q hq).1
  have k2 : w1.cell? ⟨w.heap.size, r, none⟩ = some (.int .i64 (key [a, b, c] r)) := (hB1.int r hr3).1
  have H1 := hide ((unhide H0).trans (hb.mono (unhide H0).size))
  have z1 : w.heap.size ≤ w1.heap.size := (unhide H1).size
  clear hR hB0 ho hB1 H0 hb z0
  generalize hkp : key [a, b, c] p = kp at *
  generalize hkq : key [a, b, c] q = kq at *
  generalize hkr : key [a, b, c] r = kr at *
  clear hkp hkq hkr
  have ip : (p : Int) < 3 := by omega
  have iq : (q : Int) < 3 := by omega
  have ir : (r : Int) < 3 := by omega
  have KS : Hid (∀ w', Below w1.heap.size w1 w' → (w'.cell? ⟨g, 0, none⟩ = some (.int .i64 (p : Int)) ∧ w'.cell? ⟨g, 1, none⟩ = some (.int .i64 (q : Int)) ∧ w'.cell? ⟨g, 2, none⟩ = some (.int .i64 (r : Int)) ∧ w'.cell? ⟨w.heap.size, p, none⟩ = some (.int .i64 kp) ∧ w'.cell? ⟨w.heap.size, q, none⟩ = some (.int .i64 kq) ∧ w'.cell? ⟨w.heap.size, r, none⟩ = some (.int .i64 kr))) := by
    intro w' hb
    exact ⟨(hb.cell (World.block_lt_of_cell? w1 _ s0)).trans s0, (hb.cell (World.block_lt_of_cell? w1 _ s1)).trans s1, (hb.cell (World.block_lt_of_cell? w1 _ s2)).trans s2, (hb.cell (World.block_lt_of_cell? w1 _ k0)).trans k0, (hb.cell (World.block_lt_of_cell? w1 _ k1)).trans k1, (hb.cell (World.block_lt_of_cell? w1 _ k2)).trans k2⟩
  go_wp2
  go_region_held3 (fun w' => w'.cell? ⟨g, 0, none⟩ = some (.int .i64 (p : Int)) ∧ w'.cell? ⟨g, 1, none⟩ = some (.int .i64 (q : Int)) ∧ w'.cell? ⟨g, 2, none⟩ = some (.int .i64 (r : Int)) ∧ w'.cell? ⟨w.heap.size, p, none⟩ = some (.int .i64 kp) ∧ w'.cell? ⟨w.heap.size, q, none⟩ = some (.int .i64 kq) ∧ w'.cell? ⟨w.heap.size, r, none⟩ = some (.int .i64 kr)) (first | exact (unhide KS) _ (Below.refl _ _).drew | exact (unhide KS) _ (bw_alloc (Below.refl _ _) _).drew | exact (unhide KS) _ (bw_alloc (Below.refl _ _).drew _)) (fail)
  go_wp2
  go_ret
  refine ⟨_, rfl, ?_, z1, by simp, ?_⟩
  · rw [← unhide HS]
    exact Blk.allocAt (ci [kp, kq, kr]) rfl
  · exact ((unhide H1).alloc z1 _).drew

theorem fits_eq (x : ItemV) (t : TypeV) (a b c d : Bool) (h1 : decide (lo3 x.wd x.ht x.dp ≤ lo3 t.wd t.ht t.dp) = a) (h2 : decide (mid3 x.wd x.ht x.dp ≤ mid3 t.wd t.ht t.dp) = b) (h3 : decide (hi3 x.wd x.ht x.dp ≤ hi3 t.wd t.ht t.dp) = c) (h4 : decide (x.gram ≤ t.gram) = d) : fitsB x t = (a && b && c && d) := by
  rw [fitsB, sidesLe, h1, h2, h3, h4]
set_option maxHeartbeats 1600000 in
theorem specFits_any (x : ItemV) (t : TypeV) (w : World) : Calls Tryz.prog 74 #[.agg #[.int .i64 x.id, .int .i64 x.wd, .int .i64 x.ht, .int .i64 x.dp, .int .i64 x.gram, .int .i64 x.cls, .int .i64 x.cnt], .agg #[.int .i64 t.id, .int .i64 t.wd, .int .i64 t.ht, .int .i64 t.dp, .int .i64 t.tare, .int .i64 t.gram, .int .i64 t.cost]] w fun e w' => e = .returned (.bool (fitsB x t)) ∧ Below w.heap.size w w' := by
  go_enter Tryz.func74, Tryz.ntmps74
  go_wp2_with fail
  have HX : Blk ((w.alloc (.cells #[.int .i64 x.id, .int .i64 x.wd, .int .i64 x.ht, .int .i64 x.dp, .int .i64 x.gram, .int .i64 x.cls, .int .i64 x.cnt] 101)).alloc (.cells #[.int .i64 t.id, .int .i64 t.wd, .int .i64 t.ht, .int .i64 t.dp, .int .i64 t.tare, .int .i64 t.gram, .int .i64 t.cost] 55)) w.heap.size [.int .i64 x.id, .int .i64 x.wd, .int .i64 x.ht, .int .i64 x.dp, .int .i64 x.gram, .int .i64 x.cls, .int .i64 x.cnt] := (Blk.allocAt [.int .i64 x.id, .int .i64 x.wd, .int .i64 x.ht, .int .i64 x.dp, .int .i64 x.gram, .int .i64 x.cls, .int .i64 x.cnt] rfl).allocOld (by simp) _
  have HT : Blk ((w.alloc (.cells #[.int .i64 x.id, .int .i64 x.wd, .int .i64 x.ht, .int .i64 x.dp, .int .i64 x.gram, .int .i64 x.cls, .int .i64 x.cnt] 101)).alloc (.cells #[.int .i64 t.id, .int .i64 t.wd, .int .i64 t.ht, .int .i64 t.dp, .int .i64 t.tare, .int .i64 t.gram, .int .i64 t.cost] 55)) (w.heap.size + 1) [.int .i64 t.id, .int .i64 t.wd, .int .i64 t.ht, .int .i64 t.dp, .int .i64 t.tare, .int .i64 t.gram, .int .i64 t.cost] := Blk.allocAt [.int .i64 t.id, .int .i64 t.wd, .int .i64 t.ht, .int .i64 t.dp, .int .i64 t.tare, .int .i64 t.gram, .int .i64 t.cost] (by simp)
  have HB : Hid (Below w.heap.size w ((w.alloc (.cells #[.int .i64 x.id, .int .i64 x.wd, .int .i64 x.ht, .int .i64 x.dp, .int .i64 x.gram, .int .i64 x.cls, .int .i64 x.cnt] 101)).alloc (.cells #[.int .i64 t.id, .int .i64 t.wd, .int .i64 t.ht, .int .i64 t.dp, .int .i64 t.tare, .int .i64 t.gram, .int .i64 t.cost] 55))) := ((Below.refl w.heap.size w).alloc (Nat.le_refl _) _).alloc (by simp) _
  have hz : w.heap.size + 1 < ((w.alloc (.cells #[.int .i64 x.id, .int .i64 x.wd, .int .i64 x.ht, .int .i64 x.dp, .int .i64 x.gram, .int .i64 x.cls, .int .i64 x.cnt] 101)).alloc (.cells #[.int .i64 t.id, .int .i64 t.wd, .int .i64 t.ht, .int .i64 t.dp, .int .i64 t.tare, .int .i64 t.gram, .int .i64 t.cost] 55)).heap.size := by simp
  generalize (w.alloc (.cells #[.int .i64 x.id, .int .i64 x.wd, .int .i64 x.ht, .int .i64 x.dp, .int .i64 x.gram, .int .i64 x.cls, .int .i64 x.cnt] 101)).alloc (.cells #[.int .i64 t.id, .int .i64 t.wd, .int .i64 t.ht, .int .i64 t.dp, .int .i64 t.tare, .int .i64 t.gram, .int .i64 t.cost] 55) = W at *
  refine (l5Sides_any _ _ _ _).mono ?_
  rintro e w1 ⟨g, rfl, hg, hgB, hgz, hb1⟩
  have HX1 := Blk.below hb1 (by omega) HX
  have HT1 := Blk.below hb1 hz HT
  have H1 := hide ((unhide HB).trans (hb1.mono (unhide HB).size))
  have z1 : w.heap.size + 1 < w1.heap.size := Nat.lt_of_lt_of_le hz hb1.size
  have t1 := (HT1 1 (by simp)).1
  have t2 := (HT1 2 (by simp)).1
  have t3 := (HT1 3 (by simp)).1
  simp only [List.getElem?_cons_zero, List.getElem?_cons_succ] at t1 t2 t3
  have HHX := hide HX1
  have HHT := hide HT1
  have HHG := hide hg
  clear hb1 HX HT HX1 HT1 HB hg hz
  go_wp2_with fail
  refine (l5Sides_any _ _ _ _).mono ?_
  rintro e w2 ⟨h, rfl, hh, hhB, hhz, hb2⟩
  have HX2 := Blk.below hb2 (by omega) (unhide HHX)
  have HT2 := Blk.below hb2 z1 (unhide HHT)
  have hg := Blk.below hb2 hgz (unhide HHG)
  have H2 := hide ((unhide H1).trans (hb2.mono (unhide H1).size))
  have x4 := (HX2 4 (by simp)).1
  have t5 := (HT2 5 (by simp)).1
  have a0 := (hg 0 (by simp [ci, srt3])).1
  have a1 := (hg 1 (by simp [ci, srt3])).1
  have a2 := (hg 2 (by simp [ci, srt3])).1
  have b0 := (hh 0 (by simp [ci, srt3])).1
  have b1 := (hh 1 (by simp [ci, srt3])).1
  have b2 := (hh 2 (by simp [ci, srt3])).1
  simp only [ci, srt3, List.map_cons, List.map_nil, List.getElem?_cons_zero, List.getElem?_cons_succ] at a0 a1 a2 b0 b1 b2 x4 t5
  clear hb2 HHX HHT HHG HX2 HT2 hg hh t1 t2 t3 H1
  have HF := hide (fits_eq x t)
  generalize lo3 x.wd x.ht x.dp = p0 at *
  generalize mid3 x.wd x.ht x.dp = p1 at *
  generalize hi3 x.wd x.ht x.dp = p2 at *
  generalize lo3 t.wd t.ht t.dp = q0 at *
  generalize mid3 t.wd t.ht t.dp = q1 at *
  generalize hi3 t.wd t.ht t.dp = q2 at *
  generalize x.gram = p3 at *
  generalize t.gram = q3 at *
  cases d0 : decide (p0 ≤ q0) <;> cases d1 : decide (p1 ≤ q1) <;> cases d2 : decide (p2 ≤ q2)
  all_goals
    have e0 := (unhide HF) _ _ _ _ d0 d1 d2 rfl
    have HE := hide e0
    clear e0
    go_wp2
    go_quiet (fail)
    go_wp2
    go_ret
    refine ⟨ret_boolF ?_, below_drewN (unhide H2) _⟩
    rw [unhide HE]
    simp
end Go.Proofs.YtphdeojiehigpaaGreatDoor
