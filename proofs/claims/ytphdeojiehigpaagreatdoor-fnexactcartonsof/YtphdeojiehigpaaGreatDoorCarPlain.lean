/- The right carton, plain: the type of a number, the cheapest type, the cartons, what they weigh and cost. -/
import Derived.Test.YtphdeojiehigpaaGreatDoorPackPlain
import Derived.Test.YtphdeojiehigpaaGreatDoorCartons
namespace Go.Proofs.YtphdeojiehigpaaGreatDoor
open Go.RowKit
set_option linter.unusedVariables false

theorem type_nums {t : TypeV} (h : t.ok = true) : 0 ≤ t.tare ∧ t.tare ≤ 100000 ∧ 1 ≤ t.gram ∧ t.gram ≤ 100000 ∧ 0 ≤ t.cost ∧ t.cost ≤ 1000000 := by
  simp [TypeV.ok, typeB, inB] at h
  omega
theorem types_ok {r : ReqV} (h : classI r = 0) : ∀ q ∈ r.types, q.ok = true := by
  obtain ⟨h1, h2, _⟩ := class_zero h
  simp only [boundsB, Bool.and_eq_true] at h1
  have h5 := h1.1.1.2
  simp only [typesB, Bool.and_eq_true, List.all_eq_true] at h5
  exact h5.2
theorem byId_mem {r : ReqV} {m : Int} (h : byIdB r m = true) : byIdV r m ∈ r.types ∧ (byIdV r m).id = m := by
  cases hf : r.types.find? (isId m) with
  | none => rw [(byId_none hf).2] at h; cases h
  | some q =>
    rw [(byId_hit hf).1]
    have := List.find?_some hf
    exact ⟨List.mem_of_find?_eq_some hf, by simpa [isId] using this⟩
theorem byId_out {r : ReqV} {m : Int} (h : byIdB r m = false) : byIdV r m = TypeV.zero := by
  cases hf : r.types.find? (isId m) with
  | none => exact (byId_none hf).1
  | some q => rw [(byId_hit hf).2] at h; cases h
theorem byId_bd {r : ReqV} (h : classI r = 0) (m : Int) : 0 ≤ (byIdV r m).tare ∧ (byIdV r m).tare ≤ 100000 ∧ 0 ≤ (byIdV r m).gram ∧ (byIdV r m).gram ≤ 100000 ∧ 0 ≤ (byIdV r m).cost ∧ (byIdV r m).cost ≤ 1000000 := by
  cases hb : byIdB r m
  · rw [byId_out hb]; simp [TypeV.zero]
  · have := type_nums (types_ok h _ (byId_mem hb).1)
    omega
/-- What a carton weighs in all. -/
def grossR (r : ReqV) (x : CarV) : Int := if classI r = 0 ∧ byIdB r x.ty = true then (byIdV r x.ty).tare + gramOf (itemsR r) x.us else 0
def costTo (r : ReqV) (xs : List CarV) : Int := (xs.map fun x => (byIdV r x.ty).cost).sum
def costR (r : ReqV) (xs : List CarV) : Int := if classI r = 0 then costTo r xs else 0
theorem costTo_step (r : ReqV) (xs : List CarV) (k : Nat) (h : k < xs.length) : costTo r (xs.take (k + 1)) = costTo r (xs.take k) + (byIdV r (xs.getD k default).ty).cost := by
  unfold costTo
  rw [List.take_succ_eq_append_getElem h, List.map_append, List.sum_append]
  congr 1
  simp [h]
theorem costTo_bd {r : ReqV} (h : classI r = 0) : ∀ xs : List CarV, 0 ≤ costTo r xs ∧ costTo r xs ≤ 1000000 * xs.length
  | [] => by simp [costTo]
  | x :: xs => by
    have ih := costTo_bd h xs
    have := byId_bd h x.ty
    simp only [costTo, List.map_cons, List.sum_cons, List.length_cons] at *
    omega
/-- The cheapest of two, of equal ones the one of the lesser number. -/
def lessT (a b : TypeV) : Bool := decide (a.cost < b.cost) || (decide (a.cost = b.cost) && decide (a.id < b.id))
def minT (o : Option TypeV) (t : TypeV) : Option TypeV := match o with | none => some t | some b => if lessT t b = true then some t else some b
def leastT (l : List TypeV) : Option TypeV := l.foldl minT none
def holding (r : ReqV) (us : List Int) (l : List TypeV) : List TypeV := l.filter (holdsR r us)
def cheapV (r : ReqV) (us : List Int) : TypeV := (leastT (holding r us r.types)).getD TypeV.zero
def cheapB (r : ReqV) (us : List Int) : Bool := (leastT (holding r us r.types)).isSome
theorem leastT_snoc (l : List TypeV) (t : TypeV) : leastT (l ++ [t]) = minT (leastT l) t := by simp [leastT, List.foldl_append]
theorem minT_some (o : Option TypeV) (t : TypeV) : ∃ q, minT o t = some q := by
  cases o with
  | none => exact ⟨t, rfl⟩
  | some b => simp only [minT]; split <;> exact ⟨_, rfl⟩
theorem holding_hit {r : ReqV} {us : List Int} {l : List TypeV} {k : Nat} (hk : k < l.length) (h : holdsR r us (l.getD k default) = true) : holding r us (l.take (k + 1)) = holding r us (l.take k) ++ [l.getD k default] := by
  unfold holding
  rw [List.take_succ_eq_append_getElem hk, List.filter_append]
  have e : l.getD k default = l[k] := by simp [hk]
  rw [e] at h ⊢
  simp [h]
theorem holding_miss {r : ReqV} {us : List Int} {l : List TypeV} {k : Nat} (hk : k < l.length) (h : holdsR r us (l.getD k default) = false) : holding r us (l.take (k + 1)) = holding r us (l.take k) := by
  unfold holding
  rw [List.take_succ_eq_append_getElem hk, List.filter_append]
  have e : l.getD k default = l[k] := by simp [hk]
  rw [e] at h
  simp [h]
theorem holding_len (r : ReqV) (us : List Int) (l : List TypeV) : (holding r us l).length ≤ l.length := List.length_filter_le _ _
/-- A carton's units, ascending. -/
def upL (c : List Int) : List Int := (sortP c false (List.range c.length)).map fun (i : Nat) => c.getD i 0
def cartonOf (r : ReqV) (k : Nat) (c : List Int) : CarV := ⟨(cheapV r c).id, (k : Int), upL c⟩
def cartonsTo (r : ReqV) (k : Nat) : List CarV := (List.range k).flatMap fun (i : Nat) => (packR r (unitsOfR r (i : Int))).map (cartonOf r i)
def cartonsR (r : ReqV) : List CarV := cartonsTo r (groupsR r).length
theorem cartonsTo_step (r : ReqV) (k : Nat) : cartonsTo r (k + 1) = cartonsTo r k ++ (packR r (unitsOfR r (k : Int))).map (cartonOf r k) := by
  simp [cartonsTo, List.range_succ, List.flatMap_append]
theorem map_take_step {α β : Type} [Inhabited α] (f : α → β) (l : List α) (i : Nat) (h : i < l.length) : (l.take (i + 1)).map f = (l.take i).map f ++ [f (l.getD i default)] := by
  rw [List.take_succ_eq_append_getElem h, List.map_append]
  simp [h]
theorem upL_perm (c : List Int) : (upL c).Perm c := by
  have h := (sortP_perm c false (List.range c.length)).map (fun (i : Nat) => c.getD i 0)
  refine h.trans (List.Perm.of_eq (List.ext_getElem? fun m => ?_))
  by_cases hm : m < c.length
  · simp [hm]
  · rw [List.getElem?_eq_none (by simpa using hm), List.getElem?_eq_none (by omega)]
theorem upL_up (c : List Int) : (upL c).Pairwise (· ≤ ·) := by
  unfold upL
  rw [List.pairwise_map]
  refine (sortP_sorted c false (List.range c.length) List.nodup_range).imp ?_
  intro a b h
  rcases h with h | h
  · simp [lts, key] at h; simp only [List.getD_eq_getElem?_getD]; omega
  · have h1 := h.1
    simp [lts, key] at h1; simp only [List.getD_eq_getElem?_getD]; omega
theorem up_unique : ∀ {l l' : List Int}, l.Perm l' → l.Pairwise (· ≤ ·) → l'.Pairwise (· ≤ ·) → l = l' := by
  intro l l' hp h h'
  exact hp.eq_of_pairwise (fun a b _ _ h1 h2 => by omega) h h'
theorem upL_eq {M c : List Int} (hp : M.Perm c) (hu : M.Pairwise (· ≤ ·)) : M = upL c := up_unique (hp.trans (upL_perm c).symm) hu (upL_up c)
end Go.Proofs.YtphdeojiehigpaaGreatDoor
