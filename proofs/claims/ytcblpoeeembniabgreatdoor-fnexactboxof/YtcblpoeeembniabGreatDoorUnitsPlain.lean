/- Units, plain: of an order of which nothing is wrong each item's place as often as its count; the kinds that are there; a group's units; the items of units. -/
import Derived.Test.YtcblpoeeembniabGreatDoorPkF
import Derived.Test.YtcblpoeeembniabGreatDoorPkB
import Derived.Test.YtcblpoeeembniabGreatDoorPkE
import Derived.Lib.SlicesCompact
namespace Go.Proofs.YtcblpoeeembniabGreatDoor
set_option linter.unusedVariables false

/-- The places of the items of the units of the first k items. -/
def unitsTo (xs : List ItemV) (k : Nat) : List Int := ((List.range k).map fun i => List.replicate (xs.getD i default).cnt.toNat (i : Int)).flatten
theorem unitsTo_step (xs : List ItemV) (k : Nat) : unitsTo xs (k + 1) = unitsTo xs k ++ List.replicate (xs.getD k default).cnt.toNat (k : Int) := by simp [unitsTo, List.range_succ]
theorem unitsTo_zero (xs : List ItemV) : unitsTo xs 0 = [] := rfl
def unitsL (xs : List ItemV) : List Int := unitsTo xs xs.length
theorem unitsTo_len (xs : List ItemV) (h : ∀ q ∈ xs, 0 ≤ q.cnt) : ∀ k, k ≤ xs.length → ((unitsTo xs k).length : Int) = cntSum (xs.take k)
 | 0, _ => by simp [unitsTo, cntSum]
 | k + 1, hk => by
  have h1 : 0 ≤ (xs.getD k default).cnt := h _ (by rw [List.getD_eq_getElem?_getD, List.getElem?_eq_getElem (by omega)]; exact List.getElem_mem _)
  rw [unitsTo_step, List.length_append, List.length_replicate, cntSum_step xs k (by omega), Int.natCast_add, unitsTo_len xs h k (by omega)]
  omega
theorem unitsTo_pre (xs : List ItemV) (k : Nat) : ∀ m, k ≤ m → ∃ t, unitsTo xs m = unitsTo xs k ++ t
 | 0, h => ⟨[], by obtain rfl : k = 0 := Nat.le_zero.1 h; simp⟩
 | m + 1, h => by
  by_cases e : k = m + 1
  · subst e; exact ⟨[], by simp⟩
  · obtain ⟨t, ht⟩ := unitsTo_pre xs k m (by omega)
    exact ⟨t ++ List.replicate (xs.getD m default).cnt.toNat (m : Int), by rw [unitsTo_step, ht, List.append_assoc]⟩
/-- What stands at the place where item k's unit j comes. -/
theorem unitsL_at (xs : List ItemV) (k j : Nat) (hk : k < xs.length) (hj : j < (xs.getD k default).cnt.toNat) :
 (unitsTo xs k).length + j < (unitsL xs).length ∧ (unitsL xs).getD ((unitsTo xs k).length + j) 0 = (k : Int) := by
 obtain ⟨t, ht⟩ := unitsTo_pre xs (k + 1) xs.length (by omega)
 rw [unitsTo_step] at ht
 have e : unitsL xs = unitsTo xs k ++ (List.replicate (xs.getD k default).cnt.toNat (k : Int) ++ t) := by rw [unitsL, ht, List.append_assoc]
 rw [e]
 refine ⟨by rw [List.length_append, List.length_append, List.length_replicate]; omega, ?_⟩
 rw [List.getD_eq_getElem?_getD, List.getElem?_append_right (by omega), Nat.add_sub_cancel_left, List.getElem?_append_left (by simpa using hj), List.getElem?_replicate, if_pos hj]
 rfl
theorem unitsTo_mem (xs : List ItemV) (p : Int) : ∀ k, p ∈ unitsTo xs k → ∃ i, p = (i : Nat) ∧ i < k
 | 0, h => by simp [unitsTo] at h
 | k + 1, h => by
  rw [unitsTo_step, List.mem_append] at h
  rcases h with h | h
  · obtain ⟨i, e, hi⟩ := unitsTo_mem xs p k h
    exact ⟨i, e, by omega⟩
  · exact ⟨k, (List.mem_replicate.1 h).2, by omega⟩
theorem unitsL_lt (xs : List ItemV) (u : Nat) (hu : u < (unitsL xs).length) : ∃ i, (unitsL xs).getD u 0 = (i : Nat) ∧ i < xs.length := by
 have : (unitsL xs).getD u 0 ∈ unitsL xs := by rw [List.getD_eq_getElem?_getD, List.getElem?_eq_getElem hu]; exact List.getElem_mem _
 exact unitsTo_mem xs _ _ this
/-- Every item with a count has a unit. -/
theorem unitsL_has (xs : List ItemV) (k : Nat) (hk : k < xs.length) (h : 1 ≤ (xs.getD k default).cnt) : ∃ u, u < (unitsL xs).length ∧ (unitsL xs).getD u 0 = (k : Int) := by
 obtain ⟨h1, h2⟩ := unitsL_at xs k 0 hk (by omega)
 exact ⟨_, h1, h2⟩
/-- The kinds of the items, ascending. -/
def presentL (xs : List ItemV) : List Int := kinds.filter fun c => xs.any fun q => q.cls == c
theorem presentL_mem (xs : List ItemV) (c : Int) : c ∈ presentL xs ↔ c ∈ kinds ∧ ∃ q ∈ xs, q.cls = c := by
 simp [presentL, List.mem_filter]
theorem presentL_lt (xs : List ItemV) : (presentL xs).Pairwise (· < ·) := by
 unfold presentL
 exact List.Pairwise.filter _ (by decide)
theorem presentL_len (xs : List ItemV) : (presentL xs).length ≤ 4 := by
 have := List.length_filter_le (fun c => xs.any fun q => q.cls == c) kinds
 exact this
theorem eq_of_lt : ∀ (a b : List Int), a.Pairwise (· < ·) → b.Pairwise (· < ·) → (∀ x, x ∈ a ↔ x ∈ b) → a = b
 | [], [], _, _, _ => rfl
 | [], y :: b, _, _, h => by have := (h y).2 (by simp); simp at this
 | x :: a, [], _, _, h => by have := (h x).1 (by simp); simp at this
 | x :: a, y :: b, ha, hb, h => by
  rw [List.pairwise_cons] at ha hb
  have hxy : x = y := by
   have h1 := (h x).1 (by simp)
   have h2 := (h y).2 (by simp)
   rcases List.mem_cons.1 h1 with e | e
   · exact e
   · rcases List.mem_cons.1 h2 with e2 | e2
     · exact e2.symm
     · have := hb.1 x e; have := ha.1 y e2; omega
  subst hxy
  rw [eq_of_lt a b ha.2 hb.2 (fun z => ?_)]
  have hz := h z
  simp only [List.mem_cons] at hz
  constructor
  · intro hm
    rcases hz.1 (.inr hm) with e | e
    · have := ha.1 z hm; omega
    · exact e
  · intro hm
    rcases hz.2 (.inr hm) with e | e
    · have := hb.1 z hm; omega
    · exact e
theorem upI_at {M : List Int} (h : upI M) (i j : Nat) (hij : i < j) (hj : j < M.length) : M.toArray[i]! ≤ M.toArray[j]! := by
 have := (List.pairwise_iff_getElem.1 h) i j (by omega) hj hij
 simpa [getElem!_pos, hj, show i < M.length by omega] using this
theorem compact_lt (M : List Int) (h : upI M) : (Go.Lib.compact M).Pairwise (· < ·) := by
 unfold Go.Lib.compact Go.Lib.compactUpTo
 rw [List.pairwise_map, List.pairwise_filter]
 refine List.Pairwise.imp_of_mem ?_ (List.pairwise_lt_range (n := M.length))
 intro a b _ hb hab _ hk
 have hb' := List.mem_range.1 hb
 have hne : M.toArray[b]! ≠ M.toArray[b - 1]! := by
  have : b ≠ 0 := by omega
  simpa [Go.Lib.keeps, this] using hk
 have h1 := upI_at h (b - 1) b (by omega) hb'
 by_cases e : a = b - 1
 · subst e; omega
 · have := upI_at h a (b - 1) (by omega) (by omega); omega
theorem compactUpTo_mem (d : Array Int) (x : Int) : ∀ m, x ∈ Go.Lib.compactUpTo d m ↔ ∃ i, i < m ∧ d[i]! = x
 | 0 => by simp [Go.Lib.compactUpTo]
 | m + 1 => by
  rw [Go.Lib.compactUpTo_succ, List.mem_append, compactUpTo_mem d x m]
  cases hk : Go.Lib.keeps d m
  · have hne : ¬ (m = 0 ∨ d[m]! ≠ d[m - 1]!) := by simpa [Go.Lib.keeps] using hk
    constructor
    · rintro (⟨i, hi, e⟩ | h)
      · exact ⟨i, by omega, e⟩
      · simp at h
    · rintro ⟨i, hi, e⟩
      by_cases he : i = m
      · subst he
        have h1 : d[i]! = d[i - 1]! := by
         rcases Decidable.em (d[i]! = d[i - 1]!) with h | h
         · exact h
         · exact absurd (Or.inr h) hne
        exact .inl ⟨i - 1, by have : i ≠ 0 := fun h => hne (.inl h); omega, by rw [← h1]; exact e⟩
      · exact .inl ⟨i, by omega, e⟩
  · constructor
    · rintro (⟨i, hi, e⟩ | h)
      · exact ⟨i, by omega, e⟩
      · exact ⟨m, by omega, by simpa using Eq.symm (by simpa using h)⟩
    · rintro ⟨i, hi, e⟩
      by_cases he : i = m
      · subst he; exact .inr (by simp [e])
      · exact .inl ⟨i, by omega, e⟩
theorem compact_mem (M : List Int) (x : Int) : x ∈ Go.Lib.compact M ↔ x ∈ M := by
 unfold Go.Lib.compact
 rw [compactUpTo_mem]
 constructor
 · rintro ⟨i, hi, rfl⟩
   simp [getElem!_pos, hi]
 · intro h
   obtain ⟨i, hi, e⟩ := List.getElem_of_mem h
   exact ⟨i, hi, by simp [getElem!_pos, hi, e]⟩
/-- The kinds of the items, sorted, each once, are the kinds that are there. -/
theorem compact_present (xs : List ItemV) (M : List Int) (hp : M.Perm (xs.map (·.cls))) (hs : upI M) (hk : ∀ q ∈ xs, q.cls ∈ kinds) : Go.Lib.compact M = presentL xs := by
 refine eq_of_lt _ _ (compact_lt M hs) (presentL_lt xs) fun x => ?_
 rw [compact_mem, hp.mem_iff, presentL_mem, List.mem_map]
 constructor
 · rintro ⟨q, hq, rfl⟩
   exact ⟨hk q hq, q, hq, rfl⟩
 · rintro ⟨_, q, hq, e⟩
   exact ⟨q, hq, e⟩
def inGroup (xs : List ItemV) (g : List Int) (u : Nat) : Bool := hasI g (xs.getD ((unitsL xs).getD u 0).toNat default).cls
/-- Of the first m units those whose kind is in g. -/
def pickTo (xs : List ItemV) (g : List Int) (m : Nat) : List Int := ((List.range m).filter (inGroup xs g)).map fun (u : Nat) => (u : Int)
theorem pickTo_step (xs : List ItemV) (g : List Int) (m : Nat) : pickTo xs g (m + 1) = pickTo xs g m ++ (if inGroup xs g m then [(m : Int)] else []) := by
 unfold pickTo
 rw [List.range_succ, List.filter_append, List.map_append]
 congr 1
 cases h : inGroup xs g m <;> simp [h]
theorem pickTo_hit {xs : List ItemV} {g : List Int} {m : Nat} (h : inGroup xs g m = true) : pickTo xs g (m + 1) = pickTo xs g m ++ [(m : Int)] := by rw [pickTo_step, h]; rfl
theorem pickTo_miss {xs : List ItemV} {g : List Int} {m : Nat} (h : inGroup xs g m = false) : pickTo xs g (m + 1) = pickTo xs g m := by rw [pickTo_step, h]; simp
theorem pickTo_len (xs : List ItemV) (g : List Int) (m : Nat) : (pickTo xs g m).length ≤ m := by
 have := List.length_filter_le (inGroup xs g) (List.range m)
 simpa [pickTo] using this
theorem pickTo_mem (xs : List ItemV) (g : List Int) (m : Nat) (x : Int) : x ∈ pickTo xs g m ↔ ∃ u : Nat, x = u ∧ u < m ∧ inGroup xs g u = true := by
 unfold pickTo
 simp only [List.mem_map, List.mem_filter, List.mem_range]
 constructor
 · rintro ⟨u, ⟨h1, h2⟩, rfl⟩
   exact ⟨u, rfl, h1, h2⟩
 · rintro ⟨u, rfl, h1, h2⟩
   exact ⟨u, ⟨h1, h2⟩, rfl⟩
def zeroItem : ItemV := ⟨0, 0, 0, 0, 0, 0, 0⟩
/-- The item of a unit; the zero item where there is no such unit. -/
def itemAt (xs : List ItemV) (u : Int) : ItemV := if inB u 0 ((unitsL xs).length - 1) then xs.getD ((unitsL xs).getD u.toNat 0).toNat default else zeroItem
theorem itemAt_in {xs : List ItemV} {u : Nat} {k : Nat} (hu : u < (unitsL xs).length) (h : (unitsL xs).getD u 0 = (k : Int)) : itemAt xs u = xs.getD k default := by
 have : inB (u : Int) 0 ((unitsL xs).length - 1) = true := by rw [inB_iff]; omega
 rw [itemAt, this, if_pos rfl, Int.toNat_natCast, h, Int.toNat_natCast]
theorem itemAt_out {xs : List ItemV} {u : Int} (h : inB u 0 ((unitsL xs).length - 1) = false) : itemAt xs u = zeroItem := by rw [itemAt, h]; rfl
def volAt (xs : List ItemV) (u : Int) : Int := vol (itemAt xs u).wd (itemAt xs u).ht (itemAt xs u).dp
def volOf (xs : List ItemV) (us : List Int) : Int := (us.map (volAt xs)).sum
def gramAt (xs : List ItemV) (u : Int) : Int := (itemAt xs u).gram
def gramOf (xs : List ItemV) (us : List Int) : Int := (us.map (gramAt xs)).sum
theorem sum_step (f : Int → Int) (us : List Int) (k : Nat) (h : k < us.length) : ((us.take (k + 1)).map f).sum = ((us.take k).map f).sum + f (us.getD k 0) := by
 rw [List.take_succ_eq_append_getElem h, List.map_append, List.sum_append]
 simp [h]
theorem sum_bd (f : Int → Int) (b : Int) (hf : ∀ x, 0 ≤ f x ∧ f x ≤ b) : ∀ us : List Int, 0 ≤ (us.map f).sum ∧ (us.map f).sum ≤ b * us.length
 | [] => by simp
 | x :: us => by
  have h1 := sum_bd f b hf us
  have h2 := hf x
  rw [List.map_cons, List.sum_cons, List.length_cons, Int.natCast_add, Int.mul_add]
  omega
theorem volAt_bd (xs : List ItemV) (u : Int) : 0 ≤ volAt xs u ∧ volAt xs u ≤ 8000000000 := vol_bd _ _ _
theorem gramAt_bd (xs : List ItemV) (h : ∀ q ∈ xs, 1 ≤ q.gram ∧ q.gram ≤ 100000) (u : Int) : 0 ≤ gramAt xs u ∧ gramAt xs u ≤ 100000 := by
 unfold gramAt itemAt
 split
 · next hi =>
   rw [inB_iff] at hi
   obtain ⟨i, e, hl⟩ := unitsL_lt xs u.toNat (by omega)
   rw [e, Int.toNat_natCast, List.getD_eq_getElem?_getD, List.getElem?_eq_getElem hl]
   have := h _ (List.getElem_mem hl)
   simp only [Option.getD_some]
   omega
 · simp [zeroItem]

/-- What is gone through: nothing where something is wrong. -/
def itemsR (r : ReqV) : List ItemV := if classI r = 0 then r.items else []
theorem class_zero {r : ReqV} (h : classI r = 0) : boundsB r = true ∧ namesB r = true ∧ tableB r.pairs r.classes = true ∧ unitsB r = true ∧ loadsB r = true := by
 unfold classI at h
 cases h1 : boundsB r <;> rw [h1] at h <;> simp at h
 cases h2 : namesB r <;> rw [h2] at h <;> simp at h
 cases h3 : tableB r.pairs r.classes <;> rw [h3] at h <;> simp at h
 cases h4 : unitsB r <;> rw [h4] at h <;> simp at h
 cases h5 : loadsB r <;> rw [h5] at h <;> simp at h
 exact ⟨rfl, rfl, rfl, rfl, rfl⟩
theorem itemsR_zero {r : ReqV} (h : classI r = 0) : itemsR r = r.items := by simp [itemsR, h]
theorem itemsR_not {r : ReqV} (h : ¬ classI r = 0) : itemsR r = [] := by simp [itemsR, h]
theorem items_good {r : ReqV} (h : classI r = 0) : r.items.length ≤ 8 ∧ (∀ q ∈ r.items, q.ok = true) ∧ cntSum r.items ≤ 12 := by
 have hb := (class_zero h).1
 simp only [boundsB, Bool.and_eq_true] at hb
 have h7 := hb.2
 simp only [itemsB, Bool.and_eq_true, decide_eq_true_eq, List.all_eq_true] at h7
 exact ⟨h7.1, h7.2.1, h7.2.2⟩
/-- What every list of items that is gone through is like. -/
structure Good (xs : List ItemV) : Prop where
 len : xs.length ≤ 8
 ok : ∀ q ∈ xs, q.ok = true
 units : (unitsL xs).length ≤ 12
theorem item_nums {q : ItemV} (h : q.ok = true) : 1 ≤ q.cnt ∧ q.cnt ≤ 6 ∧ 0 ≤ q.cls ∧ q.cls ≤ 3 ∧ 1 ≤ q.gram ∧ q.gram ≤ 100000 ∧ 1 ≤ q.wd ∧ q.wd ≤ 2000 ∧ 1 ≤ q.ht ∧ q.ht ≤ 2000 ∧ 1 ≤ q.dp ∧ q.dp ≤ 2000 := by
 simp only [ItemV.ok, itemB, sidesB, Bool.and_eq_true, inB_iff] at h
 omega
theorem Good.nil : Good [] := ⟨by simp, fun q hq => by simp at hq, by simp [unitsL, unitsTo]⟩
theorem good_items {r : ReqV} (h : classI r = 0) : Good r.items := by
 obtain ⟨h1, h2, h3⟩ := items_good h
 refine ⟨h1, h2, ?_⟩
 have := unitsTo_len r.items (fun q hq => by have := item_nums (h2 q hq); omega) r.items.length (Nat.le_refl _)
 rw [List.take_length] at this
 unfold unitsL
 omega
theorem itemsR_good (r : ReqV) : Good (itemsR r) := by
 by_cases h : classI r = 0
 · rw [itemsR_zero h]; exact good_items h
 · rw [itemsR_not h]; exact Good.nil
theorem Good.at {xs : List ItemV} (h : Good xs) (k : Nat) (hk : k < xs.length) : (xs.getD k default).ok = true := h.ok _ (by rw [List.getD_eq_getElem?_getD, List.getElem?_eq_getElem hk]; exact List.getElem_mem _)
theorem Good.cls {xs : List ItemV} (h : Good xs) : ∀ q ∈ xs, q.cls ∈ kinds := by
 intro q hq
 have := item_nums (h.ok q hq)
 have : q.cls = 0 ∨ q.cls = 1 ∨ q.cls = 2 ∨ q.cls = 3 := by omega
 rcases this with e | e | e | e <;> rw [e] <;> decide
theorem Good.gram {xs : List ItemV} (h : Good xs) : ∀ q ∈ xs, 1 ≤ q.gram ∧ q.gram ≤ 100000 := fun q hq => by have := item_nums (h.ok q hq); omega
def unitsR (r : ReqV) : List Int := unitsL (itemsR r)
def presentR (r : ReqV) : List Int := presentL (itemsR r)
def groupsR (r : ReqV) : List (List Int) := groupsL r.pairs (presentR r)
def unitsOfR (r : ReqV) (k : Int) : List Int := if inB k 0 ((groupsR r).length - 1) then pickTo (itemsR r) ((groupsR r).getD k.toNat []) (unitsR r).length else []
theorem unitsOfR_in {r : ReqV} {k : Nat} (h : k < (groupsR r).length) : unitsOfR r k = pickTo (itemsR r) ((groupsR r).getD k []) (unitsR r).length := by
 have : inB (k : Int) 0 ((groupsR r).length - 1) = true := by rw [inB_iff]; omega
 rw [unitsOfR, this, if_pos rfl, Int.toNat_natCast]
theorem unitsOfR_out {r : ReqV} {k : Int} (h : inB k 0 ((groupsR r).length - 1) = false) : unitsOfR r k = [] := by rw [unitsOfR, h]; rfl
theorem unitsR_len (r : ReqV) : (unitsR r).length ≤ 12 := (itemsR_good r).units
theorem unitsOfR_len (r : ReqV) (k : Int) : (unitsOfR r k).length ≤ 12 := by
 unfold unitsOfR
 split
 · have := pickTo_len (itemsR r) ((groupsR r).getD k.toNat []) (unitsR r).length
   have := unitsR_len r
   omega
 · simp
theorem groupsL_nil (ps : List PairV) : groupsL ps [] = [] := rfl
theorem groups_class {r : ReqV} {k : Nat} (h : k < (groupsR r).length) : classI r = 0 := by
 by_cases e : classI r = 0
 · exact e
 · rw [groupsR, presentR, itemsR_not e] at h
   have : groupsL r.pairs (presentL []) = [] := rfl
   rw [this] at h
   simp at h
end Go.Proofs.YtcblpoeeembniabGreatDoor
