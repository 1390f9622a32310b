/- The cheapest type, plain. -/
import Derived.Test.YtphdeojiehigpaaGreatDoorCarPlain
import Derived.Test.YtphdeojiehigpaaGreatDoorPkB
namespace Go.Proofs.YtphdeojiehigpaaGreatDoor
open Go.RowKit
set_option linter.unusedVariables false
theorem flat_at {α : Type} [Inhabited α] {cells : α → List Value} {k : Nat} (hlen : ∀ q, (cells q).length = k) : ∀ (L : List α) (i : Nat), i < L.length → ∀ j, j < k → (L.flatMap cells)[i * k + j]? = (cells (L.getD i default))[j]?
  | [], i, h, _, _ => absurd h (Nat.not_lt_zero _)
  | x :: xs, 0, h, j, hj => by
    rw [List.flatMap_cons, Nat.zero_mul, Nat.zero_add, List.getElem?_append_left (by rw [hlen]; exact hj)]
    rfl
  | x :: xs, i + 1, h, j, hj => by
    have ih := flat_at hlen xs i (by simpa using h) j hj
    rw [List.flatMap_cons, List.getElem?_append_right (by rw [hlen, Nat.succ_mul]; omega), hlen, show (i + 1) * k + j - k = i * k + j by rw [Nat.succ_mul]; omega, ih]
    rfl
def costC (a b : TypeV) : Int := if cmpI a.cost b.cost = 0 then cmpI a.id b.id else cmpI a.cost b.cost
theorem costC_yes {a b : TypeV} (h : lessT a b = true) : costC a b < 0 := by
  simp only [lessT, Bool.or_eq_true, Bool.and_eq_true, decide_eq_true_eq] at h
  unfold costC cmpI
  rcases h with h | ⟨h, h'⟩
  · simp [h]
  · simp [h, h']
theorem costC_no {a b : TypeV} (h : lessT a b = false) : ¬ costC a b < 0 := by
  simp only [lessT, Bool.or_eq_false_iff, Bool.and_eq_false_iff, decide_eq_false_iff_not] at h
  obtain ⟨h1, h2⟩ := h
  unfold costC cmpI
  by_cases e : a.cost = b.cost
  · have h3 : ¬ a.id < b.id := by rcases h2 with h2 | h2; exact absurd e h2; exact h2
    simp [e, h3]
    split <;> omega
  · have : b.cost < a.cost := by omega
    simp [h1, this]
theorem leastT_one (l : List TypeV) (h : l.length = 1) : leastT l = some (l.getD 0 default) := by
  match l, h with
  | [x], _ => rfl
theorem leastT_isSome (l : List TypeV) : (leastT l).isSome = decide (0 < l.length) := by
  rcases List.eq_nil_or_concat l with rfl | ⟨ys, y, rfl⟩
  · rfl
  · rw [List.concat_eq_append, leastT_snoc]
    obtain ⟨q, hq⟩ := minT_some (leastT ys) y
    rw [hq]
    simp
theorem least_step {l : List TypeV} {k : Nat} (hk : k < l.length) : leastT (l.take (k + 1)) = minT (leastT (l.take k)) (l.getD k default) := by
  rw [List.take_succ_eq_append_getElem hk, leastT_snoc]
  congr 1
  simp [hk]
theorem least_first {l : List TypeV} (hk : 0 < l.length) : leastT (l.take 1) = some (l.getD 0 default) := by
  rw [least_step hk]; rfl
theorem least_yes {l : List TypeV} {k : Nat} {m : TypeV} (hk : k < l.length) (h0 : 0 < k) (hm : (leastT (l.take k)).getD TypeV.zero = m) (h : lessT (l.getD k default) m = true) : (leastT (l.take (k + 1))).getD TypeV.zero = l.getD k default := by
  have hs := leastT_isSome (l.take k)
  rw [List.length_take, show min k l.length = k by omega, decide_eq_true h0] at hs
  obtain ⟨q, hq⟩ := Option.isSome_iff_exists.1 hs
  rw [hq] at hm
  rw [least_step hk, hq]
  simp only [Option.getD_some] at hm
  subst hm
  simp only [minT]
  rw [if_pos h]
  rfl
theorem least_no {l : List TypeV} {k : Nat} {m : TypeV} (hk : k < l.length) (h0 : 0 < k) (hm : (leastT (l.take k)).getD TypeV.zero = m) (h : lessT (l.getD k default) m = false) : (leastT (l.take (k + 1))).getD TypeV.zero = m := by
  have hs := leastT_isSome (l.take k)
  rw [List.length_take, show min k l.length = k by omega, decide_eq_true h0] at hs
  obtain ⟨q, hq⟩ := Option.isSome_iff_exists.1 hs
  rw [hq] at hm
  rw [least_step hk, hq]
  simp only [Option.getD_some] at hm
  subst hm
  simp only [minT]
  rw [if_neg (by rw [h]; decide)]
  rfl
theorem ret_type {p q : TypeV} {a b : Bool} (h1 : p = q) (h2 : a = b) : Ending.returned (.tuple #[.agg #[.int .i64 p.id, .int .i64 p.wd, .int .i64 p.ht, .int .i64 p.dp, .int .i64 p.tare, .int .i64 p.gram, .int .i64 p.cost], .bool a]) = .returned (.tuple #[.agg #[.int .i64 q.id, .int .i64 q.wd, .int .i64 q.ht, .int .i64 q.dp, .int .i64 q.tare, .int .i64 q.gram, .int .i64 q.cost], .bool b]) := by rw [h1, h2]
theorem Blk.others7 {w : World} {g g' : Nat} {cs : List Value} {b0 b1 b2 b3 b4 b5 b6 : Value} (h : Blk w g cs) (hne : g ≠ g') : Blk (((((((w.setCell ⟨g', 0, none⟩ b0).setCell ⟨g', 1, none⟩ b1).setCell ⟨g', 2, none⟩ b2).setCell ⟨g', 3, none⟩ b3).setCell ⟨g', 4, none⟩ b4).setCell ⟨g', 5, none⟩ b5).setCell ⟨g', 6, none⟩ b6) g cs :=
  ((((((h.other hne).other hne).other hne).other hne).other hne).other hne).other hne
end Go.Proofs.YtphdeojiehigpaaGreatDoor
