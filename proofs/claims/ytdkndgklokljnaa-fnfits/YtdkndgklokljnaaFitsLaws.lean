/- What fits, whichever way it is turned; what fits has no more volume. Plain. -/
import Derived.Test.YtdkndgklokljnaaFitsPlain
import Derived.Test.YtdkndgklokljnaaBounds
namespace Go.Proofs.Ytdkndgklokljnaa
set_option linter.unusedVariables false

theorem fits_turn (x : ItemV) (t : TypeV) : fitsB ⟨x.id, x.dp, x.wd, x.ht, x.gram, x.cls, x.cnt⟩ ⟨t.id, t.ht, t.wd, t.dp, t.tare, t.gram, t.cost⟩ = fitsB x t := by
  have e1 : lo3 x.dp x.wd x.ht = lo3 x.wd x.ht x.dp := by unfold lo3; omega
  have e2 : mid3 x.dp x.wd x.ht = mid3 x.wd x.ht x.dp := by unfold mid3; omega
  have e3 : hi3 x.dp x.wd x.ht = hi3 x.wd x.ht x.dp := by unfold hi3; omega
  have f1 : lo3 t.ht t.wd t.dp = lo3 t.wd t.ht t.dp := by unfold lo3; omega
  have f2 : mid3 t.ht t.wd t.dp = mid3 t.wd t.ht t.dp := by unfold mid3; omega
  have f3 : hi3 t.ht t.wd t.dp = hi3 t.wd t.ht t.dp := by unfold hi3; omega
  simp only [fitsB, sidesLe, e1, e2, e3, f1, f2, f3]
theorem fits_iff (x : ItemV) (t : TypeV) : fitsB x t = true ↔ lo3 x.wd x.ht x.dp ≤ lo3 t.wd t.ht t.dp ∧ mid3 x.wd x.ht x.dp ≤ mid3 t.wd t.ht t.dp ∧ hi3 x.wd x.ht x.dp ≤ hi3 t.wd t.ht t.dp ∧ x.gram ≤ t.gram := by
  simp [fitsB, sidesLe, and_assoc]
theorem fits_more (x : ItemV) (t : TypeV) (h : fitsB x t = true) : fitsB x ⟨t.id, t.wd + 1, t.ht, t.dp, t.tare, t.gram + 1, t.cost⟩ = true := by
  rw [fits_iff] at h ⊢
  dsimp only
  unfold lo3 mid3 hi3 at *
  omega
theorem prod3 (a b c : Int) : lo3 a b c * mid3 a b c * hi3 a b c = a * b * c := by
  have h : (lo3 a b c = a ∧ mid3 a b c = b ∧ hi3 a b c = c) ∨ (lo3 a b c = a ∧ mid3 a b c = c ∧ hi3 a b c = b) ∨ (lo3 a b c = b ∧ mid3 a b c = a ∧ hi3 a b c = c) ∨ (lo3 a b c = b ∧ mid3 a b c = c ∧ hi3 a b c = a) ∨ (lo3 a b c = c ∧ mid3 a b c = a ∧ hi3 a b c = b) ∨ (lo3 a b c = c ∧ mid3 a b c = b ∧ hi3 a b c = a) := by
    unfold lo3 mid3 hi3
    omega
  rcases h with ⟨h1, h2, h3⟩ | ⟨h1, h2, h3⟩ | ⟨h1, h2, h3⟩ | ⟨h1, h2, h3⟩ | ⟨h1, h2, h3⟩ | ⟨h1, h2, h3⟩ <;> rw [h1, h2, h3] <;> ac_rfl
theorem prod_le (a b c p q r : Int) (ha : 0 ≤ a) (hb : 0 ≤ b) (hc : 0 ≤ c) (h1 : lo3 a b c ≤ lo3 p q r) (h2 : mid3 a b c ≤ mid3 p q r) (h3 : hi3 a b c ≤ hi3 p q r) : a * b * c ≤ p * q * r := by
  rw [← prod3 a b c, ← prod3 p q r]
  have l0 : 0 ≤ lo3 a b c := by unfold lo3; omega
  have m0 : 0 ≤ mid3 a b c := by unfold mid3; omega
  have i0 : 0 ≤ hi3 a b c := by unfold hi3; omega
  have p0 : 0 ≤ lo3 p q r := by omega
  have q0 : 0 ≤ mid3 p q r := by omega
  exact Int.mul_le_mul (Int.mul_le_mul h1 h2 m0 p0) h3 i0 (Int.mul_nonneg p0 q0)
theorem vol_le (x : ItemV) (t : TypeV) (h : fitsB x t = true) (hx : x.ok = true) (ht : t.ok = true) : vol x.wd x.ht x.dp ≤ vol t.wd t.ht t.dp := by
  rw [fits_iff] at h
  simp only [ItemV.ok, itemB, sidesB, Bool.and_eq_true, inB_iff] at hx
  simp only [TypeV.ok, typeB, sidesB, Bool.and_eq_true, inB_iff] at ht
  have e1 : vol x.wd x.ht x.dp = x.wd * x.ht * x.dp := by
    unfold vol
    rw [if_pos]
    simp [inB]; omega
  have e2 : vol t.wd t.ht t.dp = t.wd * t.ht * t.dp := by
    unfold vol
    rw [if_pos]
    simp [inB]; omega
  rw [e1, e2]
  exact prod_le _ _ _ _ _ _ (by omega) (by omega) (by omega) h.1 h.2.1 h.2.2.1
theorem type_plus (t : TypeV) (ht : t.ok = true) : 1 ≤ t.wd ∧ t.wd ≤ 2000 ∧ 1 ≤ t.gram ∧ t.gram ≤ 100000 := by
  simp only [TypeV.ok, typeB, sidesB, Bool.and_eq_true, inB_iff] at ht
  omega
end Go.Proofs.Ytdkndgklokljnaa
