/- impl.within, impl.Volume, spec.l1In, spec.Volume, and the law of Volume. -/
import Derived.Test.YtcblpoeeembniaaRd
namespace Go.Proofs.Ytcblpoeeembniaa
open Go.RowKit

def inB (n a b : Int) : Bool := decide (a ≤ n) && decide (n ≤ b)
theorem inB_iff {n a b : Int} : inB n a b = true ↔ a ≤ n ∧ n ≤ b := by simp [inB]
theorem inB_no {n a b : Int} : inB n a b = false ↔ n < a ∨ b < n := by
 simp [inB]; omega

theorem within_any (n a b : Int) (w : World) :
 Calls Try.prog 52 #[.int .i64 n, .int .i64 a, .int .i64 b] w fun e w' => e = .returned (.bool (inB n a b)) ∧ w' = w := by
 unfold inB
 by_cases h1 : a ≤ n <;> by_cases h2 : n ≤ b <;> (go_enter Try.func52, Try.ntmps52; go_wp2; go_ret; simp [h1, h2])
theorem l1In_any (n a b : Int) (w : World) :
 Calls Try.prog 31 #[.int .i64 n, .int .i64 a, .int .i64 b] w fun e w' => e = .returned (.bool (inB n a b)) ∧ w' = w := by
 unfold inB
 by_cases h1 : a ≤ n <;> by_cases h2 : n ≤ b <;> (go_enter Try.func31, Try.ntmps31; go_wp2; go_ret; simp [h1, h2])

def vol (x y z : Int) : Int := if inB x 0 2000 && inB y 0 2000 && inB z 0 2000 then x * y * z else 0
theorem mul2000 {x y : Int} (hx : 0 ≤ x ∧ x ≤ 2000) (hy : 0 ≤ y ∧ y ≤ 2000) : 0 ≤ x * y ∧ x * y ≤ 4000000 :=
 ⟨Int.mul_nonneg hx.1 hy.1, Int.le_trans (Int.mul_le_mul hx.2 hy.2 hy.1 (by omega)) (by omega)⟩
theorem mul4m {x y : Int} (hx : 0 ≤ x ∧ x ≤ 4000000) (hy : 0 ≤ y ∧ y ≤ 2000) : 0 ≤ x * y ∧ x * y ≤ 8000000000 :=
 ⟨Int.mul_nonneg hx.1 hy.1, Int.le_trans (Int.mul_le_mul hx.2 hy.2 hy.1 (by omega)) (by omega)⟩

theorem vol_in {x y z : Int} (h1 : inB x 0 2000 = true) (h2 : inB y 0 2000 = true) (h3 : inB z 0 2000 = true) : vol x y z = x * y * z := by simp [vol, h1, h2, h3]
theorem vol_out {x y z : Int} (h : inB x 0 2000 = false ∨ inB y 0 2000 = false ∨ inB z 0 2000 = false) : vol x y z = 0 := by
 rcases h with h | h | h <;> simp [vol, h]
theorem vol_bd (x y z : Int) : 0 ≤ vol x y z ∧ vol x y z ≤ 8000000000 := by
 cases h1 : inB x 0 2000
 · rw [vol_out (.inl h1)]; omega
 cases h2 : inB y 0 2000
 · rw [vol_out (.inr (.inl h2))]; omega
 cases h3 : inB z 0 2000
 · rw [vol_out (.inr (.inr h3))]; omega
 rw [vol_in h1 h2 h3]
 exact mul4m (mul2000 (inB_iff.1 h1) (inB_iff.1 h2)) (inB_iff.1 h3)

theorem volume_any (x y z : Int) (w : World) :
 Calls Try.prog 41 #[.int .i64 x, .int .i64 y, .int .i64 z] w fun e w' => e = .returned (.int .i64 (vol x y z)) ∧ w' = w := by
 cases h1 : inB x 0 2000
 · rw [vol_out (.inl h1)]
   go_enter Try.func41, Try.ntmps41
   go_wp2_with ((go_at_call 52; refine (within_any _ _ _ _).mono ?_; rintro e w' ⟨rfl, rfl⟩))
   go_ret
   exact ⟨rfl, rfl⟩
 cases h2 : inB y 0 2000
 · rw [vol_out (.inr (.inl h2))]
   go_enter Try.func41, Try.ntmps41
   go_wp2_with ((go_at_call 52; refine (within_any _ _ _ _).mono ?_; rintro e w' ⟨rfl, rfl⟩))
   go_ret
   exact ⟨rfl, rfl⟩
 cases h3 : inB z 0 2000
 · rw [vol_out (.inr (.inr h3))]
   go_enter Try.func41, Try.ntmps41
   go_wp2_with ((go_at_call 52; refine (within_any _ _ _ _).mono ?_; rintro e w' ⟨rfl, rfl⟩))
   go_ret
   exact ⟨rfl, rfl⟩
 have b1 := mul2000 (inB_iff.1 h1) (inB_iff.1 h2)
 have b2 := mul4m b1 (inB_iff.1 h3)
 rw [vol_in h1 h2 h3]
 obtain ⟨b3, b4⟩ := b1
 obtain ⟨b5, b6⟩ := b2
 go_enter Try.func41, Try.ntmps41
 go_wp2_with ((go_at_call 52; refine (within_any _ _ _ _).mono ?_; rintro e w' ⟨rfl, rfl⟩))
 go_ret
 exact ⟨rfl, rfl⟩
end Go.Proofs.Ytcblpoeeembniaa
