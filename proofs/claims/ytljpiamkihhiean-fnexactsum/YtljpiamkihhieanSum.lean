/- laws.FnExactSum: at every slice of numbers the program's Sum answers as the model's. No conditions: the statement FnExactSumSaid whole. -/
import Derived.Test.YtljpiamkihhieanInts
namespace Go.Proofs.Ytljpiamkihhiean
open Go.RowKit

theorem ret_int {k : IntKind} {a b : Int} (h : a = b) : Ending.returned (.int k a) = .returned (.int k b) := by rw [h]

def clip (x : Int) : Int := if -1000000000 ≤ x ∧ x ≤ 1000000000 then x else 0
def sumUp (l : List Int) : Int := (l.map clip).sum

theorem sumUp_snoc (l : List Int) (x : Int) : sumUp (l ++ [x]) = sumUp l + clip x := by simp [sumUp, List.sum_append]
theorem clip_bd (x : Int) : -1000000000 ≤ clip x ∧ clip x ≤ 1000000000 := by unfold clip; split <;> omega
theorem sumUp_bd (l : List Int) : -1000000000 * (l.length : Int) ≤ sumUp l ∧ sumUp l ≤ 1000000000 * (l.length : Int) := by
  induction l with
  | nil => simp [sumUp]
  | cons x r ih =>
    have h := clip_bd x
    have e : sumUp (x :: r) = clip x + sumUp r := by simp [sumUp]
    rw [e, List.length_cons]
    omega
theorem sumUp_step (zs : List Int) (k : Nat) (h : k < zs.length) : sumUp (zs.take (k + 1)) = sumUp (zs.take k) + clip (zs.getD k 0) := by
  rw [List.take_succ_eq_append_getElem h, sumUp_snoc]
  simp [h]
theorem clip_in (x : Int) (h1 : -1000000000 ≤ x) (h2 : x ≤ 1000000000) : clip x = x := by unfold clip; rw [if_pos ⟨h1, h2⟩]
theorem clip_low (x : Int) (h : x < -1000000000) : clip x = 0 := by unfold clip; rw [if_neg (by omega)]
theorem clip_high (x : Int) (h : 1000000000 < x) : clip x = 0 := by unfold clip; rw [if_neg (by omega)]
theorem take_bd (zs : List Int) (k n : Nat) (hl : zs.length = n) (hn : n ≤ 1048576) : -1048576000000000 ≤ sumUp (zs.take k) ∧ sumUp (zs.take k) ≤ 1048576000000000 := by
  have h := sumUp_bd (zs.take k)
  have : (zs.take k).length ≤ n := by rw [List.length_take]; omega
  omega

set_option maxHeartbeats 800000 in
/-- spec.Sum -/
theorem specSum_any (a : Option Addr) (n c : Nat) (zs : List Int) (w : World) (hr : Rd w a n zs) (hn : n ≤ 1048576) :
    Calls Try.prog 4 #[.slice a n c] w fun e w' => e = .returned (.int .i64 (sumUp zs)) ∧ w' = w := by
  go_enter Try.func4, Try.ntmps4
  go_wp2
  go_loop [3, 4] (fun t i => ∃ k : Nat, k ≤ n ∧ i = .int .i64 k ∧ t = .int .i64 (sumUp (zs.take k))) (fun _ i => n - (intOf i).toNat)
  case atStart => exact ⟨0, Nat.zero_le _, rfl, rfl⟩
  case round =>
    obtain ⟨k, hk, rfl, rfl⟩ := hrel
    have hbd := take_bd zs k n hr.1 hn
    by_cases hlt : k < n
    · obtain ⟨b, off, rfl, hc⟩ := hr.2 k hlt
      have HS : Hid (sumUp (zs.take (k + 1)) = sumUp (zs.take k) + clip (zs.getD k 0)) := sumUp_step zs k (by have := hr.1; omega)
      generalize hx : zs.getD k 0 = x at *
      clear hx
      generalize hs : sumUp (zs.take k) = s at *
      clear hs
      rcases (show (x < -1000000000) ∨ (1000000000 < x) ∨ (-1000000000 ≤ x ∧ x ≤ 1000000000) from by omega) with h1 | h1 | ⟨h1, h2⟩
      · go_wp2
        go_round
        case rel => exact ⟨k + 1, by omega, by go_num, by rw [HS.out, clip_low x h1]; go_num⟩
        case measure => simp [intOf]; omega
      · go_wp2
        go_round
        case rel => exact ⟨k + 1, by omega, by go_num, by rw [HS.out, clip_high x h1]; go_num⟩
        case measure => simp [intOf]; omega
      · go_wp2
        go_round
        case rel => exact ⟨k + 1, by omega, by go_num, by rw [HS.out, clip_in x h1 h2]⟩
        case measure => simp [intOf]; omega
    · go_wp2
      go_ret
      have e : zs.take k = zs := List.take_of_length_le (by have := hr.1; omega)
      exact ⟨ret_int (by rw [e]), rfl⟩

set_option maxHeartbeats 800000 in
/-- impl.Sum -/
theorem implSum_any (a : Option Addr) (n c : Nat) (zs : List Int) (w : World) (hr : Rd w a n zs) (hn : n ≤ 1048576) :
    Calls Try.prog 6 #[.slice a n c] w fun e w' => e = .returned (.int .i64 (sumUp zs)) ∧ w' = w := by
  go_enter Try.func6, Try.ntmps6
  go_wp2
  go_loop [3, 8] (fun t i => ∃ k : Nat, k ≤ n ∧ i = .int .i64 k ∧ t = .int .i64 (sumUp (zs.take k))) (fun _ i => n - (intOf i).toNat)
  case atStart => exact ⟨0, Nat.zero_le _, rfl, rfl⟩
  case round =>
    obtain ⟨k, hk, rfl, rfl⟩ := hrel
    have hbd := take_bd zs k n hr.1 hn
    by_cases hlt : k < n
    · obtain ⟨b, off, rfl, hc⟩ := hr.2 k hlt
      have HS : Hid (sumUp (zs.take (k + 1)) = sumUp (zs.take k) + clip (zs.getD k 0)) := sumUp_step zs k (by have := hr.1; omega)
      generalize hx : zs.getD k 0 = x at *
      clear hx
      generalize hs : sumUp (zs.take k) = s at *
      clear hs
      rcases (show (x < -1000000000) ∨ (1000000000 < x) ∨ (-1000000000 ≤ x ∧ x ≤ 1000000000) from by omega) with h1 | h1 | ⟨h1, h2⟩
      · go_wp2
        go_round
        case rel => exact ⟨k + 1, by omega, by go_num, by rw [HS.out, clip_low x h1]; go_num⟩
        case measure => simp [intOf]; omega
      · go_wp2
        go_round
        case rel => exact ⟨k + 1, by omega, by go_num, by rw [HS.out, clip_high x h1]; go_num⟩
        case measure => simp [intOf]; omega
      · go_wp2
        go_round
        case rel => exact ⟨k + 1, by omega, by go_num, by rw [HS.out, clip_in x h1 h2]⟩
        case measure => simp [intOf]; omega
    · go_wp2
      go_ret
      have e : zs.take k = zs := List.take_of_length_le (by have := hr.1; omega)
      exact ⟨ret_int (by rw [e]), rfl⟩

set_option maxHeartbeats 800000 in
/-- the law -/
theorem law_sum (a : Option Addr) (n c : Nat) (zs : List Int) (w : World) (hr : n ≤ 1048576 → Rd w a n zs) (hm : n ≤ maxLen) :
    Calls Try.prog 3 #[.slice a n c] w fun e w' => e = .returned (.bool true) ∧ Below w.heap.size w w' := by
  unfold maxLen at hm
  by_cases hn : n ≤ 1048576
  · have hr := hr hn
    have hgt : ¬ (1048576 : Int) < (n : Int) := by omega
    go_enter Try.func3, Try.ntmps3
    go_wp2_with fail
    refine (toIntS_any a n c zs w hr hn).mono ?_
    rintro e w1 ⟨rfl, ho1, hb1⟩
    go_wp2_with fail
    refine (specSum_any _ n n zs w1 (Rd.of_owns ho1) hn).mono ?_
    rintro e w1' ⟨rfl, rfl⟩
    go_wp2_with fail
    refine (toIntS_any a n c zs _ (hr.mono hb1) hn).mono ?_
    rintro e w2 ⟨rfl, ho2, hb2⟩
    go_wp2_with fail
    refine (implSum_any _ n n zs w2 (Rd.of_owns ho2) hn).mono ?_
    rintro e w2' ⟨rfl, rfl⟩
    have hb02 : Below w.heap.size w w2' := hb1.trans (hb2.mono hb1.size)
    have hx2 := Rd.of_owns ho2
    have heq : (sumUp zs != sumUp zs) = false := by simp
    clear ho1 ho2 
    go_wp2_with fail
    refine (toIntS_any a n c zs _ (hr.mono hb02) hn).mono ?_
    rintro e w3 ⟨rfl, ho3, hb3⟩
    have hb03 : Below w.heap.size w w3 := hb02.trans (hb3.mono hb02.size)
    have hx3 := Rd.of_owns ho3
    have hx23 := hx2.mono hb3
    clear ho3
    go_wp2_with fail
    refine (eqIntS_same _ n n _ n zs w3 hx23 hx3 hn).mono ?_
    rintro e w4 ⟨rfl, hb4⟩
    go_wp2
    go_ret
    exact ⟨rfl, hb03.trans (hb4.mono hb03.size)⟩
  · have hgt : (1048576 : Int) < (n : Int) := by omega
    go_enter Try.func3, Try.ntmps3
    go_wp2
    go_ret
    exact ⟨rfl, Below.refl _ _⟩
end Go.Proofs.Ytljpiamkihhiean
