/- laws.FnExactSum: at every slice of numbers the program's Sum answers as the model's. No conditions: the statement FnExactSumSaid whole. -/
import Derived.Test.YtcblpoeeembniaaRd
import Derived.Test.YtcblpoeeembniaaInts
namespace Go.Proofs.Ytcblpoeeembniaa
open Go.RowKit

theorem ret_int {k : IntKind} {a b : Int} (h : a = b) : Ending.returned (.int k a) = .returned (.int k b) := by rw [h]

def clip (x : Int) : Int := if -1000000000 ≤ x ∧ x ≤ 1000000000 then x else 0
def sumUp (l : List Int) : Int := (l.map clip).sum

theorem sumUp_snoc (l : List Int) (x : Int) : sumUp (l ++ [x]) = sumUp l + clip x := by simp [sumUp, List.sum_append]
theorem clip_bd (x : Int) : -1000000000 ≤ clip x ∧ clip x ≤ 1000000000 := by unfold clip; split <;> omega
theorem sumUp_bd (l : List Int) : -1000000000 * (l.length : Int) ≤ sumUp l ∧ sumUp l ≤ 1000000000 * (l.length : Int) := by
 induction l with
 | nil => simp [sumUp]
 | cons x r ih =>
  have h := clip_bd x
  have e : sumUp (x :: r) = clip x + sumUp r := by simp [sumUp]
  rw [e, List.length_cons]
  omega
theorem sumUp_step (zs : List Int) (k : Nat) (h : k < zs.length) : sumUp (zs.take (k + 1)) = sumUp (zs.take k) + clip (zs.getD k 0) := by
 rw [List.take_succ_eq_append_getElem h, sumUp_snoc]
 simp [h]
theorem clip_in (x : Int) (h1 : -1000000000 ≤ x) (h2 : x ≤ 1000000000) : clip x = x := by unfold clip; rw [if_pos ⟨h1, h2⟩]
theorem clip_low (x : Int) (h : x < -1000000000) : clip x = 0 := by unfold clip; rw [if_neg (by omega)]
theorem clip_high (x : Int) (h : 1000000000 < x) : clip x = 0 := by unfold clip; rw [if_neg (by omega)]
theorem take_bd (zs : List Int) (k n : Nat) (hl : zs.length = n) (hn : n ≤ 1048576) : -1048576000000000 ≤ sumUp (zs.take k) ∧ sumUp (zs.take k) ≤ 1048576000000000 := by
 have h := sumUp_bd (zs.take k)
 have : (zs.take k).length ≤ n := by rw [List.length_take]; omega
 omega

set_option maxHeartbeats 800000 in
/-- spec.Sum -/
theorem specSum_any (a : Option Addr) (n c : Nat) (zs : List Int) (w : World) (hr : Rd w a n zs) (hn : n ≤ 1048576) :
 Calls Try.prog 37 #[.slice a n c] w fun e w' => e = .returned (.int .i64 (sumUp zs)) ∧ w' = w := by
 go_enter Try.func37, Try.ntmps37
 go_wp2
 go_loop [3, 4] (fun t i => ∃ k : Nat, k ≤ n ∧ i = .int .i64 k ∧ t = .int .i64 (sumUp (zs.take k))) (fun _ i => n - (intOf i).toNat)
 case atStart => exact ⟨0, Nat.zero_le _, rfl, rfl⟩
 case round =>
  obtain ⟨k, hk, rfl, rfl⟩ := hrel
  have hbd := take_bd zs k n hr.1 hn
  by_cases hlt : k < n
  · obtain ⟨b, off, rfl, hc⟩ := hr.2 k hlt
    have HS : Hid (sumUp (zs.take (k + 1)) = sumUp (zs.take k) + clip (zs.getD k 0)) := sumUp_step zs k (by have := hr.1; omega)
    generalize hx : zs.getD k 0 = x at *
    clear hx
    generalize hs : sumUp (zs.take k) = s at *
    clear hs
    rcases (show (x < -1000000000) ∨ (1000000000 < x) ∨ (-1000000000 ≤ x ∧ x ≤ 1000000000) from by omega) with h1 | h1 | ⟨h1, h2⟩
    · go_wp2
      go_round
      case rel => exact ⟨k + 1, by omega, by go_num, by rw [HS.out, clip_low x h1]; go_num⟩
      case measure => simp [intOf]; omega
    · go_wp2
      go_round
      case rel => exact ⟨k + 1, by omega, by go_num, by rw [HS.out, clip_high x h1]; go_num⟩
      case measure => simp [intOf]; omega
    · go_wp2
      go_round
      case rel => exact ⟨k + 1, by omega, by go_num, by rw [HS.out, clip_in x h1 h2]⟩
      case measure => simp [intOf]; omega
  · go_wp2
    go_ret
    have e : zs.take k = zs := List.take_of_length_le (by have := hr.1; omega)
    exact ⟨ret_int (by rw [e]), rfl⟩

set_option maxHeartbeats 800000 in
/-- impl.Sum -/
theorem implSum_any (a : Option Addr) (n c : Nat) (zs : List Int) (w : World) (hr : Rd w a n zs) (hn : n ≤ 1048576) :
 Calls Try.prog 39 #[.slice a n c] w fun e w' => e = .returned (.int .i64 (sumUp zs)) ∧ w' = w := by
 go_enter Try.func39, Try.ntmps39
 go_wp2
 go_loop [3, 8] (fun t i => ∃ k : Nat, k ≤ n ∧ i = .int .i64 k ∧ t = .int .i64 (sumUp (zs.take k))) (fun _ i => n - (intOf i).toNat)
 case atStart => exact ⟨0, Nat.zero_le _, rfl, rfl⟩
 case round =>
  obtain ⟨k, hk, rfl, rfl⟩ := hrel
  have hbd := take_bd zs k n hr.1 hn
  by_cases hlt : k < n
  · obtain ⟨b, off, rfl, hc⟩ := hr.2 k hlt
    have HS : Hid (sumUp (zs.take (k + 1)) = sumUp (zs.take k) + clip (zs.getD k 0)) := sumUp_step zs k (by have := hr.1; omega)
    generalize hx : zs.getD k 0 = x at *
    clear hx
    generalize hs : sumUp (zs.take k) = s at *
    clear hs
    rcases (show (x < -1000000000) ∨ (1000000000 < x) ∨ (-1000000000 ≤ x ∧ x ≤ 1000000000) from by omega) with h1 | h1 | ⟨h1, h2⟩
    · go_wp2
      go_round
      case rel => exact ⟨k + 1, by omega, by go_num, by rw [HS.out, clip_low x h1]; go_num⟩
      case measure => simp [intOf]; omega
    · go_wp2
      go_round
      case rel => exact ⟨k + 1, by omega, by go_num, by rw [HS.out, clip_high x h1]; go_num⟩
      case measure => simp [intOf]; omega
    · go_wp2
      go_round
      case rel => exact ⟨k + 1, by omega, by go_num, by rw [HS.out, clip_in x h1 h2]⟩
      case measure => simp [intOf]; omega
  · go_wp2
    go_ret
    have e : zs.take k = zs := List.take_of_length_le (by have := hr.1; omega)
    exact ⟨ret_int (by rw [e]), rfl⟩

end Go.Proofs.Ytcblpoeeembniaa
