/- How two places are compared by their keys: the library's Compare at two ints, and the program's two function literals over it. -/
import Derived.Test.YtcblpoeeembniaaRd
namespace Go.Proofs.Ytcblpoeeembniaa
open Go.RowKit

def cmpI (x y : Int) : Int := if x < y then -1 else if y < x then 1 else 0

theorem compare_any (x y : Int) (w : World) :
 Calls Try.prog 67 #[.int .i64 x, .int .i64 y] w fun e w' => e = .returned (.int .i64 (cmpI x y)) ∧ w' = w := by
 have hx : (x != x) = false := by simp
 have hy : (y != y) = false := by simp
 rcases (show x < y ∨ x = y ∨ y < x from by omega) with h | h | h
 · have e : cmpI x y = -1 := by unfold cmpI; rw [if_pos h]
   rw [e]
   clear e
   go_enter Try.func67, Try.ntmps67
   go_wp2
   go_ret
   exact ⟨rfl, rfl⟩
 · subst h
   have e : cmpI x x = 0 := by unfold cmpI; rw [if_neg (by omega), if_neg (by omega)]
   rw [e]
   clear e
   have h1 : ¬ x < x := by omega
   go_enter Try.func67, Try.ntmps67
   go_wp2
   go_ret
   exact ⟨rfl, rfl⟩
 · have e : cmpI x y = 1 := by unfold cmpI; rw [if_neg (by omega), if_pos h]
   have h1 : ¬ x < y := by omega
   rw [e]
   clear e
   go_enter Try.func67, Try.ntmps67
   go_wp2
   go_ret
   exact ⟨rfl, rfl⟩

/-- The keys lie where the function literal looks: behind the variable at 'bx'. -/
def Keys (w : World) (bx : Nat) (ak : Option Addr) (nk ck : Nat) (keys : List Int) : Prop :=
 w.cell? ⟨bx, 0, none⟩ = some (.slice ak nk ck) ∧ Rd w ak nk keys

theorem Keys.drewN {w : World} {bx : Nat} {ak : Option Addr} {nk ck : Nat} {keys : List Int} (h : Keys w bx ak nk ck keys) (n : Nat) : Keys (w.drewN n) bx ak nk ck keys := h

set_option maxHeartbeats 800000 in
theorem cmpDown_any (p q : Nat) (bx : Nat) (ak : Option Addr) (nk ck : Nat) (keys : List Int) (w : World) (hk : Keys w bx ak nk ck keys) (hp : p < nk) (hq : q < nk) :
 Calls Try.prog 66 #[.int .i64 (p : Int), .int .i64 (q : Int), .pointer (some ⟨bx, 0, none⟩)] w fun e w' => e = .returned (.int .i64 (cmpI (keys.getD q 0) (keys.getD p 0))) ∧ ∃ m, w' = w.drewN m := by
 obtain ⟨hc, hr⟩ := hk
 obtain ⟨b, off, rfl, hcp⟩ := hr.2 p hp
 obtain ⟨b', off', e, hcq⟩ := hr.2 q hq
 cases e
 clear hr
 generalize keys.getD p 0 = x at *
 generalize keys.getD q 0 = y at *
 go_enter Try.func66, Try.ntmps66
 go_wp2
 go_quiet ((go_at_call 67; exact Calls.quiet_of_same (compare_any _ _ _)))
 go_wp2
 go_ret
 exact ⟨rfl, _, rfl⟩
end Go.Proofs.Ytcblpoeeembniaa
