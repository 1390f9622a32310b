/- GroupOf of the model and of the program. -/
import Derived.Test.YtlakbnpinennnaaGreatDoorPkE
import Derived.Test.YtlakbnpinennnaaGreatDoorPkI
namespace Go.Proofs.YtlakbnpinennnaaGreatDoor
open Go.RowKit
set_option linter.unusedVariables false

set_option maxHeartbeats 1000000 in
theorem groupOf_any (a : Option Addr) (n c : Nat) (gs : List (List Int)) (x : Int) (w : World) (hr : Rd2 w a n gs) (hn : n ≤ 1048600) (hm : ∀ i, i < n → (gs.getD i []).length ≤ 1048600) :
    Calls Tryz.prog 24 #[.slice a n c, .int .i64 x] w fun e w' => e = .returned (.int .i64 (groupOfI gs x)) ∧ w' = w := by
  go_enter Tryz.func24, Tryz.ntmps24
  go_wp2
  go_loop [9] (fun i => ∃ k : Nat, k ≤ n ∧ i = .int .i64 k ∧ (gs.take k).any (hasI · x) = false) (fun i => n - (intOf i).toNat)
  case atStart => exact ⟨0, Nat.zero_le _, rfl, rfl⟩
  case round =>
    obtain ⟨k, hk, rfl, h0⟩ := hrel
    have H0 := hide h0
    clear h0
    by_cases hlt : k < n
    case neg =>
      have HE := hide (groupOf_none gs x (take_any_end gs (hasI · x) k (by rw [hr.1]; omega) (unhide H0)))
      go_wp2
      go_ret
      exact ⟨ret_num (unhide HE).symm, rfl⟩
    obtain ⟨b, off, ai, ci, rfl, hc, hrow⟩ := hr.2 k hlt
    have hm1 := hm k hlt
    have HS := hide (take_any_step gs (hasI · x) k (by rw [hr.1]; exact hlt))
    have HH := hide (groupOf_hit gs x k (by rw [hr.1]; exact hlt) (unhide H0))
    rw [show gs.getD k [] = gs.getD k default from rfl] at hc hrow hm1
    generalize gs.getD k default = zs at hc hrow hm1 HS HH
    have HQ := hide hrow
    clear hrow hr
    go_wp2_with fail
    refine (containsInt_any ai zs.length ci zs x w (unhide HQ) hm1).mono ?_
    rintro e w1 ⟨rfl, hw⟩
    subst w1
    cases hb : hasI zs x
    · go_wp2_with fail
      go_round
      case rel => exact ⟨k + 1, by omega, by go_num, by rw [unhide HS, unhide H0, hb]; rfl⟩
      case measure => simp [intOf]; omega
    · have HE := hide ((unhide HH) hb)
      go_wp2_with fail
      go_ret
      exact ⟨ret_num (unhide HE).symm, rfl⟩
end Go.Proofs.YtlakbnpinennnaaGreatDoor
