/- The laws' own helpers over slices of numbers: the copy and the comparison. -/
import Derived.Test.YtlakbnpinennnaaGreatDoorRd
namespace Go.Proofs.YtlakbnpinennnaaGreatDoor
open Go.RowKit

set_option maxHeartbeats 400000 in
/-- laws.eqIntS at two slices of the same numbers. -/
theorem eqIntS_same (a : Option Addr) (n c : Nat) (a' : Option Addr) (c' : Nat) (zs : List Int) (w : World) (hr : Rd w a n zs) (hr' : Rd w a' n zs) (hn : n ≤ 1048576) :
    Calls Tryz.prog 27 #[.slice a n c, .slice a' n c'] w fun e w' => e = .returned (.bool true) ∧ Below w.heap.size w w' := by
  have hne : ((n : Int) != (n : Int)) = false := by simp
  go_enter Tryz.func27, Tryz.ntmps27
  go_wp2
  go_loopw [5] (fun i wr => ∃ k : Nat, k ≤ n ∧ i = .int .i64 k ∧ Below w.heap.size w wr) (fun i _ => n - (intOf i).toNat)
  case atStart => exact ⟨0, Nat.zero_le _, rfl, Below.refl _ _⟩
  case round =>
    obtain ⟨k, hk, rfl, hbel⟩ := hrel
    by_cases hlt : k < n
    · obtain ⟨b, off, rfl, hc⟩ := hr.2 k hlt
      obtain ⟨b', off', rfl, hc'⟩ := hr'.2 k hlt
      have hc1 : wr.cell? ⟨b, off + k, none⟩ = some (.int .i64 (zs.getD k 0)) := (hbel.cell (World.block_lt_of_cell? w _ hc)).trans hc
      have hc2 : wr.cell? ⟨b', off' + k, none⟩ = some (.int .i64 (zs.getD k 0)) := (hbel.cell (World.block_lt_of_cell? w _ hc')).trans hc'
      clear hc hc'
      go_wp2
      go_quiet (fail)
      go_wp2
      go_roundw
      case rel => exact ⟨k + 1, by omega, by go_num, below_drewN hbel _⟩
      case measure => simp [intOf]; omega
    · go_wp2
      go_ret
      exact ⟨rfl, hbel⟩
end Go.Proofs.YtlakbnpinennnaaGreatDoor
