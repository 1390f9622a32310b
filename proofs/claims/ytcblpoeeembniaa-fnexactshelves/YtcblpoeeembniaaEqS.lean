/- The laws' own sizes and comparisons of slices of structs of numbers. -/
import Derived.Test.YtcblpoeeembniaaTo
import Derived.Deep.RegionWith
namespace Go.Proofs.Ytcblpoeeembniaa
open Go.RowKit
set_option linter.unusedVariables false

theorem szBoxS_any (a : Option Addr) (n c : Nat) (l : Int) (w : World) (hn : n ≤ maxLen) (h0 : 0 ≤ l) (hl : l ≤ 1048576) :
 Calls Try.prog 9 #[.slice a n c, .int .i64 l] w fun e w' => e = .returned (.int .i64 (if l - n < 0 then -1 else l - n)) ∧ w' = w := by
 unfold maxLen at hn
 by_cases h : l - n < 0
 all_goals
  go_enter Try.func9, Try.ntmps9
  go_wp2
  go_ret
  exact ⟨rfl, rfl⟩
set_option maxHeartbeats 1000000 in
theorem eqBoxS_same (a : Option Addr) (n c : Nat) (a' : Option Addr) (c' : Nat) (xs : List BoxV) (w : World) (hr : RdR BoxV.cells 4 w a n xs) (hr' : RdR BoxV.cells 4 w a' n xs) (hn : n ≤ 1048576) :
 Calls Try.prog 14 #[.slice a n c, .slice a' n c'] w fun e w' => e = .returned (.bool true) ∧ Below w.heap.size w w' := by
 have hne : ((n : Int) != (n : Int)) = false := by simp
 go_enter Try.func14, Try.ntmps14
 go_wp2
 go_loopw [5] (fun i wr => ∃ k : Nat, k ≤ n ∧ i = .int .i64 k ∧ Below w.heap.size w wr) (fun i _ => n - (intOf i).toNat)
 case atStart => exact ⟨0, Nat.zero_le _, rfl, Below.refl _ _⟩
 case round =>
  obtain ⟨k, hk, rfl, hbel⟩ := hrel
  by_cases hlt : k < n
  · obtain ⟨b, off, rfl, hc⟩ := hr.2 k hlt
    obtain ⟨b', off', rfl, hc'⟩ := hr'.2 k hlt
    generalize xs.getD k default = q at hc hc'
    have d0 : wr.cell? ⟨b, off + k * 4, none⟩ = some (.int .i64 q.wd) := (hbel.cell (World.block_lt_of_cell? w _ (hc 0 (by omega)))).trans (hc 0 (by omega))
    have d1 : wr.cell? ⟨b, off + k * 4 + 1, none⟩ = some (.int .i64 q.dp) := (hbel.cell (World.block_lt_of_cell? w _ (hc 1 (by omega)))).trans (hc 1 (by omega))
    have d2 : wr.cell? ⟨b, off + k * 4 + 2, none⟩ = some (.int .i64 q.ht) := (hbel.cell (World.block_lt_of_cell? w _ (hc 2 (by omega)))).trans (hc 2 (by omega))
    have d3 : wr.cell? ⟨b, off + k * 4 + 3, none⟩ = some (.int .i64 q.gram) := (hbel.cell (World.block_lt_of_cell? w _ (hc 3 (by omega)))).trans (hc 3 (by omega))
    have e0 : wr.cell? ⟨b', off' + k * 4, none⟩ = some (.int .i64 q.wd) := (hbel.cell (World.block_lt_of_cell? w _ (hc' 0 (by omega)))).trans (hc' 0 (by omega))
    have e1 : wr.cell? ⟨b', off' + k * 4 + 1, none⟩ = some (.int .i64 q.dp) := (hbel.cell (World.block_lt_of_cell? w _ (hc' 1 (by omega)))).trans (hc' 1 (by omega))
    have e2 : wr.cell? ⟨b', off' + k * 4 + 2, none⟩ = some (.int .i64 q.ht) := (hbel.cell (World.block_lt_of_cell? w _ (hc' 2 (by omega)))).trans (hc' 2 (by omega))
    have e3 : wr.cell? ⟨b', off' + k * 4 + 3, none⟩ = some (.int .i64 q.gram) := (hbel.cell (World.block_lt_of_cell? w _ (hc' 3 (by omega)))).trans (hc' 3 (by omega))
    have HB := hide hbel
    clear hc hc' hr hr' hbel
    go_wp2_with fail
    go_region_with ((go_at_call 35; refine (eqBox_same _ _ _ _ _).mono ?_; rintro e w2 ⟨rfl, hb2⟩))
    all_goals
     go_wp2
     go_roundw
     case rel => exact ⟨k + 1, by omega, by go_num, HB.out.drew.trans (hb2.mono HB.out.size)⟩
     case measure => simp [intOf]; omega
  · go_wp2
    go_ret
    exact ⟨rfl, hbel⟩
end Go.Proofs.Ytcblpoeeembniaa
