/- The laws' own sizes and comparisons of slices of structs of numbers. -/
import Derived.Test.YtlakbnpinennnaaGreatDoorTo
import Derived.Deep.RegionWith
namespace Go.Proofs.YtlakbnpinennnaaGreatDoor
open Go.RowKit
set_option linter.unusedVariables false

theorem szItemS_any (a : Option Addr) (n c : Nat) (l : Int) (w : World) (hn : n ≤ maxLen) (h0 : 0 ≤ l) (hl : l ≤ 1048576) :
    Calls Tryz.prog 55 #[.slice a n c, .int .i64 l] w fun e w' => e = .returned (.int .i64 (if l - n < 0 then -1 else l - n)) ∧ w' = w := by
  unfold maxLen at hn
  by_cases h : l - n < 0
  all_goals
    go_enter Tryz.func55, Tryz.ntmps55
    go_wp2
    go_ret
    exact ⟨rfl, rfl⟩
set_option maxHeartbeats 1000000 in
theorem eqItemS_same (a : Option Addr) (n c : Nat) (a' : Option Addr) (c' : Nat) (xs : List ItemV) (w : World) (hr : RdR ItemV.cells 7 w a n xs) (hr' : RdR ItemV.cells 7 w a' n xs) (hn : n ≤ 1048576) :
    Calls Tryz.prog 63 #[.slice a n c, .slice a' n c'] w fun e w' => e = .returned (.bool true) ∧ Below w.heap.size w w' := by
  have hne : ((n : Int) != (n : Int)) = false := by simp
  go_enter Tryz.func63, Tryz.ntmps63
  go_wp2
  go_loopw [5] (fun i wr => ∃ k : Nat, k ≤ n ∧ i = .int .i64 k ∧ Below w.heap.size w wr) (fun i _ => n - (intOf i).toNat)
  case atStart => exact ⟨0, Nat.zero_le _, rfl, Below.refl _ _⟩
  case round =>
    obtain ⟨k, hk, rfl, hbel⟩ := hrel
    by_cases hlt : k < n
    · obtain ⟨b, off, rfl, hc⟩ := hr.2 k hlt
      obtain ⟨b', off', rfl, hc'⟩ := hr'.2 k hlt
      generalize xs.getD k default = q at hc hc'
      have d0 : wr.cell? ⟨b, off + k * 7, none⟩ = some (.int .i64 q.id) := (hbel.cell (World.block_lt_of_cell? w _ (hc 0 (by omega)))).trans (hc 0 (by omega))
      have d1 : wr.cell? ⟨b, off + k * 7 + 1, none⟩ = some (.int .i64 q.wd) := (hbel.cell (World.block_lt_of_cell? w _ (hc 1 (by omega)))).trans (hc 1 (by omega))
      have d2 : wr.cell? ⟨b, off + k * 7 + 2, none⟩ = some (.int .i64 q.ht) := (hbel.cell (World.block_lt_of_cell? w _ (hc 2 (by omega)))).trans (hc 2 (by omega))
      have d3 : wr.cell? ⟨b, off + k * 7 + 3, none⟩ = some (.int .i64 q.dp) := (hbel.cell (World.block_lt_of_cell? w _ (hc 3 (by omega)))).trans (hc 3 (by omega))
      have d4 : wr.cell? ⟨b, off + k * 7 + 4, none⟩ = some (.int .i64 q.gram) := (hbel.cell (World.block_lt_of_cell? w _ (hc 4 (by omega)))).trans (hc 4 (by omega))
      have d5 : wr.cell? ⟨b, off + k * 7 + 5, none⟩ = some (.int .i64 q.cls) := (hbel.cell (World.block_lt_of_cell? w _ (hc 5 (by omega)))).trans (hc 5 (by omega))
      have d6 : wr.cell? ⟨b, off + k * 7 + 6, none⟩ = some (.int .i64 q.cnt) := (hbel.cell (World.block_lt_of_cell? w _ (hc 6 (by omega)))).trans (hc 6 (by omega))
      have e0 : wr.cell? ⟨b', off' + k * 7, none⟩ = some (.int .i64 q.id) := (hbel.cell (World.block_lt_of_cell? w _ (hc' 0 (by omega)))).trans (hc' 0 (by omega))
      have e1 : wr.cell? ⟨b', off' + k * 7 + 1, none⟩ = some (.int .i64 q.wd) := (hbel.cell (World.block_lt_of_cell? w _ (hc' 1 (by omega)))).trans (hc' 1 (by omega))
      have e2 : wr.cell? ⟨b', off' + k * 7 + 2, none⟩ = some (.int .i64 q.ht) := (hbel.cell (World.block_lt_of_cell? w _ (hc' 2 (by omega)))).trans (hc' 2 (by omega))
      have e3 : wr.cell? ⟨b', off' + k * 7 + 3, none⟩ = some (.int .i64 q.dp) := (hbel.cell (World.block_lt_of_cell? w _ (hc' 3 (by omega)))).trans (hc' 3 (by omega))
      have e4 : wr.cell? ⟨b', off' + k * 7 + 4, none⟩ = some (.int .i64 q.gram) := (hbel.cell (World.block_lt_of_cell? w _ (hc' 4 (by omega)))).trans (hc' 4 (by omega))
      have e5 : wr.cell? ⟨b', off' + k * 7 + 5, none⟩ = some (.int .i64 q.cls) := (hbel.cell (World.block_lt_of_cell? w _ (hc' 5 (by omega)))).trans (hc' 5 (by omega))
      have e6 : wr.cell? ⟨b', off' + k * 7 + 6, none⟩ = some (.int .i64 q.cnt) := (hbel.cell (World.block_lt_of_cell? w _ (hc' 6 (by omega)))).trans (hc' 6 (by omega))
      have HB := hide hbel
      clear hc hc' hr hr' hbel
      go_wp2_with fail
      go_region_with ((go_at_call 91; refine (eqItem_same _ _ _ _ _ _ _ _).mono ?_; rintro e w2 ⟨rfl, hb2⟩))
      all_goals
        go_wp2
        go_roundw
        case rel => exact ⟨k + 1, by omega, by go_num, (unhide HB).drew.trans (hb2.mono (unhide HB).size)⟩
        case measure => simp [intOf]; omega
    · go_wp2
      go_ret
      exact ⟨rfl, hbel⟩
theorem szTypeS_any (a : Option Addr) (n c : Nat) (l : Int) (w : World) (hn : n ≤ maxLen) (h0 : 0 ≤ l) (hl : l ≤ 1048576) :
    Calls Tryz.prog 54 #[.slice a n c, .int .i64 l] w fun e w' => e = .returned (.int .i64 (if l - n < 0 then -1 else l - n)) ∧ w' = w := by
  unfold maxLen at hn
  by_cases h : l - n < 0
  all_goals
    go_enter Tryz.func54, Tryz.ntmps54
    go_wp2
    go_ret
    exact ⟨rfl, rfl⟩
set_option maxHeartbeats 1000000 in
theorem eqTypeS_same (a : Option Addr) (n c : Nat) (a' : Option Addr) (c' : Nat) (xs : List TypeV) (w : World) (hr : RdR TypeV.cells 7 w a n xs) (hr' : RdR TypeV.cells 7 w a' n xs) (hn : n ≤ 1048576) :
    Calls Tryz.prog 62 #[.slice a n c, .slice a' n c'] w fun e w' => e = .returned (.bool true) ∧ Below w.heap.size w w' := by
  have hne : ((n : Int) != (n : Int)) = false := by simp
  go_enter Tryz.func62, Tryz.ntmps62
  go_wp2
  go_loopw [5] (fun i wr => ∃ k : Nat, k ≤ n ∧ i = .int .i64 k ∧ Below w.heap.size w wr) (fun i _ => n - (intOf i).toNat)
  case atStart => exact ⟨0, Nat.zero_le _, rfl, Below.refl _ _⟩
  case round =>
    obtain ⟨k, hk, rfl, hbel⟩ := hrel
    by_cases hlt : k < n
    · obtain ⟨b, off, rfl, hc⟩ := hr.2 k hlt
      obtain ⟨b', off', rfl, hc'⟩ := hr'.2 k hlt
      generalize xs.getD k default = q at hc hc'
      have d0 : wr.cell? ⟨b, off + k * 7, none⟩ = some (.int .i64 q.id) := (hbel.cell (World.block_lt_of_cell? w _ (hc 0 (by omega)))).trans (hc 0 (by omega))
      have d1 : wr.cell? ⟨b, off + k * 7 + 1, none⟩ = some (.int .i64 q.wd) := (hbel.cell (World.block_lt_of_cell? w _ (hc 1 (by omega)))).trans (hc 1 (by omega))
      have d2 : wr.cell? ⟨b, off + k * 7 + 2, none⟩ = some (.int .i64 q.ht) := (hbel.cell (World.block_lt_of_cell? w _ (hc 2 (by omega)))).trans (hc 2 (by omega))
      have d3 : wr.cell? ⟨b, off + k * 7 + 3, none⟩ = some (.int .i64 q.dp) := (hbel.cell (World.block_lt_of_cell? w _ (hc 3 (by omega)))).trans (hc 3 (by omega))
      have d4 : wr.cell? ⟨b, off + k * 7 + 4, none⟩ = some (.int .i64 q.tare) := (hbel.cell (World.block_lt_of_cell? w _ (hc 4 (by omega)))).trans (hc 4 (by omega))
      have d5 : wr.cell? ⟨b, off + k * 7 + 5, none⟩ = some (.int .i64 q.gram) := (hbel.cell (World.block_lt_of_cell? w _ (hc 5 (by omega)))).trans (hc 5 (by omega))
      have d6 : wr.cell? ⟨b, off + k * 7 + 6, none⟩ = some (.int .i64 q.cost) := (hbel.cell (World.block_lt_of_cell? w _ (hc 6 (by omega)))).trans (hc 6 (by omega))
      have e0 : wr.cell? ⟨b', off' + k * 7, none⟩ = some (.int .i64 q.id) := (hbel.cell (World.block_lt_of_cell? w _ (hc' 0 (by omega)))).trans (hc' 0 (by omega))
      have e1 : wr.cell? ⟨b', off' + k * 7 + 1, none⟩ = some (.int .i64 q.wd) := (hbel.cell (World.block_lt_of_cell? w _ (hc' 1 (by omega)))).trans (hc' 1 (by omega))
      have e2 : wr.cell? ⟨b', off' + k * 7 + 2, none⟩ = some (.int .i64 q.ht) := (hbel.cell (World.block_lt_of_cell? w _ (hc' 2 (by omega)))).trans (hc' 2 (by omega))
      have e3 : wr.cell? ⟨b', off' + k * 7 + 3, none⟩ = some (.int .i64 q.dp) := (hbel.cell (World.block_lt_of_cell? w _ (hc' 3 (by omega)))).trans (hc' 3 (by omega))
      have e4 : wr.cell? ⟨b', off' + k * 7 + 4, none⟩ = some (.int .i64 q.tare) := (hbel.cell (World.block_lt_of_cell? w _ (hc' 4 (by omega)))).trans (hc' 4 (by omega))
      have e5 : wr.cell? ⟨b', off' + k * 7 + 5, none⟩ = some (.int .i64 q.gram) := (hbel.cell (World.block_lt_of_cell? w _ (hc' 5 (by omega)))).trans (hc' 5 (by omega))
      have e6 : wr.cell? ⟨b', off' + k * 7 + 6, none⟩ = some (.int .i64 q.cost) := (hbel.cell (World.block_lt_of_cell? w _ (hc' 6 (by omega)))).trans (hc' 6 (by omega))
      have HB := hide hbel
      clear hc hc' hr hr' hbel
      go_wp2_with fail
      go_region_with ((go_at_call 90; refine (eqType_same _ _ _ _ _ _ _ _).mono ?_; rintro e w2 ⟨rfl, hb2⟩))
      all_goals
        go_wp2
        go_roundw
        case rel => exact ⟨k + 1, by omega, by go_num, (unhide HB).drew.trans (hb2.mono (unhide HB).size)⟩
        case measure => simp [intOf]; omega
    · go_wp2
      go_ret
      exact ⟨rfl, hbel⟩
theorem szPairS_any (a : Option Addr) (n c : Nat) (l : Int) (w : World) (hn : n ≤ maxLen) (h0 : 0 ≤ l) (hl : l ≤ 1048576) :
    Calls Tryz.prog 53 #[.slice a n c, .int .i64 l] w fun e w' => e = .returned (.int .i64 (if l - n < 0 then -1 else l - n)) ∧ w' = w := by
  unfold maxLen at hn
  by_cases h : l - n < 0
  all_goals
    go_enter Tryz.func53, Tryz.ntmps53
    go_wp2
    go_ret
    exact ⟨rfl, rfl⟩
set_option maxHeartbeats 1000000 in
theorem eqPairS_same (a : Option Addr) (n c : Nat) (a' : Option Addr) (c' : Nat) (xs : List PairV) (w : World) (hr : RdR PairV.cells 2 w a n xs) (hr' : RdR PairV.cells 2 w a' n xs) (hn : n ≤ 1048576) :
    Calls Tryz.prog 61 #[.slice a n c, .slice a' n c'] w fun e w' => e = .returned (.bool true) ∧ Below w.heap.size w w' := by
  have hne : ((n : Int) != (n : Int)) = false := by simp
  go_enter Tryz.func61, Tryz.ntmps61
  go_wp2
  go_loopw [5] (fun i wr => ∃ k : Nat, k ≤ n ∧ i = .int .i64 k ∧ Below w.heap.size w wr) (fun i _ => n - (intOf i).toNat)
  case atStart => exact ⟨0, Nat.zero_le _, rfl, Below.refl _ _⟩
  case round =>
    obtain ⟨k, hk, rfl, hbel⟩ := hrel
    by_cases hlt : k < n
    · obtain ⟨b, off, rfl, hc⟩ := hr.2 k hlt
      obtain ⟨b', off', rfl, hc'⟩ := hr'.2 k hlt
      generalize xs.getD k default = q at hc hc'
      have d0 : wr.cell? ⟨b, off + k * 2, none⟩ = some (.int .i64 q.a) := (hbel.cell (World.block_lt_of_cell? w _ (hc 0 (by omega)))).trans (hc 0 (by omega))
      have d1 : wr.cell? ⟨b, off + k * 2 + 1, none⟩ = some (.int .i64 q.b) := (hbel.cell (World.block_lt_of_cell? w _ (hc 1 (by omega)))).trans (hc 1 (by omega))
      have e0 : wr.cell? ⟨b', off' + k * 2, none⟩ = some (.int .i64 q.a) := (hbel.cell (World.block_lt_of_cell? w _ (hc' 0 (by omega)))).trans (hc' 0 (by omega))
      have e1 : wr.cell? ⟨b', off' + k * 2 + 1, none⟩ = some (.int .i64 q.b) := (hbel.cell (World.block_lt_of_cell? w _ (hc' 1 (by omega)))).trans (hc' 1 (by omega))
      have HB := hide hbel
      clear hc hc' hr hr' hbel
      go_wp2_with fail
      go_region_with ((go_at_call 89; refine (eqPair_same _ _ _).mono ?_; rintro e w2 ⟨rfl, hb2⟩))
      all_goals
        go_wp2
        go_roundw
        case rel => exact ⟨k + 1, by omega, by go_num, (unhide HB).drew.trans (hb2.mono (unhide HB).size)⟩
        case measure => simp [intOf]; omega
    · go_wp2
      go_ret
      exact ⟨rfl, hbel⟩
end Go.Proofs.YtlakbnpinennnaaGreatDoor
