/- The laws' own helpers over slices of numbers: the copy and the comparison. -/
import Derived.Test.YtcblpoeeembniaaRd
namespace Go.Proofs.Ytcblpoeeembniaa
open Go.RowKit

set_option maxHeartbeats 400000 in
/-- laws.toIntS: a new row of the same numbers; nothing that was there has turned. -/
theorem toIntS_any (a : Option Addr) (n c : Nat) (zs : List Int) (w : World) (hr : Rd w a n zs) (hn : n ≤ 1048576) :
 Calls Try.prog 55 #[.slice a n c] w fun e w' => e = .returned (.slice (some ⟨w.heap.size, 0, none⟩) n n) ∧
  w'.ownsRow w.heap.size 3 1 (.slice (some ⟨w.heap.size, 0, none⟩) n n) n (zs.map (Value.int .i64)) ∧ Below w.heap.size w w' := by
 obtain ⟨i0, hi, hz0, hz1, hz2⟩ := info_parts Try.infoInt
 have hbb : i0.bytes * n ≤ 281474976710656 := by rw [hz2]; omega
 go_enter Try.func55, Try.ntmps55
 go_wp2_with (first
  | (at_make; refine wpList_make_full _ rfl _ _ 49 rfl w.heap.size 3 i0 (.int .i64 0) 1 Try.underlying49 hi hz0 hz1 .i64 .i64 n n n rfl rfl rfl rfl hbb (by unfold maxLen; omega) (Nat.le_refl _) ?_; intro w1 hown hgrow)
  | go_in)
 have hown0 : w1.ownsRow w.heap.size 3 1 (.slice (some ⟨w.heap.size, 0, none⟩) n n) n ((zs.take 0).map (Value.int .i64) ++ List.replicate (n - 0) (.int .i64 0)) := by
  simpa [toList_madeCells_one, Value.cells] using hown
 have hb1 : Below w.heap.size w w1 := (Below.refl _ _).grown hgrow (Nat.le_refl _) (by simp)
 clear hown hgrow
 go_loopw [4] (fun i wr => ∃ k : Nat, k ≤ n ∧ i = .int .i64 k ∧ wr.ownsRow w.heap.size 3 1 (.slice (some ⟨w.heap.size, 0, none⟩) n n) n ((zs.take k).map (Value.int .i64) ++ List.replicate (n - k) (.int .i64 0)) ∧ Below w.heap.size w wr) (fun i _ => n - (intOf i).toNat)
 case atStart => exact ⟨0, Nat.zero_le _, rfl, hown0, hb1⟩
 case round =>
  obtain ⟨k, hk, rfl, hown, hbel⟩ := hrel
  by_cases hlt : k < n
  · obtain ⟨b, off, rfl, hc⟩ := hr.2 k hlt
    have hc1 : wr.cell? ⟨b, off + k, none⟩ = some (.int .i64 (zs.getD k 0)) := (hbel.cell (World.block_lt_of_cell? w _ hc)).trans hc
    have hc2 : wr.cell? ⟨w.heap.size, k, none⟩ = some (.int .i64 0) := (hown.cellAt k (by omega)).trans (fill_at zs n k hr.1 hlt)
    have hf2 : wr.frozen? ⟨w.heap.size, k, none⟩ = false := hown.frozenAt k
    have hst := hown.stored k (.int .i64 (zs.getD k 0))
    rw [fill_step zs n k hr.1 hlt] at hst
    have hst1 := hst.1
    have hbs : Below w.heap.size w (wr.setCell ⟨w.heap.size, k, none⟩ (.int .i64 (zs.getD k 0))) := hbel.setCell (Nat.le_refl _) _
    clear hst hown hbel hc hown0 hb1
    go_wp2
    go_roundw
    case rel => exact ⟨k + 1, by omega, by go_num, hst1, hbs⟩
    case measure => simp [intOf]; omega
  · have hkn : k = n := by omega
    subst hkn
    go_wp2
    go_ret
    refine ⟨rfl, ?_, hbel⟩
    have e : zs.take k = zs := List.take_of_length_le (by have := hr.1; omega)
    simpa [e] using hown

set_option maxHeartbeats 400000 in
/-- laws.eqIntS at two slices of the same numbers. -/
theorem eqIntS_same (a : Option Addr) (n c : Nat) (a' : Option Addr) (c' : Nat) (zs : List Int) (w : World) (hr : Rd w a n zs) (hr' : Rd w a' n zs) (hn : n ≤ 1048576) :
 Calls Try.prog 56 #[.slice a n c, .slice a' n c'] w fun e w' => e = .returned (.bool true) ∧ Below w.heap.size w w' := by
 have hne : ((n : Int) != (n : Int)) = false := by simp
 go_enter Try.func56, Try.ntmps56
 go_wp2
 go_loopw [5] (fun i wr => ∃ k : Nat, k ≤ n ∧ i = .int .i64 k ∧ Below w.heap.size w wr) (fun i _ => n - (intOf i).toNat)
 case atStart => exact ⟨0, Nat.zero_le _, rfl, Below.refl _ _⟩
 case round =>
  obtain ⟨k, hk, rfl, hbel⟩ := hrel
  by_cases hlt : k < n
  · obtain ⟨b, off, rfl, hc⟩ := hr.2 k hlt
    obtain ⟨b', off', rfl, hc'⟩ := hr'.2 k hlt
    have hc1 : wr.cell? ⟨b, off + k, none⟩ = some (.int .i64 (zs.getD k 0)) := (hbel.cell (World.block_lt_of_cell? w _ hc)).trans hc
    have hc2 : wr.cell? ⟨b', off' + k, none⟩ = some (.int .i64 (zs.getD k 0)) := (hbel.cell (World.block_lt_of_cell? w _ hc')).trans hc'
    clear hc hc'
    go_wp2
    go_quiet (fail)
    go_wp2
    go_roundw
    case rel => exact ⟨k + 1, by omega, by go_num, below_drewN hbel _⟩
    case measure => simp [intOf]; omega
  · go_wp2
    go_ret
    exact ⟨rfl, hbel⟩
end Go.Proofs.Ytcblpoeeembniaa
