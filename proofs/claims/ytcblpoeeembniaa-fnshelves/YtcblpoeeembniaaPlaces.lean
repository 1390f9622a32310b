/- The program's placesOf: a new row of the places 0, 1, .. -/
import Derived.Test.YtcblpoeeembniaaSortRow
namespace Go.Proofs.Ytcblpoeeembniaa
open Go.RowKit

theorem places_step (n k : Nat) (hk : k < n) : (cellsN (List.range k) ++ List.replicate (n - k) (Value.int .i64 0)).set k (.int .i64 (k : Int)) = cellsN (List.range (k + 1)) ++ List.replicate (n - (k + 1)) (.int .i64 0) := by
 have e : n - k = (n - (k + 1)) + 1 := by omega
 have hlen : (cellsN (List.range k)).length = k := by simp [cellsN]
 rw [e, List.replicate_succ, List.set_append_right _ _ (by omega), hlen, Nat.sub_self, List.set_cons_zero, List.range_succ]
 simp [cellsN]
theorem places_at (n k : Nat) (hk : k < n) : (cellsN (List.range k) ++ List.replicate (n - k) (Value.int .i64 0))[k]? = some (.int .i64 0) := by
 have hlen : (cellsN (List.range k)).length = k := by simp [cellsN]
 rw [List.getElem?_append_right (by omega), hlen, Nat.sub_self, List.getElem?_replicate, if_pos (by omega)]

set_option maxHeartbeats 400000 in
theorem placesOf_any (a : Option Addr) (n c : Nat) (w : World) (hn : n ≤ 1048576) :
 Calls Try.prog 64 #[.slice a n c] w fun e w' => e = .returned (.slice (some ⟨w.heap.size, 0, none⟩) n n) ∧
  w'.ownsRow w.heap.size 3 1 (.slice (some ⟨w.heap.size, 0, none⟩) n n) n (cellsN (List.range n)) ∧ Below w.heap.size w w' := by
 obtain ⟨i0, hi, hz0, hz1, hz2⟩ := info_parts Try.infoInt
 have hbb : i0.bytes * n ≤ 281474976710656 := by rw [hz2]; omega
 go_enter Try.func64, Try.ntmps64
 go_wp2_with (first
  | (at_make; refine wpList_make_full _ rfl _ _ 49 rfl w.heap.size 3 i0 (.int .i64 0) 1 Try.underlying49 hi hz0 hz1 .i64 .i64 n n n rfl rfl rfl rfl hbb (by unfold maxLen; omega) (Nat.le_refl _) ?_; intro w1 hown hgrow)
  | go_in)
 have hown0 : w1.ownsRow w.heap.size 3 1 (.slice (some ⟨w.heap.size, 0, none⟩) n n) n (cellsN (List.range 0) ++ List.replicate (n - 0) (.int .i64 0)) := by
  simpa [toList_madeCells_one, Value.cells, cellsN] using hown
 have hb1 : Below w.heap.size w w1 := (Below.refl _ _).grown hgrow (Nat.le_refl _) (by simp)
 clear hown hgrow
 go_loopw [4, 10] (fun _ i wr => ∃ k : Nat, k ≤ n ∧ i = .int .i64 k ∧ wr.ownsRow w.heap.size 3 1 (.slice (some ⟨w.heap.size, 0, none⟩) n n) n (cellsN (List.range k) ++ List.replicate (n - k) (.int .i64 0)) ∧ Below w.heap.size w wr) (fun _ i _ => n - (intOf i).toNat)
 case atStart => exact ⟨0, Nat.zero_le _, rfl, hown0, hb1⟩
 case round =>
  obtain ⟨k, hk, rfl, hown, hbel⟩ := hrel
  by_cases hlt : k < n
  · have hc2 : wr.cell? ⟨w.heap.size, k, none⟩ = some (.int .i64 0) := (hown.cellAt k (by omega)).trans (places_at n k hlt)
    have hf2 : wr.frozen? ⟨w.heap.size, k, none⟩ = false := hown.frozenAt k
    have hst := hown.stored k (.int .i64 (k : Int))
    rw [places_step n k hlt] at hst
    have hst1 := hst.1
    have hbs : Below w.heap.size w (wr.setCell ⟨w.heap.size, k, none⟩ (.int .i64 (k : Int))) := hbel.setCell (Nat.le_refl _) _
    clear hst hown hbel hown0 hb1
    go_wp2
    go_roundw
    case rel => exact ⟨k + 1, by omega, by go_num, hst1, hbs⟩
    case measure => simp [intOf]; omega
  · have hkn : k = n := by omega
    subst hkn
    go_wp2
    go_ret
    refine ⟨rfl, ?_, hbel⟩
    simpa using hown
end Go.Proofs.Ytcblpoeeembniaa
