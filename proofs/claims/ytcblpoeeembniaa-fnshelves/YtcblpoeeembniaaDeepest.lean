/- The boxes' places, the deepest first. -/
import Derived.Test.YtcblpoeeembniaaDepths
import Derived.Test.YtcblpoeeembniaaSortImplDown
namespace Go.Proofs.Ytcblpoeeembniaa
open Go.RowKit
set_option linter.unusedVariables false
set_option linter.unusedSimpArgs false
def orderB (xs : List BoxV) : List Nat := sortP (xs.map (fun s => s.dp)) true (List.range xs.length)
set_option maxHeartbeats 1000000 in
theorem deepestFirst_any (a : Option Addr) (n c : Nat) (xs : List BoxV) (w : World) (hr : RdR BoxV.cells 4 w a n xs) (hn : n ≤ 1048576) :
 Calls Try.prog 44 #[.slice a n c] w fun e w' => ∃ g, e = .returned (.slice (some ⟨g, 0, none⟩) n n) ∧ w'.ownsRow w.heap.size 3 1 (.slice (some ⟨g, 0, none⟩) n n) n (cellsN (orderB xs)) ∧ Below w.heap.size w w' := by
 obtain ⟨i0, hi, hz0, hz1, hz2⟩ := info_parts Try.infoInt
 have hbb : i0.bytes * n ≤ 281474976710656 := by rw [hz2]; omega
 have HR := hide hr
 clear hr
 go_enter Try.func44, Try.ntmps44
 go_wp2_with (first
  | (at_make; refine wpList_make_full _ rfl _ _ 49 rfl w.heap.size 3 i0 (.int .i64 0) 1 Try.underlying49 hi hz0 hz1 .i64 .i64 n n n rfl rfl rfl rfl hbb (by unfold maxLen; omega) (Nat.le_refl _) ?_; intro w1 hown hgrow)
  | go_in)
 have hown0 : w1.ownsRow w.heap.size 3 1 (.slice (some ⟨w.heap.size, 0, none⟩) n n) n (((xs.take 0).map (fun s => s.dp)).map (Value.int .i64) ++ List.replicate (n - 0) (.int .i64 0)) := by
  simpa [toList_madeCells_one, Value.cells] using hown
 have HO := hide hown0
 have HB := hide (show Below w.heap.size w w1 from (Below.refl _ _).grown hgrow (Nat.le_refl _) (by simp))
 clear hown hgrow hown0
 go_loopw [11] (fun i wr => ∃ k : Nat, k ≤ n ∧ i = .int .i64 k ∧ wr.ownsRow w.heap.size 3 1 (.slice (some ⟨w.heap.size, 0, none⟩) n n) n (((xs.take k).map (fun s => s.dp)).map (Value.int .i64) ++ List.replicate (n - k) (.int .i64 0)) ∧ Below w.heap.size w wr) (fun i _ => n - (intOf i).toNat)
 case atStart => exact ⟨0, Nat.zero_le _, rfl, unhide HO, unhide HB⟩
 case round =>
  clear HO HB
  obtain ⟨k, hk, rfl, ho, hbel⟩ := hrel
  have HO := hide ho
  have HB := hide hbel
  by_cases hlt : k < n
  · obtain ⟨b, off, rfl, hc⟩ := (HR.out.mono (by omega) BoxV.len hbel).2 k hlt
    have d0 : wr.cell? ⟨b, off + k * 4, none⟩ = some (.int .i64 (xs.getD k default).wd) := hc 0 (by omega)
    have d1 : wr.cell? ⟨b, off + k * 4 + 1, none⟩ = some (.int .i64 (xs.getD k default).dp) := hc 1 (by omega)
    have d2 : wr.cell? ⟨b, off + k * 4 + 2, none⟩ = some (.int .i64 (xs.getD k default).ht) := hc 2 (by omega)
    have d3 : wr.cell? ⟨b, off + k * 4 + 3, none⟩ = some (.int .i64 (xs.getD k default).gram) := hc 3 (by omega)
    clear hc
    have HTK := hide (dp_take (fun s => s.dp) xs k (by rw [HR.out.1]; exact hlt))
    generalize xs.getD k default = q at *
    have hz : w.heap.size < wr.heap.size := (ho.lt _ rfl).2
    have hl : (((xs.take k).map (fun s => s.dp)).map (Value.int .i64) ++ List.replicate (n - k) (Value.int .i64 0)).length = n := by have := HR.out.1; simp; omega
    obtain ⟨u, hu⟩ : ∃ u, wr.cell? ⟨w.heap.size, k, none⟩ = some u := ⟨_, (ho.cellAt k (by omega)).trans (List.getElem?_eq_getElem (by rw [hl]; exact hlt))⟩
    have hfz : wr.frozen? ⟨w.heap.size, k, none⟩ = false := ho.frozenAt k
    have hst := (ho.stored k (.int .i64 q.dp)).1
    rw [dp_set _ (by rw [List.length_map, List.length_take, HR.out.1]; omega) hlt] at hst
    have HS : Hid (((wr.setCell ⟨w.heap.size, k, none⟩ (.int .i64 q.dp)).alloc (.cells #[.int .i64 q.wd, .int .i64 q.dp, .int .i64 q.ht, .int .i64 q.gram] 52)).ownsRow w.heap.size 3 1 (.slice (some ⟨w.heap.size, 0, none⟩) n n) n (((xs.take (k + 1)).map (fun s => s.dp)).map (Value.int .i64) ++ List.replicate (n - (k + 1)) (.int .i64 0))) := by rw [Hid, unhide HTK]; exact own_later hst ((Below.refl _ _).alloc (Nat.le_refl _) _)
    have HBS : Hid (Below w.heap.size w ((wr.setCell ⟨w.heap.size, k, none⟩ (.int .i64 q.dp)).alloc (.cells #[.int .i64 q.wd, .int .i64 q.dp, .int .i64 q.ht, .int .i64 q.gram] 52))) := (HB.out.setCell (Nat.le_refl _) _).alloc (HB.out.setCell (Nat.le_refl _) _).size _
    clear hbel ho hst HO HB HTK hl
    go_wp2
    go_roundw
    case rel => exact ⟨k + 1, by omega, by go_num, unhide HS, unhide HBS⟩
    case measure => simp [intOf]; omega
  · obtain rfl : k = n := by omega
    have hx : xs.take k = xs := List.take_of_length_le (by rw [HR.out.1]; omega)
    rw [hx, Nat.sub_self, List.replicate_zero, List.append_nil] at ho
    have HRD := hide (Rd.of_owns ho)
    have hlt0 := (ho.lt _ rfl).2
    clear hbel ho HO
    go_wp2_with fail
    refine (implSortDown_any _ k k (xs.map (fun s => s.dp)) wr HRD.out (fun x hx => by cases hx; exact hlt0) hn).mono ?_
    rintro e w2 ⟨rfl, ho2, hb2⟩
    have O2 := hide (World.ownsRow.mono ho2 HB.out.size)
    have B2 := hide (HB.out.trans (hb2.mono HB.out.size))
    clear ho2 hb2
    go_wp2_with fail
    go_ret
    refine ⟨_, rfl, ?_, unhide B2⟩
    have hl := HR.out.1
    unfold orderB
    rw [hl]
    exact unhide O2
end Go.Proofs.Ytcblpoeeembniaa
