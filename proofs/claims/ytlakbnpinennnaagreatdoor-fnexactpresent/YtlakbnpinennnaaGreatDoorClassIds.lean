/- The program's Class: names, units, loads, the fault, its class. -/
import Derived.Test.YtlakbnpinennnaaGreatDoorClassPlain
import Derived.Test.YtlakbnpinennnaaGreatDoorBoundsOk
import Derived.Test.YtlakbnpinennnaaGreatDoorTableEnd
import Derived.Test.YtlakbnpinennnaaGreatDoorFitsImpl
import Derived.Test.YtlakbnpinennnaaGreatDoorAsFault
import Derived.Test.YtlakbnpinennnaaGreatDoorSortRow
import Derived.WalkSpells
import Derived.Maps.AppendAt
namespace Go.Proofs.YtlakbnpinennnaaGreatDoor
open Go.RowKit
set_option linter.unusedVariables false
set_option linter.unusedSimpArgs false

theorem app_ints {B n g cap : Nat} {w wr w1 : World} {v' : Value} {L : List Int} {x : Int} {t : TypeId} (hn : L.length = n)
    (hown : wr.ownsRow B 3 1 (.slice (some ⟨g, 0, none⟩) n cap) n (ci L)) (hbel : Below B w wr) (hB : B ≤ wr.heap.size)
    (h1 : w1.ownsRow B 3 1 v' (n + 1) (ci L ++ [.int .i64 x])) (h2 : (wr.alloc (.cells #[.int .i64 x] t)).grownBy w1 (Value.slice (some ⟨g, 0, none⟩) n cap).ownBlock)
    (h3 : v' = .slice none 0 0 ↔ Value.slice (some ⟨g, 0, none⟩) n cap = .slice none 0 0 ∧ 1 = 0) :
    ∃ g' cap', v' = .slice (some ⟨g', 0, none⟩) (n + 1) cap' ∧ w1.ownsRow B 3 1 (.slice (some ⟨g', 0, none⟩) (n + 1) cap') (n + 1) (ci (L ++ [x])) ∧ Below B w w1 := by
  have hne : ¬ v' = .slice none 0 0 := fun h => by have := (h3.1 h).2; omega
  obtain ⟨g', cap', rfl⟩ := own_shape h1 hne
  refine ⟨g', cap', rfl, ?_, ?_⟩
  · simpa [ci] using h1
  · refine (hbel.alloc hB (.cells #[.int .i64 x] t)).grown h2 (by simp; omega) ?_
    intro j hj
    have : g = j := by simpa [Value.ownBlock] using hj
    rw [← this]
    exact own_base hown
set_option maxHeartbeats 1600000 in
theorem typeIds_any (a : Option Addr) (n c : Nat) (ts : List TypeV) (w : World) (hr : RdR TypeV.cells 7 w a n ts) (hn : n ≤ 1048600) :
    Calls Tryz.prog 137 #[.slice a n c] w fun e w' => ∃ g cap, e = .returned (.slice (some ⟨g, 0, none⟩) n cap) ∧ w'.ownsRow w.heap.size 3 1 (.slice (some ⟨g, 0, none⟩) n cap) n (ci (idsT ts)) ∧ Below w.heap.size w w' := by
  obtain ⟨i0, hi, hz0, hz1, hz2⟩ := info_parts Tryz.infoInt
  have hown0 : (w.alloc (.cells #[] 3)).ownsRow w.heap.size 3 1 (.slice (some ⟨w.heap.size, 0, none⟩) 0 0) 0 [] := World.ownsRow_lit w #[] 0 (Nat.le_refl _) (Nat.zero_le _) rfl
  have hlen := hr.1
  have HLEN := hide hlen
  clear hlen
  go_enter Tryz.func137, Tryz.ntmps137
  go_wp2
  go_loopw [3, 9] (fun o i wr => ∃ k g cap : Nat, k ≤ n ∧ i = .int .i64 (k : Int) ∧ o = .slice (some ⟨g, 0, none⟩) k cap ∧ wr.ownsRow w.heap.size 3 1 (.slice (some ⟨g, 0, none⟩) k cap) k (ci (idsT (ts.take k))) ∧ Below w.heap.size w wr) (fun _ i _ => n - (intOf i).toNat)
  case atStart => exact ⟨0, w.heap.size, 0, Nat.zero_le _, rfl, rfl, by simpa [idsT, ci] using hown0, (Below.refl _ _).alloc (Nat.le_refl _) _⟩
  case round =>
    obtain ⟨k, g, cap, hk, rfl, rfl, hown, hbel⟩ := hrel
    clear hown0
    have hsz := hbel.size
    by_cases hlt : k < n
    · obtain ⟨b, off, rfl, hc⟩ := hr.2 k hlt
      have hl : (idsT (ts.take k)).length = k := by rw [idsT_len, List.length_take, unhide HLEN]; omega
      have HL := hide hl
      have HST := hide (idsT_step ts k (by rw [unhide HLEN]; exact hlt))
      generalize ts.getD k default = q at hc HST
      have d0 : wr.cell? ⟨b, off + k * 7, none⟩ = some (.int .i64 q.id) := (hbel.cell (World.block_lt_of_cell? _ _ (hc 0 (by omega)))).trans (hc 0 (by omega))
      have d1 : wr.cell? ⟨b, off + k * 7 + 1, none⟩ = some (.int .i64 q.wd) := (hbel.cell (World.block_lt_of_cell? _ _ (hc 1 (by omega)))).trans (hc 1 (by omega))
      have d2 : wr.cell? ⟨b, off + k * 7 + 2, none⟩ = some (.int .i64 q.ht) := (hbel.cell (World.block_lt_of_cell? _ _ (hc 2 (by omega)))).trans (hc 2 (by omega))
      have d3 : wr.cell? ⟨b, off + k * 7 + 3, none⟩ = some (.int .i64 q.dp) := (hbel.cell (World.block_lt_of_cell? _ _ (hc 3 (by omega)))).trans (hc 3 (by omega))
      have d4 : wr.cell? ⟨b, off + k * 7 + 4, none⟩ = some (.int .i64 q.tare) := (hbel.cell (World.block_lt_of_cell? _ _ (hc 4 (by omega)))).trans (hc 4 (by omega))
      have d5 : wr.cell? ⟨b, off + k * 7 + 5, none⟩ = some (.int .i64 q.gram) := (hbel.cell (World.block_lt_of_cell? _ _ (hc 5 (by omega)))).trans (hc 5 (by omega))
      have d6 : wr.cell? ⟨b, off + k * 7 + 6, none⟩ = some (.int .i64 q.cost) := (hbel.cell (World.block_lt_of_cell? _ _ (hc 6 (by omega)))).trans (hc 6 (by omega))
      have HBB := hide hbel
      have HOW := hide hown
      clear hl hc hr hbel hown
      go_wp2_with (first
        | (at_builtin; refine wpList_append_own _ rfl _ _ 32 rfl w.heap.size 3 i0 (.int .i64 0) 1 8 Tryz.underlying32 hi hz0 hz1 hz2 rfl (by decide) (.slice (some ⟨g, 0, none⟩) k cap) k (ci (idsT (ts.take k))) rfl (((unhide HOW).alloc _).alloc _) ⟨wr.heap.size + 1, 0, none⟩ 1 1 [.int .i64 q.id] rfl rfl (by rw [← show (wr.alloc (.cells #[.int .i64 q.id, .int .i64 q.wd, .int .i64 q.ht, .int .i64 q.dp, .int .i64 q.tare, .int .i64 q.gram, .int .i64 q.cost] 69)).heap.size = wr.heap.size + 1 by simp]; exact cell_one_new _ _ _) (by simp [Value.oneCell']) (by unfold maxLen; omega) (by omega) (by simp; omega) ?_; intro v' w1 h1 h2 h3)
        | go_in)
      obtain ⟨g', cap', hv, ho, hb⟩ := app_ints (unhide HL) ((unhide HOW).alloc (.cells #[.int .i64 q.id, .int .i64 q.wd, .int .i64 q.ht, .int .i64 q.dp, .int .i64 q.tare, .int .i64 q.gram, .int .i64 q.cost] 69)) ((unhide HBB).alloc hsz _) (by simp; omega) h1 h2 h3
      go_roundw
      case rel => exact ⟨k + 1, g', cap', by omega, by go_num, hv, by rw [unhide HST]; exact ho, hb⟩
      case measure => simp [intOf]; omega
    · have hkn : k = n := by omega
      subst hkn
      go_wp2
      go_ret
      refine ⟨g, cap, rfl, ?_, hbel⟩
      rwa [List.take_of_length_le (by rw [unhide HLEN]; exact Nat.le_refl _)] at hown
set_option maxHeartbeats 1600000 in
theorem itemIds_any (a : Option Addr) (n c : Nat) (ts : List ItemV) (w : World) (hr : RdR ItemV.cells 7 w a n ts) (hn : n ≤ 1048600) :
    Calls Tryz.prog 138 #[.slice a n c] w fun e w' => ∃ g cap, e = .returned (.slice (some ⟨g, 0, none⟩) n cap) ∧ w'.ownsRow w.heap.size 3 1 (.slice (some ⟨g, 0, none⟩) n cap) n (ci (idsI ts)) ∧ Below w.heap.size w w' := by
  obtain ⟨i0, hi, hz0, hz1, hz2⟩ := info_parts Tryz.infoInt
  have hown0 : (w.alloc (.cells #[] 3)).ownsRow w.heap.size 3 1 (.slice (some ⟨w.heap.size, 0, none⟩) 0 0) 0 [] := World.ownsRow_lit w #[] 0 (Nat.le_refl _) (Nat.zero_le _) rfl
  have hlen := hr.1
  have HLEN := hide hlen
  clear hlen
  go_enter Tryz.func138, Tryz.ntmps138
  go_wp2
  go_loopw [3, 9] (fun o i wr => ∃ k g cap : Nat, k ≤ n ∧ i = .int .i64 (k : Int) ∧ o = .slice (some ⟨g, 0, none⟩) k cap ∧ wr.ownsRow w.heap.size 3 1 (.slice (some ⟨g, 0, none⟩) k cap) k (ci (idsI (ts.take k))) ∧ Below w.heap.size w wr) (fun _ i _ => n - (intOf i).toNat)
  case atStart => exact ⟨0, w.heap.size, 0, Nat.zero_le _, rfl, rfl, by simpa [idsI, ci] using hown0, (Below.refl _ _).alloc (Nat.le_refl _) _⟩
  case round =>
    obtain ⟨k, g, cap, hk, rfl, rfl, hown, hbel⟩ := hrel
    clear hown0
    have hsz := hbel.size
    by_cases hlt : k < n
    · obtain ⟨b, off, rfl, hc⟩ := hr.2 k hlt
      have hl : (idsI (ts.take k)).length = k := by rw [idsI_len, List.length_take, unhide HLEN]; omega
      have HL := hide hl
      have HST := hide (idsI_step ts k (by rw [unhide HLEN]; exact hlt))
      generalize ts.getD k default = q at hc HST
      have d0 : wr.cell? ⟨b, off + k * 7, none⟩ = some (.int .i64 q.id) := (hbel.cell (World.block_lt_of_cell? _ _ (hc 0 (by omega)))).trans (hc 0 (by omega))
      have d1 : wr.cell? ⟨b, off + k * 7 + 1, none⟩ = some (.int .i64 q.wd) := (hbel.cell (World.block_lt_of_cell? _ _ (hc 1 (by omega)))).trans (hc 1 (by omega))
      have d2 : wr.cell? ⟨b, off + k * 7 + 2, none⟩ = some (.int .i64 q.ht) := (hbel.cell (World.block_lt_of_cell? _ _ (hc 2 (by omega)))).trans (hc 2 (by omega))
      have d3 : wr.cell? ⟨b, off + k * 7 + 3, none⟩ = some (.int .i64 q.dp) := (hbel.cell (World.block_lt_of_cell? _ _ (hc 3 (by omega)))).trans (hc 3 (by omega))
      have d4 : wr.cell? ⟨b, off + k * 7 + 4, none⟩ = some (.int .i64 q.gram) := (hbel.cell (World.block_lt_of_cell? _ _ (hc 4 (by omega)))).trans (hc 4 (by omega))
      have d5 : wr.cell? ⟨b, off + k * 7 + 5, none⟩ = some (.int .i64 q.cls) := (hbel.cell (World.block_lt_of_cell? _ _ (hc 5 (by omega)))).trans (hc 5 (by omega))
      have d6 : wr.cell? ⟨b, off + k * 7 + 6, none⟩ = some (.int .i64 q.cnt) := (hbel.cell (World.block_lt_of_cell? _ _ (hc 6 (by omega)))).trans (hc 6 (by omega))
      have HBB := hide hbel
      have HOW := hide hown
      clear hl hc hr hbel hown
      go_wp2_with (first
        | (at_builtin; refine wpList_append_own _ rfl _ _ 32 rfl w.heap.size 3 i0 (.int .i64 0) 1 8 Tryz.underlying32 hi hz0 hz1 hz2 rfl (by decide) (.slice (some ⟨g, 0, none⟩) k cap) k (ci (idsI (ts.take k))) rfl (((unhide HOW).alloc _).alloc _) ⟨wr.heap.size + 1, 0, none⟩ 1 1 [.int .i64 q.id] rfl rfl (by rw [← show (wr.alloc (.cells #[.int .i64 q.id, .int .i64 q.wd, .int .i64 q.ht, .int .i64 q.dp, .int .i64 q.gram, .int .i64 q.cls, .int .i64 q.cnt] 43)).heap.size = wr.heap.size + 1 by simp]; exact cell_one_new _ _ _) (by simp [Value.oneCell']) (by unfold maxLen; omega) (by omega) (by simp; omega) ?_; intro v' w1 h1 h2 h3)
        | go_in)
      obtain ⟨g', cap', hv, ho, hb⟩ := app_ints (unhide HL) ((unhide HOW).alloc (.cells #[.int .i64 q.id, .int .i64 q.wd, .int .i64 q.ht, .int .i64 q.dp, .int .i64 q.gram, .int .i64 q.cls, .int .i64 q.cnt] 43)) ((unhide HBB).alloc hsz _) (by simp; omega) h1 h2 h3
      go_roundw
      case rel => exact ⟨k + 1, g', cap', by omega, by go_num, hv, by rw [unhide HST]; exact ho, hb⟩
      case measure => simp [intOf]; omega
    · have hkn : k = n := by omega
      subst hkn
      go_wp2
      go_ret
      refine ⟨g, cap, rfl, ?_, hbel⟩
      rwa [List.take_of_length_le (by rw [unhide HLEN]; exact Nat.le_refl _)] at hown
set_option maxHeartbeats 1600000 in
theorem eachOnce_any (g n cap : Nat) (L : List Int) (w : World) (hr : Rd w (some ⟨g, 0, none⟩) n L) (hn : n ≤ 1048600) (hcap : n ≤ cap) (hc2 : cap ≤ 9223372036854775807) :
    Calls Tryz.prog 136 #[.slice (some ⟨g, 0, none⟩) n cap] w fun e w' => e = .returned (.bool (onceB L)) ∧ w' = w := by
  have hlen := hr.1
  have HLEN := hide hlen
  clear hlen
  go_enter Tryz.func136, Tryz.ntmps136
  go_wp2
  go_loop [7] (fun i => ∃ k : Nat, k ≤ n ∧ i = .int .i64 (k : Int) ∧ (List.range k).all (onceAt L) = true) (fun i => n - (intOf i).toNat)
  case atStart => exact ⟨0, Nat.zero_le _, rfl, rfl⟩
  case round =>
    obtain ⟨k, hk, rfl, hall⟩ := hrel
    have HA := hide hall
    clear hall
    by_cases hlt : k < n
    · obtain ⟨b, off, hbo, hc⟩ := hr.2 k hlt
      simp only [Option.some.injEq, Addr.mk.injEq] at hbo
      obtain ⟨rfl, rfl, _⟩ := hbo
      rw [Nat.zero_add] at hc
      have hrk : Rd w (some ⟨g, 0, none⟩) k (L.take k) := by
        refine ⟨by rw [List.length_take, unhide HLEN]; omega, fun i hi => ?_⟩
        obtain ⟨b, off, hbo, hc⟩ := hr.2 i (by omega)
        refine ⟨b, off, hbo, ?_⟩
        have e : (L.take k).getD i 0 = L.getD i 0 := by simp [List.getD_eq_getElem?_getD, hi]
        rw [e]; exact hc
      have HRK := hide hrk
      have HOA : Hid (onceAt L k = ! hasI (L.take k) (L.getD k 0)) := rfl
      have HM := hide (onceB_miss L k (by rw [unhide HLEN]; exact hlt))
      have HS := hide (onceB_step L k (unhide HA))
      generalize L.getD k 0 = x at hc HOA
      generalize hh : hasI (L.take k) x = bb at HOA
      have HH := hide hh
      clear hh hr hrk
      have hkc : (k : Int) ≤ (cap : Int) := by omega
      cases bb
      · go_wp2_with fail
        refine (containsInt_any _ k cap (L.take k) x w (unhide HRK) (by omega)).mono ?_
        rintro e w' ⟨rfl, hw⟩
        subst w'
        rw [unhide HH]
        go_wp2
        go_round
        case rel => exact ⟨k + 1, by omega, by go_num, (unhide HS) (by rw [unhide HOA]; rfl)⟩
        case measure => simp [intOf]; omega
      · go_wp2_with fail
        refine (containsInt_any _ k cap (L.take k) x w (unhide HRK) (by omega)).mono ?_
        rintro e w' ⟨rfl, hw⟩
        subst w'
        rw [unhide HH]
        go_wp2
        go_ret
        exact ⟨ret_bool ((unhide HM) (by rw [unhide HOA]; rfl)).symm, rfl⟩
    · go_wp2
      go_ret
      refine ⟨ret_bool ?_, rfl⟩
      unfold onceB
      rw [unhide HLEN, show n = k by omega]
      exact (unhide HA).symm
end Go.Proofs.YtlakbnpinennnaaGreatDoor
