/- The program's Class. -/
import Derived.Test.YtlakbnpinennnaaGreatDoorClassKinds
namespace Go.Proofs.YtlakbnpinennnaaGreatDoor
open Go.RowKit
set_option linter.unusedVariables false
set_option linter.unusedSimpArgs false

/-- The library's own variable that errors.As reads. -/
def ErrT (w : World) : Prop := w.cell? ⟨0, 0, none⟩ = some (.iface 178 (.agg #[.pointer (some ⟨1, 122, none⟩)]))
theorem ErrT.later {w w' : World} (h : ErrT w) (hb : Below w.heap.size w w') : ErrT w' := (hb.cell (World.block_lt_of_cell? w _ h)).trans h
set_option maxHeartbeats 2000000 in
theorem unitsOk_any (r : ReqV) (h : ReqH) (w : World) (hr : RdReq w r h) (hs : r.small) :
    Calls Tryz.prog 116 #[reqVal r h] w fun e w' => e = .returned (.bool (unitsB r)) ∧ Below w.heap.size w w' := by
  have htl : r.types.length ≤ 1048600 := by unfold ReqV.small at hs; omega
  have hil : r.items.length ≤ 1048600 := by unfold ReqV.small at hs; omega
  unfold reqVal
  go_enter Tryz.func116, Tryz.ntmps116
  go_wp2_with fail
  have hb : Below w.heap.size w (w.alloc (.cells #[.int .i64 r.way, .int .i64 r.pal.wd, .int .i64 r.pal.dp, .int .i64 r.pal.ht, .int .i64 r.pal.gram, .int .i64 r.classes, .slice h.ap r.pairs.length h.cp, .slice h.at' r.types.length h.ct, .int .i64 r.master, .slice h.ai r.items.length h.ci] 30)) := (Below.refl _ _).alloc (Nat.le_refl _) _
  have Kaw1 : Hid (Blk (w.alloc (.cells #[.int .i64 r.way, .int .i64 r.pal.wd, .int .i64 r.pal.dp, .int .i64 r.pal.ht, .int .i64 r.pal.gram, .int .i64 r.classes, .slice h.ap r.pairs.length h.cp, .slice h.at' r.types.length h.ct, .int .i64 r.master, .slice h.ai r.items.length h.ci] 30)) w.heap.size [.int .i64 r.way, .int .i64 r.pal.wd, .int .i64 r.pal.dp, .int .i64 r.pal.ht, .int .i64 r.pal.gram, .int .i64 r.classes, .slice h.ap r.pairs.length h.cp, .slice h.at' r.types.length h.ct, .int .i64 r.master, .slice h.ai r.items.length h.ci]) := Blk.allocAt [.int .i64 r.way, .int .i64 r.pal.wd, .int .i64 r.pal.dp, .int .i64 r.pal.ht, .int .i64 r.pal.gram, .int .i64 r.classes, .slice h.ap r.pairs.length h.cp, .slice h.at' r.types.length h.ct, .int .i64 r.master, .slice h.ai r.items.length h.ci] rfl
  have zaw1 : w.heap.size < (w.alloc (.cells #[.int .i64 r.way, .int .i64 r.pal.wd, .int .i64 r.pal.dp, .int .i64 r.pal.ht, .int .i64 r.pal.gram, .int .i64 r.classes, .slice h.ap r.pairs.length h.cp, .slice h.at' r.types.length h.ct, .int .i64 r.master, .slice h.ai r.items.length h.ci] 30)).heap.size := by simp
  generalize (w.alloc (.cells #[.int .i64 r.way, .int .i64 r.pal.wd, .int .i64 r.pal.dp, .int .i64 r.pal.ht, .int .i64 r.pal.gram, .int .i64 r.classes, .slice h.ap r.pairs.length h.cp, .slice h.at' r.types.length h.ct, .int .i64 r.master, .slice h.ai r.items.length h.ci] 30)) = w1 at *
  have Hw1 : Hid (Below w.heap.size w w1) := hb
  clear hb
  have Qrw1 : Hid (RdReq w1 r h) := hr.mono (unhide Hw1)
  have aw1_0 : w1.cell? ⟨w.heap.size, 0, none⟩ = some (.int .i64 r.way) := ((unhide Kaw1) 0 (by simp)).1
  have aw1_1 : w1.cell? ⟨w.heap.size, 1, none⟩ = some (.int .i64 r.pal.wd) := ((unhide Kaw1) 1 (by simp)).1
  have aw1_2 : w1.cell? ⟨w.heap.size, 2, none⟩ = some (.int .i64 r.pal.dp) := ((unhide Kaw1) 2 (by simp)).1
  have aw1_3 : w1.cell? ⟨w.heap.size, 3, none⟩ = some (.int .i64 r.pal.ht) := ((unhide Kaw1) 3 (by simp)).1
  have aw1_4 : w1.cell? ⟨w.heap.size, 4, none⟩ = some (.int .i64 r.pal.gram) := ((unhide Kaw1) 4 (by simp)).1
  have aw1_5 : w1.cell? ⟨w.heap.size, 5, none⟩ = some (.int .i64 r.classes) := ((unhide Kaw1) 5 (by simp)).1
  have aw1_6 : w1.cell? ⟨w.heap.size, 6, none⟩ = some (.slice h.ap r.pairs.length h.cp) := ((unhide Kaw1) 6 (by simp)).1
  have aw1_7 : w1.cell? ⟨w.heap.size, 7, none⟩ = some (.slice h.at' r.types.length h.ct) := ((unhide Kaw1) 7 (by simp)).1
  have aw1_8 : w1.cell? ⟨w.heap.size, 8, none⟩ = some (.int .i64 r.master) := ((unhide Kaw1) 8 (by simp)).1
  have aw1_9 : w1.cell? ⟨w.heap.size, 9, none⟩ = some (.slice h.ai r.items.length h.ci) := ((unhide Kaw1) 9 (by simp)).1
  refine (masterOf_any r h _ (unhide Qrw1) htl).mono ?_
  rintro e w2 ⟨rfl, hbw2⟩
  clear aw1_0 aw1_1 aw1_2 aw1_3 aw1_4 aw1_5 aw1_6 aw1_7 aw1_8 aw1_9
  have Hw2 : Hid (Below w.heap.size w w2) := (unhide Hw1).trans (hbw2.mono (unhide Hw1).size)
  have Kaw2 := hide (Blk.below hbw2 zaw1 (unhide Kaw1))
  have zaw2 : w.heap.size < w2.heap.size := Nat.lt_of_lt_of_le zaw1 hbw2.size
  have Qrw2 : Hid (RdReq w2 r h) := (unhide Qrw1).mono hbw2
  clear Hw1 Kaw1 zaw1 Qrw1
  clear hbw2
  have aw2_0 : w2.cell? ⟨w.heap.size, 0, none⟩ = some (.int .i64 r.way) := ((unhide Kaw2) 0 (by simp)).1
  have aw2_1 : w2.cell? ⟨w.heap.size, 1, none⟩ = some (.int .i64 r.pal.wd) := ((unhide Kaw2) 1 (by simp)).1
  have aw2_2 : w2.cell? ⟨w.heap.size, 2, none⟩ = some (.int .i64 r.pal.dp) := ((unhide Kaw2) 2 (by simp)).1
  have aw2_3 : w2.cell? ⟨w.heap.size, 3, none⟩ = some (.int .i64 r.pal.ht) := ((unhide Kaw2) 3 (by simp)).1
  have aw2_4 : w2.cell? ⟨w.heap.size, 4, none⟩ = some (.int .i64 r.pal.gram) := ((unhide Kaw2) 4 (by simp)).1
  have aw2_5 : w2.cell? ⟨w.heap.size, 5, none⟩ = some (.int .i64 r.classes) := ((unhide Kaw2) 5 (by simp)).1
  have aw2_6 : w2.cell? ⟨w.heap.size, 6, none⟩ = some (.slice h.ap r.pairs.length h.cp) := ((unhide Kaw2) 6 (by simp)).1
  have aw2_7 : w2.cell? ⟨w.heap.size, 7, none⟩ = some (.slice h.at' r.types.length h.ct) := ((unhide Kaw2) 7 (by simp)).1
  have aw2_8 : w2.cell? ⟨w.heap.size, 8, none⟩ = some (.int .i64 r.master) := ((unhide Kaw2) 8 (by simp)).1
  have aw2_9 : w2.cell? ⟨w.heap.size, 9, none⟩ = some (.slice h.ai r.items.length h.ci) := ((unhide Kaw2) 9 (by simp)).1
  go_wp2
  clear aw2_0 aw2_1 aw2_2 aw2_3 aw2_4 aw2_5 aw2_6 aw2_7 aw2_8 aw2_9
  have hb : Below w2.heap.size w2 (w2.alloc (.cells #[.int .i64 (masterV r).id, .int .i64 (masterV r).wd, .int .i64 (masterV r).ht, .int .i64 (masterV r).dp, .int .i64 (masterV r).tare, .int .i64 (masterV r).gram, .int .i64 (masterV r).cost] 69)) := (Below.refl _ _).alloc (Nat.le_refl _) _
  have Ktw3 : Hid (Blk (w2.alloc (.cells #[.int .i64 (masterV r).id, .int .i64 (masterV r).wd, .int .i64 (masterV r).ht, .int .i64 (masterV r).dp, .int .i64 (masterV r).tare, .int .i64 (masterV r).gram, .int .i64 (masterV r).cost] 69)) w2.heap.size [.int .i64 (masterV r).id, .int .i64 (masterV r).wd, .int .i64 (masterV r).ht, .int .i64 (masterV r).dp, .int .i64 (masterV r).tare, .int .i64 (masterV r).gram, .int .i64 (masterV r).cost]) := Blk.allocAt [.int .i64 (masterV r).id, .int .i64 (masterV r).wd, .int .i64 (masterV r).ht, .int .i64 (masterV r).dp, .int .i64 (masterV r).tare, .int .i64 (masterV r).gram, .int .i64 (masterV r).cost] rfl
  have ztw3 : w2.heap.size < (w2.alloc (.cells #[.int .i64 (masterV r).id, .int .i64 (masterV r).wd, .int .i64 (masterV r).ht, .int .i64 (masterV r).dp, .int .i64 (masterV r).tare, .int .i64 (masterV r).gram, .int .i64 (masterV r).cost] 69)).heap.size := by simp
  generalize (w2.alloc (.cells #[.int .i64 (masterV r).id, .int .i64 (masterV r).wd, .int .i64 (masterV r).ht, .int .i64 (masterV r).dp, .int .i64 (masterV r).tare, .int .i64 (masterV r).gram, .int .i64 (masterV r).cost] 69)) = w3 at *
  have Hw3 : Hid (Below w.heap.size w w3) := (unhide Hw2).trans (hb.mono (unhide Hw2).size)
  have Kaw3 := hide (Blk.below hb zaw2 (unhide Kaw2))
  have zaw3 : w.heap.size < w3.heap.size := Nat.lt_of_lt_of_le zaw2 hb.size
  have Qrw3 : Hid (RdReq w3 r h) := (unhide Qrw2).mono hb
  clear Hw2 Kaw2 zaw2 Qrw2
  clear hb
  have HI : Hid (RdR ItemV.cells 7 w3 h.ai r.items.length r.items) := (unhide Qrw3).2.2
  clear Qrw3
  have KA := Kaw3
  clear Kaw3 hr
  generalize h.ai = ia at *
  have HUN : Hid (unitsB r = r.items.all (fitsM (masterV r))) := rfl
  generalize masterV r = m at *
  go_loopw [15] (fun i wr => ∃ k : Nat, k ≤ r.items.length ∧ i = .int .i64 (k : Int) ∧ (r.items.take k).all (fitsM m) = true ∧ Below w3.heap.size w3 wr) (fun i _ => r.items.length - (intOf i).toNat)
  case atStart => exact ⟨0, Nat.zero_le _, rfl, rfl, Below.refl _ _⟩
  case round =>
    obtain ⟨k, hk, rfl, hall, hb⟩ := hrel
    have T1 := Blk.below hb ztw3 (unhide Ktw3)
    have t0 : wr.cell? ⟨w2.heap.size, 0, none⟩ = some (.int .i64 m.id) := (T1 0 (by simp)).1
    have t1 : wr.cell? ⟨w2.heap.size, 1, none⟩ = some (.int .i64 m.wd) := (T1 1 (by simp)).1
    have t2 : wr.cell? ⟨w2.heap.size, 2, none⟩ = some (.int .i64 m.ht) := (T1 2 (by simp)).1
    have t3 : wr.cell? ⟨w2.heap.size, 3, none⟩ = some (.int .i64 m.dp) := (T1 3 (by simp)).1
    have t4 : wr.cell? ⟨w2.heap.size, 4, none⟩ = some (.int .i64 m.tare) := (T1 4 (by simp)).1
    have t5 : wr.cell? ⟨w2.heap.size, 5, none⟩ = some (.int .i64 m.gram) := (T1 5 (by simp)).1
    have t6 : wr.cell? ⟨w2.heap.size, 6, none⟩ = some (.int .i64 m.cost) := (T1 6 (by simp)).1
    have z0 : w2.heap.size < wr.heap.size := Nat.lt_of_lt_of_le ztw3 hb.size
    have HBB := hide hb
    by_cases hlt : k < r.items.length
    · obtain ⟨b, off, rfl, hc⟩ := (unhide HI).2 k hlt
      have HST := hide (all_step (fitsM m) r.items k hlt hall)
      have HFE := hide (all_fell (fitsM m) r.items k hlt)
      generalize r.items.getD k default = q at hc HST HFE
      have d0 : wr.cell? ⟨b, off + k * 7, none⟩ = some (.int .i64 q.id) := (hb.cell (World.block_lt_of_cell? _ _ (hc 0 (by omega)))).trans (hc 0 (by omega))
      have d1 : wr.cell? ⟨b, off + k * 7 + 1, none⟩ = some (.int .i64 q.wd) := (hb.cell (World.block_lt_of_cell? _ _ (hc 1 (by omega)))).trans (hc 1 (by omega))
      have d2 : wr.cell? ⟨b, off + k * 7 + 2, none⟩ = some (.int .i64 q.ht) := (hb.cell (World.block_lt_of_cell? _ _ (hc 2 (by omega)))).trans (hc 2 (by omega))
      have d3 : wr.cell? ⟨b, off + k * 7 + 3, none⟩ = some (.int .i64 q.dp) := (hb.cell (World.block_lt_of_cell? _ _ (hc 3 (by omega)))).trans (hc 3 (by omega))
      have d4 : wr.cell? ⟨b, off + k * 7 + 4, none⟩ = some (.int .i64 q.gram) := (hb.cell (World.block_lt_of_cell? _ _ (hc 4 (by omega)))).trans (hc 4 (by omega))
      have d5 : wr.cell? ⟨b, off + k * 7 + 5, none⟩ = some (.int .i64 q.cls) := (hb.cell (World.block_lt_of_cell? _ _ (hc 5 (by omega)))).trans (hc 5 (by omega))
      have d6 : wr.cell? ⟨b, off + k * 7 + 6, none⟩ = some (.int .i64 q.cnt) := (hb.cell (World.block_lt_of_cell? _ _ (hc 6 (by omega)))).trans (hc 6 (by omega))
      clear hc hb hall T1
      go_wp2_with fail
      refine (fits_any q m _).mono ?_
      rintro e w9 ⟨rfl, hb9⟩
      have H9 := hide (bw_call (bw_alloc (unhide HBB) _) hb9)
      clear hb9
      cases hf : fitsB q m
      · have HF := hide ((unhide HFE) hf)
        go_wp2
        go_ret
        refine ⟨ret_bool ?_, (unhide Hw3).trans ((unhide H9).mono (unhide Hw3).size)⟩
        rw [unhide HUN, unhide HF]
      · have HF := hide ((unhide HST) hf)
        go_wp2
        go_roundw
        case rel => exact ⟨k + 1, by omega, by go_num, unhide HF, unhide H9⟩
        case measure => simp [intOf]; omega
    · have HIA := hide (all_whole (fitsM m) r.items k (by omega) hall)
      go_wp2
      go_ret
      refine ⟨ret_bool ?_, (unhide Hw3).trans (hb.mono (unhide Hw3).size)⟩
      rw [unhide HUN, unhide HIA]
set_option maxHeartbeats 2000000 in
theorem loadsOk_any (r : ReqV) (h : ReqH) (w : World) (hr : RdReq w r h) (hs : r.small) (hok : boundsB r = true) :
    Calls Tryz.prog 117 #[reqVal r h] w fun e w' => e = .returned (.bool (loadsB r)) ∧ Below w.heap.size w w' := by
  have htl : r.types.length ≤ 1048600 := by unfold ReqV.small at hs; omega
  have HN := hide (pal_nums r hok)
  have hty := hr.2.1
  clear hr hok
  unfold reqVal
  generalize h.at' = ta at *
  go_enter Tryz.func117, Tryz.ntmps117
  go_wp2
  have hb : Below w.heap.size w (w.alloc (.cells #[.int .i64 r.way, .int .i64 r.pal.wd, .int .i64 r.pal.dp, .int .i64 r.pal.ht, .int .i64 r.pal.gram, .int .i64 r.classes, .slice h.ap r.pairs.length h.cp, .slice ta r.types.length h.ct, .int .i64 r.master, .slice h.ai r.items.length h.ci] 30)) := (Below.refl _ _).alloc (Nat.le_refl _) _
  have Kaw1 : Hid (Blk (w.alloc (.cells #[.int .i64 r.way, .int .i64 r.pal.wd, .int .i64 r.pal.dp, .int .i64 r.pal.ht, .int .i64 r.pal.gram, .int .i64 r.classes, .slice h.ap r.pairs.length h.cp, .slice ta r.types.length h.ct, .int .i64 r.master, .slice h.ai r.items.length h.ci] 30)) w.heap.size [.int .i64 r.way, .int .i64 r.pal.wd, .int .i64 r.pal.dp, .int .i64 r.pal.ht, .int .i64 r.pal.gram, .int .i64 r.classes, .slice h.ap r.pairs.length h.cp, .slice ta r.types.length h.ct, .int .i64 r.master, .slice h.ai r.items.length h.ci]) := Blk.allocAt [.int .i64 r.way, .int .i64 r.pal.wd, .int .i64 r.pal.dp, .int .i64 r.pal.ht, .int .i64 r.pal.gram, .int .i64 r.classes, .slice h.ap r.pairs.length h.cp, .slice ta r.types.length h.ct, .int .i64 r.master, .slice h.ai r.items.length h.ci] rfl
  have zaw1 : w.heap.size < (w.alloc (.cells #[.int .i64 r.way, .int .i64 r.pal.wd, .int .i64 r.pal.dp, .int .i64 r.pal.ht, .int .i64 r.pal.gram, .int .i64 r.classes, .slice h.ap r.pairs.length h.cp, .slice ta r.types.length h.ct, .int .i64 r.master, .slice h.ai r.items.length h.ci] 30)).heap.size := by simp
  generalize (w.alloc (.cells #[.int .i64 r.way, .int .i64 r.pal.wd, .int .i64 r.pal.dp, .int .i64 r.pal.ht, .int .i64 r.pal.gram, .int .i64 r.classes, .slice h.ap r.pairs.length h.cp, .slice ta r.types.length h.ct, .int .i64 r.master, .slice h.ai r.items.length h.ci] 30)) = w1 at *
  have Hw1 : Hid (Below w.heap.size w w1) := hb
  clear hb
  have HT : Hid (RdR TypeV.cells 7 w1 ta r.types.length r.types) := hty.mono (by omega) TypeV.len ((unhide Hw1).mono (Nat.le_refl _))
  clear hty
  have HUN : Hid (loadsB r = r.types.all (standsB r.pal)) := rfl
  go_loopw [8] (fun i wr => ∃ k : Nat, k ≤ r.types.length ∧ i = .int .i64 (k : Int) ∧ (r.types.take k).all (standsB r.pal) = true ∧ Below w1.heap.size w1 wr) (fun i _ => r.types.length - (intOf i).toNat)
  case atStart => exact ⟨0, Nat.zero_le _, rfl, rfl, Below.refl _ _⟩
  case round =>
    obtain ⟨k, hk, rfl, hall, hb⟩ := hrel
    have A1 := Blk.below hb zaw1 (unhide Kaw1)
    have a1 : wr.cell? ⟨w.heap.size, 1, none⟩ = some (.int .i64 r.pal.wd) := (A1 1 (by simp)).1
    have a2 : wr.cell? ⟨w.heap.size, 2, none⟩ = some (.int .i64 r.pal.dp) := (A1 2 (by simp)).1
    have a3 : wr.cell? ⟨w.heap.size, 3, none⟩ = some (.int .i64 r.pal.ht) := (A1 3 (by simp)).1
    have a4 : wr.cell? ⟨w.heap.size, 4, none⟩ = some (.int .i64 r.pal.gram) := (A1 4 (by simp)).1
    have z0 : w.heap.size < wr.heap.size := Nat.lt_of_lt_of_le zaw1 hb.size
    have HBB := hide hb
    by_cases hlt : k < r.types.length
    · obtain ⟨b, off, rfl, hc⟩ := (unhide HT).2 k hlt
      have HST := hide (all_step (standsB r.pal) r.types k hlt hall)
      have HFE := hide (all_fell (standsB r.pal) r.types k hlt)
      have hq := (unhide HN) (r.types.getD k default) (mem_getD r.types k hlt)
      generalize r.types.getD k default = q at hc HST HFE hq
      have HQ := hide hq
      clear hq
      have d0 : wr.cell? ⟨b, off + k * 7, none⟩ = some (.int .i64 q.id) := (hb.cell (World.block_lt_of_cell? _ _ (hc 0 (by omega)))).trans (hc 0 (by omega))
      have d1 : wr.cell? ⟨b, off + k * 7 + 1, none⟩ = some (.int .i64 q.wd) := (hb.cell (World.block_lt_of_cell? _ _ (hc 1 (by omega)))).trans (hc 1 (by omega))
      have d2 : wr.cell? ⟨b, off + k * 7 + 2, none⟩ = some (.int .i64 q.ht) := (hb.cell (World.block_lt_of_cell? _ _ (hc 2 (by omega)))).trans (hc 2 (by omega))
      have d3 : wr.cell? ⟨b, off + k * 7 + 3, none⟩ = some (.int .i64 q.dp) := (hb.cell (World.block_lt_of_cell? _ _ (hc 3 (by omega)))).trans (hc 3 (by omega))
      have d4 : wr.cell? ⟨b, off + k * 7 + 4, none⟩ = some (.int .i64 q.tare) := (hb.cell (World.block_lt_of_cell? _ _ (hc 4 (by omega)))).trans (hc 4 (by omega))
      have d5 : wr.cell? ⟨b, off + k * 7 + 5, none⟩ = some (.int .i64 q.gram) := (hb.cell (World.block_lt_of_cell? _ _ (hc 5 (by omega)))).trans (hc 5 (by omega))
      have d6 : wr.cell? ⟨b, off + k * 7 + 6, none⟩ = some (.int .i64 q.cost) := (hb.cell (World.block_lt_of_cell? _ _ (hc 6 (by omega)))).trans (hc 6 (by omega))
      clear hc hb hall A1
      go_wp2_with fail
      refine (standsOn_any r.pal q _ (unhide HQ).1 (unhide HQ).2.1 (unhide HQ).2.2.1 (unhide HQ).2.2.2).mono ?_
      rintro e w9 ⟨rfl, hb9⟩
      have H9 := hide (bw_call (bw_alloc (unhide HBB) _) hb9)
      clear hb9
      cases hf : standsB r.pal q
      · have HF := hide ((unhide HFE) hf)
        go_wp2
        go_ret
        refine ⟨ret_bool ?_, (unhide Hw1).trans ((unhide H9).mono (unhide Hw1).size)⟩
        rw [unhide HUN, unhide HF]
      · have HF := hide ((unhide HST) hf)
        go_wp2
        go_roundw
        case rel => exact ⟨k + 1, by omega, by go_num, unhide HF, unhide H9⟩
        case measure => simp [intOf]; omega
    · have HIA := hide (all_whole (standsB r.pal) r.types k (by omega) hall)
      go_wp2
      go_ret
      refine ⟨ret_bool ?_, (unhide Hw1).trans (hb.mono (unhide Hw1).size)⟩
      rw [unhide HUN, unhide HIA]
theorem names_no {r : ReqV} (h : masterB r = false ∨ onceB (idsT r.types) = false ∨ onceB (idsI r.items) = false) : namesB r = false := by
  rcases h with h | h | h <;> simp [namesB, h]
theorem names_eq {r : ReqV} (h0 : masterB r = true) (h1 : onceB (idsT r.types) = true) (h2 : onceB (idsI r.items) = true) : namesB r = kindsB r := by simp [namesB, h0, h1, h2]
set_option maxHeartbeats 2000000 in
theorem namesOk_any (r : ReqV) (h : ReqH) (w : World) (hr : RdReq w r h) (hs : r.small) :
    Calls Tryz.prog 114 #[reqVal r h] w fun e w' => e = .returned (.bool (namesB r)) ∧ Below w.heap.size w w' := by
  have htl : r.types.length ≤ 1048600 := by unfold ReqV.small at hs; omega
  have hil : r.items.length ≤ 1048600 := by unfold ReqV.small at hs; omega
  unfold reqVal
  go_enter Tryz.func114, Tryz.ntmps114
  go_wp2_with fail
  have hb : Below w.heap.size w (w.alloc (.cells #[.int .i64 r.way, .int .i64 r.pal.wd, .int .i64 r.pal.dp, .int .i64 r.pal.ht, .int .i64 r.pal.gram, .int .i64 r.classes, .slice h.ap r.pairs.length h.cp, .slice h.at' r.types.length h.ct, .int .i64 r.master, .slice h.ai r.items.length h.ci] 30)) := (Below.refl _ _).alloc (Nat.le_refl _) _
  have Kaw1 : Hid (Blk (w.alloc (.cells #[.int .i64 r.way, .int .i64 r.pal.wd, .int .i64 r.pal.dp, .int .i64 r.pal.ht, .int .i64 r.pal.gram, .int .i64 r.classes, .slice h.ap r.pairs.length h.cp, .slice h.at' r.types.length h.ct, .int .i64 r.master, .slice h.ai r.items.length h.ci] 30)) w.heap.size [.int .i64 r.way, .int .i64 r.pal.wd, .int .i64 r.pal.dp, .int .i64 r.pal.ht, .int .i64 r.pal.gram, .int .i64 r.classes, .slice h.ap r.pairs.length h.cp, .slice h.at' r.types.length h.ct, .int .i64 r.master, .slice h.ai r.items.length h.ci]) := Blk.allocAt [.int .i64 r.way, .int .i64 r.pal.wd, .int .i64 r.pal.dp, .int .i64 r.pal.ht, .int .i64 r.pal.gram, .int .i64 r.classes, .slice h.ap r.pairs.length h.cp, .slice h.at' r.types.length h.ct, .int .i64 r.master, .slice h.ai r.items.length h.ci] rfl
  have zaw1 : w.heap.size < (w.alloc (.cells #[.int .i64 r.way, .int .i64 r.pal.wd, .int .i64 r.pal.dp, .int .i64 r.pal.ht, .int .i64 r.pal.gram, .int .i64 r.classes, .slice h.ap r.pairs.length h.cp, .slice h.at' r.types.length h.ct, .int .i64 r.master, .slice h.ai r.items.length h.ci] 30)).heap.size := by simp
  generalize (w.alloc (.cells #[.int .i64 r.way, .int .i64 r.pal.wd, .int .i64 r.pal.dp, .int .i64 r.pal.ht, .int .i64 r.pal.gram, .int .i64 r.classes, .slice h.ap r.pairs.length h.cp, .slice h.at' r.types.length h.ct, .int .i64 r.master, .slice h.ai r.items.length h.ci] 30)) = w1 at *
  have Hw1 : Hid (Below w.heap.size w w1) := hb
  clear hb
  have Qrw1 : Hid (RdReq w1 r h) := hr.mono (unhide Hw1)
  have aw1_0 : w1.cell? ⟨w.heap.size, 0, none⟩ = some (.int .i64 r.way) := ((unhide Kaw1) 0 (by simp)).1
  have aw1_1 : w1.cell? ⟨w.heap.size, 1, none⟩ = some (.int .i64 r.pal.wd) := ((unhide Kaw1) 1 (by simp)).1
  have aw1_2 : w1.cell? ⟨w.heap.size, 2, none⟩ = some (.int .i64 r.pal.dp) := ((unhide Kaw1) 2 (by simp)).1
  have aw1_3 : w1.cell? ⟨w.heap.size, 3, none⟩ = some (.int .i64 r.pal.ht) := ((unhide Kaw1) 3 (by simp)).1
  have aw1_4 : w1.cell? ⟨w.heap.size, 4, none⟩ = some (.int .i64 r.pal.gram) := ((unhide Kaw1) 4 (by simp)).1
  have aw1_5 : w1.cell? ⟨w.heap.size, 5, none⟩ = some (.int .i64 r.classes) := ((unhide Kaw1) 5 (by simp)).1
  have aw1_6 : w1.cell? ⟨w.heap.size, 6, none⟩ = some (.slice h.ap r.pairs.length h.cp) := ((unhide Kaw1) 6 (by simp)).1
  have aw1_7 : w1.cell? ⟨w.heap.size, 7, none⟩ = some (.slice h.at' r.types.length h.ct) := ((unhide Kaw1) 7 (by simp)).1
  have aw1_8 : w1.cell? ⟨w.heap.size, 8, none⟩ = some (.int .i64 r.master) := ((unhide Kaw1) 8 (by simp)).1
  have aw1_9 : w1.cell? ⟨w.heap.size, 9, none⟩ = some (.slice h.ai r.items.length h.ci) := ((unhide Kaw1) 9 (by simp)).1
  refine (masterOf_any r h _ (unhide Qrw1) htl).mono ?_
  rintro e w2 ⟨rfl, hbw2⟩
  clear aw1_0 aw1_1 aw1_2 aw1_3 aw1_4 aw1_5 aw1_6 aw1_7 aw1_8 aw1_9
  have Hw2 : Hid (Below w.heap.size w w2) := (unhide Hw1).trans (hbw2.mono (unhide Hw1).size)
  have Kaw2 := hide (Blk.below hbw2 zaw1 (unhide Kaw1))
  have zaw2 : w.heap.size < w2.heap.size := Nat.lt_of_lt_of_le zaw1 hbw2.size
  have Qrw2 : Hid (RdReq w2 r h) := (unhide Qrw1).mono hbw2
  clear Hw1 Kaw1 zaw1 Qrw1
  clear hbw2
  cases hm : masterB r
  · have aw2_0 : w2.cell? ⟨w.heap.size, 0, none⟩ = some (.int .i64 r.way) := ((unhide Kaw2) 0 (by simp)).1
    have aw2_1 : w2.cell? ⟨w.heap.size, 1, none⟩ = some (.int .i64 r.pal.wd) := ((unhide Kaw2) 1 (by simp)).1
    have aw2_2 : w2.cell? ⟨w.heap.size, 2, none⟩ = some (.int .i64 r.pal.dp) := ((unhide Kaw2) 2 (by simp)).1
    have aw2_3 : w2.cell? ⟨w.heap.size, 3, none⟩ = some (.int .i64 r.pal.ht) := ((unhide Kaw2) 3 (by simp)).1
    have aw2_4 : w2.cell? ⟨w.heap.size, 4, none⟩ = some (.int .i64 r.pal.gram) := ((unhide Kaw2) 4 (by simp)).1
    have aw2_5 : w2.cell? ⟨w.heap.size, 5, none⟩ = some (.int .i64 r.classes) := ((unhide Kaw2) 5 (by simp)).1
    have aw2_6 : w2.cell? ⟨w.heap.size, 6, none⟩ = some (.slice h.ap r.pairs.length h.cp) := ((unhide Kaw2) 6 (by simp)).1
    have aw2_7 : w2.cell? ⟨w.heap.size, 7, none⟩ = some (.slice h.at' r.types.length h.ct) := ((unhide Kaw2) 7 (by simp)).1
    have aw2_8 : w2.cell? ⟨w.heap.size, 8, none⟩ = some (.int .i64 r.master) := ((unhide Kaw2) 8 (by simp)).1
    have aw2_9 : w2.cell? ⟨w.heap.size, 9, none⟩ = some (.slice h.ai r.items.length h.ci) := ((unhide Kaw2) 9 (by simp)).1
    go_wp2
    go_ret
    refine ⟨ret_bool (names_no (Or.inl hm)).symm, ?_⟩
    exact (by first | exact unhide Hw2 | exact (unhide Hw2).alloc (unhide Hw2).size _)
  have HM := hide hm
  clear hm
  have aw2_0 : w2.cell? ⟨w.heap.size, 0, none⟩ = some (.int .i64 r.way) := ((unhide Kaw2) 0 (by simp)).1
  have aw2_1 : w2.cell? ⟨w.heap.size, 1, none⟩ = some (.int .i64 r.pal.wd) := ((unhide Kaw2) 1 (by simp)).1
  have aw2_2 : w2.cell? ⟨w.heap.size, 2, none⟩ = some (.int .i64 r.pal.dp) := ((unhide Kaw2) 2 (by simp)).1
  have aw2_3 : w2.cell? ⟨w.heap.size, 3, none⟩ = some (.int .i64 r.pal.ht) := ((unhide Kaw2) 3 (by simp)).1
  have aw2_4 : w2.cell? ⟨w.heap.size, 4, none⟩ = some (.int .i64 r.pal.gram) := ((unhide Kaw2) 4 (by simp)).1
  have aw2_5 : w2.cell? ⟨w.heap.size, 5, none⟩ = some (.int .i64 r.classes) := ((unhide Kaw2) 5 (by simp)).1
  have aw2_6 : w2.cell? ⟨w.heap.size, 6, none⟩ = some (.slice h.ap r.pairs.length h.cp) := ((unhide Kaw2) 6 (by simp)).1
  have aw2_7 : w2.cell? ⟨w.heap.size, 7, none⟩ = some (.slice h.at' r.types.length h.ct) := ((unhide Kaw2) 7 (by simp)).1
  have aw2_8 : w2.cell? ⟨w.heap.size, 8, none⟩ = some (.int .i64 r.master) := ((unhide Kaw2) 8 (by simp)).1
  have aw2_9 : w2.cell? ⟨w.heap.size, 9, none⟩ = some (.slice h.ai r.items.length h.ci) := ((unhide Kaw2) 9 (by simp)).1
  go_wp2_with fail
  clear aw2_0 aw2_1 aw2_2 aw2_3 aw2_4 aw2_5 aw2_6 aw2_7 aw2_8 aw2_9
  have hb : Below w2.heap.size w2 (w2.alloc (.cells #[.int .i64 (masterV r).id, .int .i64 (masterV r).wd, .int .i64 (masterV r).ht, .int .i64 (masterV r).dp, .int .i64 (masterV r).tare, .int .i64 (masterV r).gram, .int .i64 (masterV r).cost] 69)) := (Below.refl _ _).alloc (Nat.le_refl _) _
  have Ktw3 : Hid (Blk (w2.alloc (.cells #[.int .i64 (masterV r).id, .int .i64 (masterV r).wd, .int .i64 (masterV r).ht, .int .i64 (masterV r).dp, .int .i64 (masterV r).tare, .int .i64 (masterV r).gram, .int .i64 (masterV r).cost] 69)) w2.heap.size [.int .i64 (masterV r).id, .int .i64 (masterV r).wd, .int .i64 (masterV r).ht, .int .i64 (masterV r).dp, .int .i64 (masterV r).tare, .int .i64 (masterV r).gram, .int .i64 (masterV r).cost]) := Blk.allocAt [.int .i64 (masterV r).id, .int .i64 (masterV r).wd, .int .i64 (masterV r).ht, .int .i64 (masterV r).dp, .int .i64 (masterV r).tare, .int .i64 (masterV r).gram, .int .i64 (masterV r).cost] rfl
  have ztw3 : w2.heap.size < (w2.alloc (.cells #[.int .i64 (masterV r).id, .int .i64 (masterV r).wd, .int .i64 (masterV r).ht, .int .i64 (masterV r).dp, .int .i64 (masterV r).tare, .int .i64 (masterV r).gram, .int .i64 (masterV r).cost] 69)).heap.size := by simp
  generalize (w2.alloc (.cells #[.int .i64 (masterV r).id, .int .i64 (masterV r).wd, .int .i64 (masterV r).ht, .int .i64 (masterV r).dp, .int .i64 (masterV r).tare, .int .i64 (masterV r).gram, .int .i64 (masterV r).cost] 69)) = w3 at *
  have Hw3 : Hid (Below w.heap.size w w3) := (unhide Hw2).trans (hb.mono (unhide Hw2).size)
  have Kaw3 := hide (Blk.below hb zaw2 (unhide Kaw2))
  have zaw3 : w.heap.size < w3.heap.size := Nat.lt_of_lt_of_le zaw2 hb.size
  have Qrw3 : Hid (RdReq w3 r h) := (unhide Qrw2).mono hb
  clear Hw2 Kaw2 zaw2 Qrw2
  clear hb
  clear Ktw3 ztw3
  refine (typeIds_any _ _ _ r.types _ (unhide Qrw3).2.1 htl).mono ?_
  rintro e w4 ⟨g1, c1, rfl, ho1, hbw4⟩
  have hcap1 := own_cap ho1
  have HR1 := hide (Rd.of_owns ho1)
  clear ho1
  have Hw4 : Hid (Below w.heap.size w w4) := (unhide Hw3).trans (hbw4.mono (unhide Hw3).size)
  have Kaw4 := hide (Blk.below hbw4 zaw3 (unhide Kaw3))
  have zaw4 : w.heap.size < w4.heap.size := Nat.lt_of_lt_of_le zaw3 hbw4.size
  have Qrw4 : Hid (RdReq w4 r h) := (unhide Qrw3).mono hbw4
  clear Hw3 Kaw3 zaw3 Qrw3
  clear hbw4
  go_wp2_with fail
  refine (eachOnce_any g1 _ c1 (idsT r.types) _ (unhide HR1) htl hcap1.1 hcap1.2).mono ?_
  rintro e w' ⟨rfl, hw⟩
  subst w'
  cases hm1 : onceB (idsT r.types)
  · have aw4_0 : w4.cell? ⟨w.heap.size, 0, none⟩ = some (.int .i64 r.way) := ((unhide Kaw4) 0 (by simp)).1
    have aw4_1 : w4.cell? ⟨w.heap.size, 1, none⟩ = some (.int .i64 r.pal.wd) := ((unhide Kaw4) 1 (by simp)).1
    have aw4_2 : w4.cell? ⟨w.heap.size, 2, none⟩ = some (.int .i64 r.pal.dp) := ((unhide Kaw4) 2 (by simp)).1
    have aw4_3 : w4.cell? ⟨w.heap.size, 3, none⟩ = some (.int .i64 r.pal.ht) := ((unhide Kaw4) 3 (by simp)).1
    have aw4_4 : w4.cell? ⟨w.heap.size, 4, none⟩ = some (.int .i64 r.pal.gram) := ((unhide Kaw4) 4 (by simp)).1
    have aw4_5 : w4.cell? ⟨w.heap.size, 5, none⟩ = some (.int .i64 r.classes) := ((unhide Kaw4) 5 (by simp)).1
    have aw4_6 : w4.cell? ⟨w.heap.size, 6, none⟩ = some (.slice h.ap r.pairs.length h.cp) := ((unhide Kaw4) 6 (by simp)).1
    have aw4_7 : w4.cell? ⟨w.heap.size, 7, none⟩ = some (.slice h.at' r.types.length h.ct) := ((unhide Kaw4) 7 (by simp)).1
    have aw4_8 : w4.cell? ⟨w.heap.size, 8, none⟩ = some (.int .i64 r.master) := ((unhide Kaw4) 8 (by simp)).1
    have aw4_9 : w4.cell? ⟨w.heap.size, 9, none⟩ = some (.slice h.ai r.items.length h.ci) := ((unhide Kaw4) 9 (by simp)).1
    go_wp2
    go_ret
    refine ⟨ret_bool (names_no (Or.inr (Or.inl hm1))).symm, ?_⟩
    exact (by first | exact unhide Hw4 | exact (unhide Hw4).alloc (unhide Hw4).size _)
  have HM1 := hide hm1
  clear hm1 HR1 hcap1
  have aw4_0 : w4.cell? ⟨w.heap.size, 0, none⟩ = some (.int .i64 r.way) := ((unhide Kaw4) 0 (by simp)).1
  have aw4_1 : w4.cell? ⟨w.heap.size, 1, none⟩ = some (.int .i64 r.pal.wd) := ((unhide Kaw4) 1 (by simp)).1
  have aw4_2 : w4.cell? ⟨w.heap.size, 2, none⟩ = some (.int .i64 r.pal.dp) := ((unhide Kaw4) 2 (by simp)).1
  have aw4_3 : w4.cell? ⟨w.heap.size, 3, none⟩ = some (.int .i64 r.pal.ht) := ((unhide Kaw4) 3 (by simp)).1
  have aw4_4 : w4.cell? ⟨w.heap.size, 4, none⟩ = some (.int .i64 r.pal.gram) := ((unhide Kaw4) 4 (by simp)).1
  have aw4_5 : w4.cell? ⟨w.heap.size, 5, none⟩ = some (.int .i64 r.classes) := ((unhide Kaw4) 5 (by simp)).1
  have aw4_6 : w4.cell? ⟨w.heap.size, 6, none⟩ = some (.slice h.ap r.pairs.length h.cp) := ((unhide Kaw4) 6 (by simp)).1
  have aw4_7 : w4.cell? ⟨w.heap.size, 7, none⟩ = some (.slice h.at' r.types.length h.ct) := ((unhide Kaw4) 7 (by simp)).1
  have aw4_8 : w4.cell? ⟨w.heap.size, 8, none⟩ = some (.int .i64 r.master) := ((unhide Kaw4) 8 (by simp)).1
  have aw4_9 : w4.cell? ⟨w.heap.size, 9, none⟩ = some (.slice h.ai r.items.length h.ci) := ((unhide Kaw4) 9 (by simp)).1
  go_wp2_with fail
  refine (itemIds_any _ _ _ r.items _ (unhide Qrw4).2.2 hil).mono ?_
  rintro e w5 ⟨g2, c2, rfl, ho2, hbw5⟩
  clear aw4_0 aw4_1 aw4_2 aw4_3 aw4_4 aw4_5 aw4_6 aw4_7 aw4_8 aw4_9
  have hcap2 := own_cap ho2
  have HR2 := hide (Rd.of_owns ho2)
  clear ho2
  have Hw5 : Hid (Below w.heap.size w w5) := (unhide Hw4).trans (hbw5.mono (unhide Hw4).size)
  have Kaw5 := hide (Blk.below hbw5 zaw4 (unhide Kaw4))
  have zaw5 : w.heap.size < w5.heap.size := Nat.lt_of_lt_of_le zaw4 hbw5.size
  have Qrw5 : Hid (RdReq w5 r h) := (unhide Qrw4).mono hbw5
  clear Hw4 Kaw4 zaw4 Qrw4
  clear hbw5
  go_wp2_with fail
  refine (eachOnce_any g2 _ c2 (idsI r.items) _ (unhide HR2) hil hcap2.1 hcap2.2).mono ?_
  rintro e w' ⟨rfl, hw⟩
  subst w'
  cases hm2 : onceB (idsI r.items)
  · have aw5_0 : w5.cell? ⟨w.heap.size, 0, none⟩ = some (.int .i64 r.way) := ((unhide Kaw5) 0 (by simp)).1
    have aw5_1 : w5.cell? ⟨w.heap.size, 1, none⟩ = some (.int .i64 r.pal.wd) := ((unhide Kaw5) 1 (by simp)).1
    have aw5_2 : w5.cell? ⟨w.heap.size, 2, none⟩ = some (.int .i64 r.pal.dp) := ((unhide Kaw5) 2 (by simp)).1
    have aw5_3 : w5.cell? ⟨w.heap.size, 3, none⟩ = some (.int .i64 r.pal.ht) := ((unhide Kaw5) 3 (by simp)).1
    have aw5_4 : w5.cell? ⟨w.heap.size, 4, none⟩ = some (.int .i64 r.pal.gram) := ((unhide Kaw5) 4 (by simp)).1
    have aw5_5 : w5.cell? ⟨w.heap.size, 5, none⟩ = some (.int .i64 r.classes) := ((unhide Kaw5) 5 (by simp)).1
    have aw5_6 : w5.cell? ⟨w.heap.size, 6, none⟩ = some (.slice h.ap r.pairs.length h.cp) := ((unhide Kaw5) 6 (by simp)).1
    have aw5_7 : w5.cell? ⟨w.heap.size, 7, none⟩ = some (.slice h.at' r.types.length h.ct) := ((unhide Kaw5) 7 (by simp)).1
    have aw5_8 : w5.cell? ⟨w.heap.size, 8, none⟩ = some (.int .i64 r.master) := ((unhide Kaw5) 8 (by simp)).1
    have aw5_9 : w5.cell? ⟨w.heap.size, 9, none⟩ = some (.slice h.ai r.items.length h.ci) := ((unhide Kaw5) 9 (by simp)).1
    go_wp2
    go_ret
    refine ⟨ret_bool (names_no (Or.inr (Or.inr hm2))).symm, ?_⟩
    exact (by first | exact unhide Hw5 | exact (unhide Hw5).alloc (unhide Hw5).size _)
  have HM2 := hide hm2
  clear hm2 HR2 hcap2
  have aw5_0 : w5.cell? ⟨w.heap.size, 0, none⟩ = some (.int .i64 r.way) := ((unhide Kaw5) 0 (by simp)).1
  have aw5_1 : w5.cell? ⟨w.heap.size, 1, none⟩ = some (.int .i64 r.pal.wd) := ((unhide Kaw5) 1 (by simp)).1
  have aw5_2 : w5.cell? ⟨w.heap.size, 2, none⟩ = some (.int .i64 r.pal.dp) := ((unhide Kaw5) 2 (by simp)).1
  have aw5_3 : w5.cell? ⟨w.heap.size, 3, none⟩ = some (.int .i64 r.pal.ht) := ((unhide Kaw5) 3 (by simp)).1
  have aw5_4 : w5.cell? ⟨w.heap.size, 4, none⟩ = some (.int .i64 r.pal.gram) := ((unhide Kaw5) 4 (by simp)).1
  have aw5_5 : w5.cell? ⟨w.heap.size, 5, none⟩ = some (.int .i64 r.classes) := ((unhide Kaw5) 5 (by simp)).1
  have aw5_6 : w5.cell? ⟨w.heap.size, 6, none⟩ = some (.slice h.ap r.pairs.length h.cp) := ((unhide Kaw5) 6 (by simp)).1
  have aw5_7 : w5.cell? ⟨w.heap.size, 7, none⟩ = some (.slice h.at' r.types.length h.ct) := ((unhide Kaw5) 7 (by simp)).1
  have aw5_8 : w5.cell? ⟨w.heap.size, 8, none⟩ = some (.int .i64 r.master) := ((unhide Kaw5) 8 (by simp)).1
  have aw5_9 : w5.cell? ⟨w.heap.size, 9, none⟩ = some (.slice h.ai r.items.length h.ci) := ((unhide Kaw5) 9 (by simp)).1
  go_wp2_with fail
  refine (kindsOk_any r h _ (unhide Qrw5) hs).mono ?_
  rintro e w6 ⟨rfl, hbw6⟩
  clear aw5_0 aw5_1 aw5_2 aw5_3 aw5_4 aw5_5 aw5_6 aw5_7 aw5_8 aw5_9
  have Hw6 : Hid (Below w.heap.size w w6) := (unhide Hw5).trans (hbw6.mono (unhide Hw5).size)
  have Kaw6 := hide (Blk.below hbw6 zaw5 (unhide Kaw5))
  have zaw6 : w.heap.size < w6.heap.size := Nat.lt_of_lt_of_le zaw5 hbw6.size
  have Qrw6 : Hid (RdReq w6 r h) := (unhide Qrw5).mono hbw6
  clear Hw5 Kaw5 zaw5 Qrw5
  clear hbw6
  go_wp2
  go_ret
  exact ⟨ret_bool (names_eq (unhide HM) (unhide HM1) (unhide HM2)).symm, unhide Hw6⟩
/-- No fault, or the fault of that class. -/
def faultVal (r : ReqV) : Value := if classI r = 0 then .nilIface else .iface 138 (.agg #[.int .i64 (classI r)])
theorem ret_fault {r : ReqV} {c : Int} (h : classI r = c) (h0 : c ≠ 0 := by decide) : Ending.returned (.iface 138 (.agg #[.int .i64 c])) = .returned (faultVal r) := by
  unfold faultVal; rw [h, if_neg h0]
theorem ret_nofault {r : ReqV} (h : classI r = 0) : Ending.returned .nilIface = .returned (faultVal r) := by
  unfold faultVal; rw [if_pos h]
set_option maxHeartbeats 2000000 in
theorem faultOf_any (r : ReqV) (h : ReqH) (w : World) (hr : RdReq w r h) (hs : r.small) :
    Calls Tryz.prog 96 #[reqVal r h] w fun e w' => e = .returned (faultVal r) ∧ Below w.heap.size w w' := by
  have hpl : r.pairs.length ≤ 1048600 := by unfold ReqV.small at hs; omega
  unfold reqVal
  go_enter Tryz.func96, Tryz.ntmps96
  go_wp2_with fail
  have hb : Below w.heap.size w (w.alloc (.cells #[.int .i64 r.way, .int .i64 r.pal.wd, .int .i64 r.pal.dp, .int .i64 r.pal.ht, .int .i64 r.pal.gram, .int .i64 r.classes, .slice h.ap r.pairs.length h.cp, .slice h.at' r.types.length h.ct, .int .i64 r.master, .slice h.ai r.items.length h.ci] 30)) := (Below.refl _ _).alloc (Nat.le_refl _) _
  have Kaw1 : Hid (Blk (w.alloc (.cells #[.int .i64 r.way, .int .i64 r.pal.wd, .int .i64 r.pal.dp, .int .i64 r.pal.ht, .int .i64 r.pal.gram, .int .i64 r.classes, .slice h.ap r.pairs.length h.cp, .slice h.at' r.types.length h.ct, .int .i64 r.master, .slice h.ai r.items.length h.ci] 30)) w.heap.size [.int .i64 r.way, .int .i64 r.pal.wd, .int .i64 r.pal.dp, .int .i64 r.pal.ht, .int .i64 r.pal.gram, .int .i64 r.classes, .slice h.ap r.pairs.length h.cp, .slice h.at' r.types.length h.ct, .int .i64 r.master, .slice h.ai r.items.length h.ci]) := Blk.allocAt [.int .i64 r.way, .int .i64 r.pal.wd, .int .i64 r.pal.dp, .int .i64 r.pal.ht, .int .i64 r.pal.gram, .int .i64 r.classes, .slice h.ap r.pairs.length h.cp, .slice h.at' r.types.length h.ct, .int .i64 r.master, .slice h.ai r.items.length h.ci] rfl
  have zaw1 : w.heap.size < (w.alloc (.cells #[.int .i64 r.way, .int .i64 r.pal.wd, .int .i64 r.pal.dp, .int .i64 r.pal.ht, .int .i64 r.pal.gram, .int .i64 r.classes, .slice h.ap r.pairs.length h.cp, .slice h.at' r.types.length h.ct, .int .i64 r.master, .slice h.ai r.items.length h.ci] 30)).heap.size := by simp
  generalize (w.alloc (.cells #[.int .i64 r.way, .int .i64 r.pal.wd, .int .i64 r.pal.dp, .int .i64 r.pal.ht, .int .i64 r.pal.gram, .int .i64 r.classes, .slice h.ap r.pairs.length h.cp, .slice h.at' r.types.length h.ct, .int .i64 r.master, .slice h.ai r.items.length h.ci] 30)) = w1 at *
  have Hw1 : Hid (Below w.heap.size w w1) := hb
  clear hb
  have Qrw1 : Hid (RdReq w1 r h) := hr.mono (unhide Hw1)
  have aw1_0 : w1.cell? ⟨w.heap.size, 0, none⟩ = some (.int .i64 r.way) := ((unhide Kaw1) 0 (by simp)).1
  have aw1_1 : w1.cell? ⟨w.heap.size, 1, none⟩ = some (.int .i64 r.pal.wd) := ((unhide Kaw1) 1 (by simp)).1
  have aw1_2 : w1.cell? ⟨w.heap.size, 2, none⟩ = some (.int .i64 r.pal.dp) := ((unhide Kaw1) 2 (by simp)).1
  have aw1_3 : w1.cell? ⟨w.heap.size, 3, none⟩ = some (.int .i64 r.pal.ht) := ((unhide Kaw1) 3 (by simp)).1
  have aw1_4 : w1.cell? ⟨w.heap.size, 4, none⟩ = some (.int .i64 r.pal.gram) := ((unhide Kaw1) 4 (by simp)).1
  have aw1_5 : w1.cell? ⟨w.heap.size, 5, none⟩ = some (.int .i64 r.classes) := ((unhide Kaw1) 5 (by simp)).1
  have aw1_6 : w1.cell? ⟨w.heap.size, 6, none⟩ = some (.slice h.ap r.pairs.length h.cp) := ((unhide Kaw1) 6 (by simp)).1
  have aw1_7 : w1.cell? ⟨w.heap.size, 7, none⟩ = some (.slice h.at' r.types.length h.ct) := ((unhide Kaw1) 7 (by simp)).1
  have aw1_8 : w1.cell? ⟨w.heap.size, 8, none⟩ = some (.int .i64 r.master) := ((unhide Kaw1) 8 (by simp)).1
  have aw1_9 : w1.cell? ⟨w.heap.size, 9, none⟩ = some (.slice h.ai r.items.length h.ci) := ((unhide Kaw1) 9 (by simp)).1
  refine (boundsOk_any r h _ (unhide Qrw1) hs).mono ?_
  rintro e w2 ⟨rfl, hbw2⟩
  clear aw1_0 aw1_1 aw1_2 aw1_3 aw1_4 aw1_5 aw1_6 aw1_7 aw1_8 aw1_9
  have Hw2 : Hid (Below w.heap.size w w2) := (unhide Hw1).trans (hbw2.mono (unhide Hw1).size)
  have Kaw2 := hide (Blk.below hbw2 zaw1 (unhide Kaw1))
  have zaw2 : w.heap.size < w2.heap.size := Nat.lt_of_lt_of_le zaw1 hbw2.size
  have Qrw2 : Hid (RdReq w2 r h) := (unhide Qrw1).mono hbw2
  clear Hw1 Kaw1 zaw1 Qrw1
  clear hbw2
  cases x1 : boundsB r
  · go_wp2
    go_ret
    exact ⟨ret_fault (class_bounds x1), unhide Hw2⟩
  have Hx1 := hide x1
  clear x1
  have aw2_0 : w2.cell? ⟨w.heap.size, 0, none⟩ = some (.int .i64 r.way) := ((unhide Kaw2) 0 (by simp)).1
  have aw2_1 : w2.cell? ⟨w.heap.size, 1, none⟩ = some (.int .i64 r.pal.wd) := ((unhide Kaw2) 1 (by simp)).1
  have aw2_2 : w2.cell? ⟨w.heap.size, 2, none⟩ = some (.int .i64 r.pal.dp) := ((unhide Kaw2) 2 (by simp)).1
  have aw2_3 : w2.cell? ⟨w.heap.size, 3, none⟩ = some (.int .i64 r.pal.ht) := ((unhide Kaw2) 3 (by simp)).1
  have aw2_4 : w2.cell? ⟨w.heap.size, 4, none⟩ = some (.int .i64 r.pal.gram) := ((unhide Kaw2) 4 (by simp)).1
  have aw2_5 : w2.cell? ⟨w.heap.size, 5, none⟩ = some (.int .i64 r.classes) := ((unhide Kaw2) 5 (by simp)).1
  have aw2_6 : w2.cell? ⟨w.heap.size, 6, none⟩ = some (.slice h.ap r.pairs.length h.cp) := ((unhide Kaw2) 6 (by simp)).1
  have aw2_7 : w2.cell? ⟨w.heap.size, 7, none⟩ = some (.slice h.at' r.types.length h.ct) := ((unhide Kaw2) 7 (by simp)).1
  have aw2_8 : w2.cell? ⟨w.heap.size, 8, none⟩ = some (.int .i64 r.master) := ((unhide Kaw2) 8 (by simp)).1
  have aw2_9 : w2.cell? ⟨w.heap.size, 9, none⟩ = some (.slice h.ai r.items.length h.ci) := ((unhide Kaw2) 9 (by simp)).1
  go_wp2_with fail
  refine (namesOk_any r h _ (unhide Qrw2) hs).mono ?_
  rintro e w3 ⟨rfl, hbw3⟩
  clear aw2_0 aw2_1 aw2_2 aw2_3 aw2_4 aw2_5 aw2_6 aw2_7 aw2_8 aw2_9
  have Hw3 : Hid (Below w.heap.size w w3) := (unhide Hw2).trans (hbw3.mono (unhide Hw2).size)
  have Kaw3 := hide (Blk.below hbw3 zaw2 (unhide Kaw2))
  have zaw3 : w.heap.size < w3.heap.size := Nat.lt_of_lt_of_le zaw2 hbw3.size
  have Qrw3 : Hid (RdReq w3 r h) := (unhide Qrw2).mono hbw3
  clear Hw2 Kaw2 zaw2 Qrw2
  clear hbw3
  cases x2 : namesB r
  · go_wp2
    go_ret
    exact ⟨ret_fault (class_names (unhide Hx1) x2), unhide Hw3⟩
  have Hx2 := hide x2
  clear x2
  have aw3_0 : w3.cell? ⟨w.heap.size, 0, none⟩ = some (.int .i64 r.way) := ((unhide Kaw3) 0 (by simp)).1
  have aw3_1 : w3.cell? ⟨w.heap.size, 1, none⟩ = some (.int .i64 r.pal.wd) := ((unhide Kaw3) 1 (by simp)).1
  have aw3_2 : w3.cell? ⟨w.heap.size, 2, none⟩ = some (.int .i64 r.pal.dp) := ((unhide Kaw3) 2 (by simp)).1
  have aw3_3 : w3.cell? ⟨w.heap.size, 3, none⟩ = some (.int .i64 r.pal.ht) := ((unhide Kaw3) 3 (by simp)).1
  have aw3_4 : w3.cell? ⟨w.heap.size, 4, none⟩ = some (.int .i64 r.pal.gram) := ((unhide Kaw3) 4 (by simp)).1
  have aw3_5 : w3.cell? ⟨w.heap.size, 5, none⟩ = some (.int .i64 r.classes) := ((unhide Kaw3) 5 (by simp)).1
  have aw3_6 : w3.cell? ⟨w.heap.size, 6, none⟩ = some (.slice h.ap r.pairs.length h.cp) := ((unhide Kaw3) 6 (by simp)).1
  have aw3_7 : w3.cell? ⟨w.heap.size, 7, none⟩ = some (.slice h.at' r.types.length h.ct) := ((unhide Kaw3) 7 (by simp)).1
  have aw3_8 : w3.cell? ⟨w.heap.size, 8, none⟩ = some (.int .i64 r.master) := ((unhide Kaw3) 8 (by simp)).1
  have aw3_9 : w3.cell? ⟨w.heap.size, 9, none⟩ = some (.slice h.ai r.items.length h.ci) := ((unhide Kaw3) 9 (by simp)).1
  go_wp2_with fail
  refine (tableOk_any _ _ _ r.pairs r.classes _ (unhide Qrw3).1 hpl).mono ?_
  rintro e w4 ⟨rfl, hbw4⟩
  clear aw3_0 aw3_1 aw3_2 aw3_3 aw3_4 aw3_5 aw3_6 aw3_7 aw3_8 aw3_9
  have Hw4 : Hid (Below w.heap.size w w4) := (unhide Hw3).trans (hbw4.mono (unhide Hw3).size)
  have Kaw4 := hide (Blk.below hbw4 zaw3 (unhide Kaw3))
  have zaw4 : w.heap.size < w4.heap.size := Nat.lt_of_lt_of_le zaw3 hbw4.size
  have Qrw4 : Hid (RdReq w4 r h) := (unhide Qrw3).mono hbw4
  clear Hw3 Kaw3 zaw3 Qrw3
  clear hbw4
  cases x3 : tableB r.pairs r.classes
  · go_wp2
    go_ret
    exact ⟨ret_fault (class_table (unhide Hx1) (unhide Hx2) x3), unhide Hw4⟩
  have Hx3 := hide x3
  clear x3
  have aw4_0 : w4.cell? ⟨w.heap.size, 0, none⟩ = some (.int .i64 r.way) := ((unhide Kaw4) 0 (by simp)).1
  have aw4_1 : w4.cell? ⟨w.heap.size, 1, none⟩ = some (.int .i64 r.pal.wd) := ((unhide Kaw4) 1 (by simp)).1
  have aw4_2 : w4.cell? ⟨w.heap.size, 2, none⟩ = some (.int .i64 r.pal.dp) := ((unhide Kaw4) 2 (by simp)).1
  have aw4_3 : w4.cell? ⟨w.heap.size, 3, none⟩ = some (.int .i64 r.pal.ht) := ((unhide Kaw4) 3 (by simp)).1
  have aw4_4 : w4.cell? ⟨w.heap.size, 4, none⟩ = some (.int .i64 r.pal.gram) := ((unhide Kaw4) 4 (by simp)).1
  have aw4_5 : w4.cell? ⟨w.heap.size, 5, none⟩ = some (.int .i64 r.classes) := ((unhide Kaw4) 5 (by simp)).1
  have aw4_6 : w4.cell? ⟨w.heap.size, 6, none⟩ = some (.slice h.ap r.pairs.length h.cp) := ((unhide Kaw4) 6 (by simp)).1
  have aw4_7 : w4.cell? ⟨w.heap.size, 7, none⟩ = some (.slice h.at' r.types.length h.ct) := ((unhide Kaw4) 7 (by simp)).1
  have aw4_8 : w4.cell? ⟨w.heap.size, 8, none⟩ = some (.int .i64 r.master) := ((unhide Kaw4) 8 (by simp)).1
  have aw4_9 : w4.cell? ⟨w.heap.size, 9, none⟩ = some (.slice h.ai r.items.length h.ci) := ((unhide Kaw4) 9 (by simp)).1
  go_wp2_with fail
  refine (unitsOk_any r h _ (unhide Qrw4) hs).mono ?_
  rintro e w5 ⟨rfl, hbw5⟩
  clear aw4_0 aw4_1 aw4_2 aw4_3 aw4_4 aw4_5 aw4_6 aw4_7 aw4_8 aw4_9
  have Hw5 : Hid (Below w.heap.size w w5) := (unhide Hw4).trans (hbw5.mono (unhide Hw4).size)
  have Kaw5 := hide (Blk.below hbw5 zaw4 (unhide Kaw4))
  have zaw5 : w.heap.size < w5.heap.size := Nat.lt_of_lt_of_le zaw4 hbw5.size
  have Qrw5 : Hid (RdReq w5 r h) := (unhide Qrw4).mono hbw5
  clear Hw4 Kaw4 zaw4 Qrw4
  clear hbw5
  cases x4 : unitsB r
  · go_wp2
    go_ret
    exact ⟨ret_fault (class_units (unhide Hx1) (unhide Hx2) (unhide Hx3) x4), unhide Hw5⟩
  have Hx4 := hide x4
  clear x4
  have aw5_0 : w5.cell? ⟨w.heap.size, 0, none⟩ = some (.int .i64 r.way) := ((unhide Kaw5) 0 (by simp)).1
  have aw5_1 : w5.cell? ⟨w.heap.size, 1, none⟩ = some (.int .i64 r.pal.wd) := ((unhide Kaw5) 1 (by simp)).1
  have aw5_2 : w5.cell? ⟨w.heap.size, 2, none⟩ = some (.int .i64 r.pal.dp) := ((unhide Kaw5) 2 (by simp)).1
  have aw5_3 : w5.cell? ⟨w.heap.size, 3, none⟩ = some (.int .i64 r.pal.ht) := ((unhide Kaw5) 3 (by simp)).1
  have aw5_4 : w5.cell? ⟨w.heap.size, 4, none⟩ = some (.int .i64 r.pal.gram) := ((unhide Kaw5) 4 (by simp)).1
  have aw5_5 : w5.cell? ⟨w.heap.size, 5, none⟩ = some (.int .i64 r.classes) := ((unhide Kaw5) 5 (by simp)).1
  have aw5_6 : w5.cell? ⟨w.heap.size, 6, none⟩ = some (.slice h.ap r.pairs.length h.cp) := ((unhide Kaw5) 6 (by simp)).1
  have aw5_7 : w5.cell? ⟨w.heap.size, 7, none⟩ = some (.slice h.at' r.types.length h.ct) := ((unhide Kaw5) 7 (by simp)).1
  have aw5_8 : w5.cell? ⟨w.heap.size, 8, none⟩ = some (.int .i64 r.master) := ((unhide Kaw5) 8 (by simp)).1
  have aw5_9 : w5.cell? ⟨w.heap.size, 9, none⟩ = some (.slice h.ai r.items.length h.ci) := ((unhide Kaw5) 9 (by simp)).1
  go_wp2_with fail
  refine (loadsOk_any r h _ (unhide Qrw5) hs (unhide Hx1)).mono ?_
  rintro e w6 ⟨rfl, hbw6⟩
  clear aw5_0 aw5_1 aw5_2 aw5_3 aw5_4 aw5_5 aw5_6 aw5_7 aw5_8 aw5_9
  have Hw6 : Hid (Below w.heap.size w w6) := (unhide Hw5).trans (hbw6.mono (unhide Hw5).size)
  have Kaw6 := hide (Blk.below hbw6 zaw5 (unhide Kaw5))
  have zaw6 : w.heap.size < w6.heap.size := Nat.lt_of_lt_of_le zaw5 hbw6.size
  have Qrw6 : Hid (RdReq w6 r h) := (unhide Qrw5).mono hbw6
  clear Hw5 Kaw5 zaw5 Qrw5
  clear hbw6
  cases x5 : loadsB r
  · go_wp2
    go_ret
    exact ⟨ret_fault (class_loads (unhide Hx1) (unhide Hx2) (unhide Hx3) (unhide Hx4) x5), unhide Hw6⟩
  have Hx5 := hide x5
  clear x5
  have aw6_0 : w6.cell? ⟨w.heap.size, 0, none⟩ = some (.int .i64 r.way) := ((unhide Kaw6) 0 (by simp)).1
  have aw6_1 : w6.cell? ⟨w.heap.size, 1, none⟩ = some (.int .i64 r.pal.wd) := ((unhide Kaw6) 1 (by simp)).1
  have aw6_2 : w6.cell? ⟨w.heap.size, 2, none⟩ = some (.int .i64 r.pal.dp) := ((unhide Kaw6) 2 (by simp)).1
  have aw6_3 : w6.cell? ⟨w.heap.size, 3, none⟩ = some (.int .i64 r.pal.ht) := ((unhide Kaw6) 3 (by simp)).1
  have aw6_4 : w6.cell? ⟨w.heap.size, 4, none⟩ = some (.int .i64 r.pal.gram) := ((unhide Kaw6) 4 (by simp)).1
  have aw6_5 : w6.cell? ⟨w.heap.size, 5, none⟩ = some (.int .i64 r.classes) := ((unhide Kaw6) 5 (by simp)).1
  have aw6_6 : w6.cell? ⟨w.heap.size, 6, none⟩ = some (.slice h.ap r.pairs.length h.cp) := ((unhide Kaw6) 6 (by simp)).1
  have aw6_7 : w6.cell? ⟨w.heap.size, 7, none⟩ = some (.slice h.at' r.types.length h.ct) := ((unhide Kaw6) 7 (by simp)).1
  have aw6_8 : w6.cell? ⟨w.heap.size, 8, none⟩ = some (.int .i64 r.master) := ((unhide Kaw6) 8 (by simp)).1
  have aw6_9 : w6.cell? ⟨w.heap.size, 9, none⟩ = some (.slice h.ai r.items.length h.ci) := ((unhide Kaw6) 9 (by simp)).1
  go_wp2
  go_ret
  exact ⟨ret_nofault (class_none (unhide Hx1) (unhide Hx2) (unhide Hx3) (unhide Hx4) (unhide Hx5)), unhide Hw6⟩
set_option maxHeartbeats 2000000 in
theorem classOfFault_any (r : ReqV) (w : World) (hg : ErrT w) :
    Calls Tryz.prog 95 #[faultVal r] w fun e w' => e = .returned (.int .i64 (classI r)) ∧ Below w.heap.size w w' := by
  by_cases hc : classI r = 0
  · have e : faultVal r = .nilIface := by unfold faultVal; rw [if_pos hc]
    rw [e, hc]
    go_enter Tryz.func95, Tryz.ntmps95
    go_wp2_with fail
    refine (as_nil _ _).mono ?_
    rintro e w' ⟨rfl, hw⟩
    subst w'
    go_wp2
    go_ret
    exact ⟨rfl, (Below.refl _ _).alloc (Nat.le_refl _) _⟩
  · have e : faultVal r = .iface 138 (.agg #[.int .i64 (classI r)]) := by unfold faultVal; rw [if_neg hc]
    rw [e]
    clear e
    generalize classI r = c at *
    have hb0 : Below w.heap.size w (w.alloc (.cells #[.int .i64 0] 138)) := (Below.refl _ _).alloc (Nat.le_refl _) _
    have hg1 : ErrT (w.alloc (.cells #[.int .i64 0] 138)) := hg.later hb0
    have K0 : Blk (w.alloc (.cells #[.int .i64 0] 138)) w.heap.size [.int .i64 0] := Blk.allocAt [.int .i64 0] rfl
    have z0 : w.heap.size < (w.alloc (.cells #[.int .i64 0] 138)).heap.size := by simp
    go_enter Tryz.func95, Tryz.ntmps95
    go_wp2_with fail
    generalize w.alloc (.cells #[.int .i64 0] 138) = W at *
    refine (as_hit c w.heap.size (.int .i64 0) W hg1 (K0 0 (by simp)).1 (K0 0 (by simp)).2).mono ?_
    rintro e w' ⟨rfl, hw⟩
    have hsz := hb0.size
    have K1 : Blk w' w.heap.size [.int .i64 c] := by
      rw [hw]
      exact (((((K0.allocOld z0 _).allocOld (by simp; omega) _).allocOld (by simp; omega) _).allocOld (by simp; omega) _)).set (j := 0) (v := .int .i64 c) (by simp)
    have hb1 : Below w.heap.size w w' := by
      rw [hw]
      exact ((((hb0.alloc hsz _).alloc (by simp; omega) _).alloc (by simp; omega) _).alloc (by simp; omega) _).setCell (Nat.le_refl _) _
    have c0 : w'.cell? ⟨w.heap.size, 0, none⟩ = some (.int .i64 c) := (K1 0 (by simp)).1
    have HB := hide hb1
    clear hw K0 K1 hb1 hb0 hg hg1
    go_wp2
    go_ret
    exact ⟨rfl, unhide HB⟩
set_option maxHeartbeats 2000000 in
theorem class_any (r : ReqV) (h : ReqH) (w : World) (hr : RdReq w r h) (hs : r.small) (hg : ErrT w) :
    Calls Tryz.prog 74 #[reqVal r h] w fun e w' => e = .returned (.int .i64 (classI r)) ∧ Below w.heap.size w w' := by
  unfold reqVal
  go_enter Tryz.func74, Tryz.ntmps74
  go_wp2_with fail
  have hb : Below w.heap.size w (w.alloc (.cells #[.int .i64 r.way, .int .i64 r.pal.wd, .int .i64 r.pal.dp, .int .i64 r.pal.ht, .int .i64 r.pal.gram, .int .i64 r.classes, .slice h.ap r.pairs.length h.cp, .slice h.at' r.types.length h.ct, .int .i64 r.master, .slice h.ai r.items.length h.ci] 30)) := (Below.refl _ _).alloc (Nat.le_refl _) _
  have Kaw1 : Hid (Blk (w.alloc (.cells #[.int .i64 r.way, .int .i64 r.pal.wd, .int .i64 r.pal.dp, .int .i64 r.pal.ht, .int .i64 r.pal.gram, .int .i64 r.classes, .slice h.ap r.pairs.length h.cp, .slice h.at' r.types.length h.ct, .int .i64 r.master, .slice h.ai r.items.length h.ci] 30)) w.heap.size [.int .i64 r.way, .int .i64 r.pal.wd, .int .i64 r.pal.dp, .int .i64 r.pal.ht, .int .i64 r.pal.gram, .int .i64 r.classes, .slice h.ap r.pairs.length h.cp, .slice h.at' r.types.length h.ct, .int .i64 r.master, .slice h.ai r.items.length h.ci]) := Blk.allocAt [.int .i64 r.way, .int .i64 r.pal.wd, .int .i64 r.pal.dp, .int .i64 r.pal.ht, .int .i64 r.pal.gram, .int .i64 r.classes, .slice h.ap r.pairs.length h.cp, .slice h.at' r.types.length h.ct, .int .i64 r.master, .slice h.ai r.items.length h.ci] rfl
  have zaw1 : w.heap.size < (w.alloc (.cells #[.int .i64 r.way, .int .i64 r.pal.wd, .int .i64 r.pal.dp, .int .i64 r.pal.ht, .int .i64 r.pal.gram, .int .i64 r.classes, .slice h.ap r.pairs.length h.cp, .slice h.at' r.types.length h.ct, .int .i64 r.master, .slice h.ai r.items.length h.ci] 30)).heap.size := by simp
  generalize (w.alloc (.cells #[.int .i64 r.way, .int .i64 r.pal.wd, .int .i64 r.pal.dp, .int .i64 r.pal.ht, .int .i64 r.pal.gram, .int .i64 r.classes, .slice h.ap r.pairs.length h.cp, .slice h.at' r.types.length h.ct, .int .i64 r.master, .slice h.ai r.items.length h.ci] 30)) = w1 at *
  have Hw1 : Hid (Below w.heap.size w w1) := hb
  clear hb
  have Qrw1 : Hid (RdReq w1 r h) := hr.mono (unhide Hw1)
  have Qgw1 : Hid (ErrT w1) := hg.later (unhide Hw1)
  have aw1_0 : w1.cell? ⟨w.heap.size, 0, none⟩ = some (.int .i64 r.way) := ((unhide Kaw1) 0 (by simp)).1
  have aw1_1 : w1.cell? ⟨w.heap.size, 1, none⟩ = some (.int .i64 r.pal.wd) := ((unhide Kaw1) 1 (by simp)).1
  have aw1_2 : w1.cell? ⟨w.heap.size, 2, none⟩ = some (.int .i64 r.pal.dp) := ((unhide Kaw1) 2 (by simp)).1
  have aw1_3 : w1.cell? ⟨w.heap.size, 3, none⟩ = some (.int .i64 r.pal.ht) := ((unhide Kaw1) 3 (by simp)).1
  have aw1_4 : w1.cell? ⟨w.heap.size, 4, none⟩ = some (.int .i64 r.pal.gram) := ((unhide Kaw1) 4 (by simp)).1
  have aw1_5 : w1.cell? ⟨w.heap.size, 5, none⟩ = some (.int .i64 r.classes) := ((unhide Kaw1) 5 (by simp)).1
  have aw1_6 : w1.cell? ⟨w.heap.size, 6, none⟩ = some (.slice h.ap r.pairs.length h.cp) := ((unhide Kaw1) 6 (by simp)).1
  have aw1_7 : w1.cell? ⟨w.heap.size, 7, none⟩ = some (.slice h.at' r.types.length h.ct) := ((unhide Kaw1) 7 (by simp)).1
  have aw1_8 : w1.cell? ⟨w.heap.size, 8, none⟩ = some (.int .i64 r.master) := ((unhide Kaw1) 8 (by simp)).1
  have aw1_9 : w1.cell? ⟨w.heap.size, 9, none⟩ = some (.slice h.ai r.items.length h.ci) := ((unhide Kaw1) 9 (by simp)).1
  refine (faultOf_any r h _ (unhide Qrw1) hs).mono ?_
  rintro e w2 ⟨rfl, hbw2⟩
  clear aw1_0 aw1_1 aw1_2 aw1_3 aw1_4 aw1_5 aw1_6 aw1_7 aw1_8 aw1_9
  have Hw2 : Hid (Below w.heap.size w w2) := (unhide Hw1).trans (hbw2.mono (unhide Hw1).size)
  have Kaw2 := hide (Blk.below hbw2 zaw1 (unhide Kaw1))
  have zaw2 : w.heap.size < w2.heap.size := Nat.lt_of_lt_of_le zaw1 hbw2.size
  have Qrw2 : Hid (RdReq w2 r h) := (unhide Qrw1).mono hbw2
  have Qgw2 : Hid (ErrT w2) := (unhide Qgw1).later hbw2
  clear Hw1 Kaw1 zaw1 Qrw1 Qgw1
  clear hbw2
  go_wp2_with fail
  refine (classOfFault_any r _ (unhide Qgw2)).mono ?_
  rintro e w3 ⟨rfl, hbw3⟩
  have Hw3 : Hid (Below w.heap.size w w3) := (unhide Hw2).trans (hbw3.mono (unhide Hw2).size)
  have Kaw3 := hide (Blk.below hbw3 zaw2 (unhide Kaw2))
  have zaw3 : w.heap.size < w3.heap.size := Nat.lt_of_lt_of_le zaw2 hbw3.size
  have Qrw3 : Hid (RdReq w3 r h) := (unhide Qrw2).mono hbw3
  have Qgw3 : Hid (ErrT w3) := (unhide Qgw2).later hbw3
  clear Hw2 Kaw2 zaw2 Qrw2 Qgw2
  clear hbw3
  go_wp2
  go_ret
  exact ⟨rfl, unhide Hw3⟩
end Go.Proofs.YtlakbnpinennnaaGreatDoor
