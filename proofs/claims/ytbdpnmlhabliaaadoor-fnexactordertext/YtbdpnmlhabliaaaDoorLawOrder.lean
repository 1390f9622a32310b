/- The law of OrderText, walked. -/
import Derived.Test.YtbdpnmlhabliaaaDoorOrderImpl
import Derived.Deep.DeepMust
namespace Go.Proofs.YtbdpnmlhabliaaaDoor
open Go.RowKit
set_option linter.unusedVariables false
set_option maxHeartbeats 1000000 in
theorem law_orderText (r : ReqV) (h : ReqH) (w : World) (hr : RdReq w r h) (hp : r.pairs.length ≤ maxLen) (ht : r.types.length ≤ maxLen) (hi : r.items.length ≤ maxLen) (hwf : r.wf) (hfo : FormsIs w) (hta : TabAt w) :
    Calls Tryd.prog 6 #[reqVal r h] w fun e w' => e = .returned (.bool true) ∧ Below w.heap.size w w' := by
  have HWF := hide hwf
  have HFO := hide hfo
  have HTA := hide hta
  clear hwf hfo hta
  by_cases hs : (1048576 : Int) - r.pairs.length - r.types.length - r.items.length < 0
  · unfold reqVal
    go_enter Tryd.func6, Tryd.ntmps6
    go_wp2_with fail
    refine (szRequest_any r h _ _ (by omega) (by omega) hp ht hi).mono ?_
    rintro e w1 ⟨rfl, hb1⟩
    rw [if_pos (by omega)]
    have H1 : Hid (Below w.heap.size w w1) := ((Below.refl w.heap.size w).alloc (Nat.le_refl _) _).trans (hb1.mono (by simp))
    clear hb1
    go_wp2_with fail
    go_ret
    exact ⟨rfl, unhide H1⟩
  have hsm : r.small := by unfold ReqV.small; omega
  unfold reqVal
  go_enter Tryd.func6, Tryd.ntmps6
  go_wp2_with fail
  refine (szRequest_any r h _ _ (by omega) (by omega) hp ht hi).mono ?_
  rintro e w1 ⟨rfl, hb1⟩
  rw [if_neg (by omega)]
  have H1 : Hid (Below w.heap.size w w1) := ((Below.refl w.heap.size w).alloc (Nat.le_refl _) _).trans (hb1.mono (by simp))
  have z1 : w.heap.size < w1.heap.size := by have := hb1.size; simp at this; omega
  have A1 : Blk w1 w.heap.size [.int .i64 r.way, .int .i64 r.pal.wd, .int .i64 r.pal.dp, .int .i64 r.pal.ht, .int .i64 r.pal.gram, .int .i64 r.classes, .slice h.ap r.pairs.length h.cp, .slice h.at' r.types.length h.ct, .int .i64 r.master, .slice h.ai r.items.length h.ci] := Blk.below hb1 (by simp) (Blk.allocAt [.int .i64 r.way, .int .i64 r.pal.wd, .int .i64 r.pal.dp, .int .i64 r.pal.ht, .int .i64 r.pal.gram, .int .i64 r.classes, .slice h.ap r.pairs.length h.cp, .slice h.at' r.types.length h.ct, .int .i64 r.master, .slice h.ai r.items.length h.ci] rfl)
  have a1_0 : w1.cell? ⟨w.heap.size, 0, none⟩ = some (.int .i64 r.way) := (A1 0 (by simp)).1
  have a1_1 : w1.cell? ⟨w.heap.size, 1, none⟩ = some (.int .i64 r.pal.wd) := (A1 1 (by simp)).1
  have a1_2 : w1.cell? ⟨w.heap.size, 2, none⟩ = some (.int .i64 r.pal.dp) := (A1 2 (by simp)).1
  have a1_3 : w1.cell? ⟨w.heap.size, 3, none⟩ = some (.int .i64 r.pal.ht) := (A1 3 (by simp)).1
  have a1_4 : w1.cell? ⟨w.heap.size, 4, none⟩ = some (.int .i64 r.pal.gram) := (A1 4 (by simp)).1
  have a1_5 : w1.cell? ⟨w.heap.size, 5, none⟩ = some (.int .i64 r.classes) := (A1 5 (by simp)).1
  have a1_6 : w1.cell? ⟨w.heap.size, 6, none⟩ = some (.slice h.ap r.pairs.length h.cp) := (A1 6 (by simp)).1
  have a1_7 : w1.cell? ⟨w.heap.size, 7, none⟩ = some (.slice h.at' r.types.length h.ct) := (A1 7 (by simp)).1
  have a1_8 : w1.cell? ⟨w.heap.size, 8, none⟩ = some (.int .i64 r.master) := (A1 8 (by simp)).1
  have a1_9 : w1.cell? ⟨w.heap.size, 9, none⟩ = some (.slice h.ai r.items.length h.ci) := (A1 9 (by simp)).1
  have HA1 := hide A1
  clear hb1 A1
  go_wp2_with fail
  refine (toRequest_any r h _ (hr.mono (unhide H1)) hsm).mono ?_
  rintro e w2 ⟨h2, rfl, hq2, hf2, hb2⟩
  clear a1_0 a1_1 a1_2 a1_3 a1_4 a1_5 a1_6 a1_7 a1_8 a1_9
  have H2 : Hid (Below w.heap.size w w2) := (unhide H1).trans (hb2.mono (unhide H1).size)
  have z2 : w.heap.size < w2.heap.size := Nat.lt_of_lt_of_le z1 hb2.size
  have A2 := Blk.below hb2 (by omega) (unhide HA1)
  have a2_0 : w2.cell? ⟨w.heap.size, 0, none⟩ = some (.int .i64 r.way) := (A2 0 (by simp)).1
  have a2_1 : w2.cell? ⟨w.heap.size, 1, none⟩ = some (.int .i64 r.pal.wd) := (A2 1 (by simp)).1
  have a2_2 : w2.cell? ⟨w.heap.size, 2, none⟩ = some (.int .i64 r.pal.dp) := (A2 2 (by simp)).1
  have a2_3 : w2.cell? ⟨w.heap.size, 3, none⟩ = some (.int .i64 r.pal.ht) := (A2 3 (by simp)).1
  have a2_4 : w2.cell? ⟨w.heap.size, 4, none⟩ = some (.int .i64 r.pal.gram) := (A2 4 (by simp)).1
  have a2_5 : w2.cell? ⟨w.heap.size, 5, none⟩ = some (.int .i64 r.classes) := (A2 5 (by simp)).1
  have a2_6 : w2.cell? ⟨w.heap.size, 6, none⟩ = some (.slice h.ap r.pairs.length h.cp) := (A2 6 (by simp)).1
  have a2_7 : w2.cell? ⟨w.heap.size, 7, none⟩ = some (.slice h.at' r.types.length h.ct) := (A2 7 (by simp)).1
  have a2_8 : w2.cell? ⟨w.heap.size, 8, none⟩ = some (.int .i64 r.master) := (A2 8 (by simp)).1
  have a2_9 : w2.cell? ⟨w.heap.size, 9, none⟩ = some (.slice h.ai r.items.length h.ci) := (A2 9 (by simp)).1
  have HA2 := hide A2
  have Q2 := hide hq2
  clear hq2 hf2
  clear hb2 A2 HA1 H1
  unfold reqVal
  go_wp2_with fail
  refine (specOrderText_any r h2 _ (unhide Q2) hsm).mono ?_
  rintro e w3 ⟨rfl, hb3⟩
  clear a2_0 a2_1 a2_2 a2_3 a2_4 a2_5 a2_6 a2_7 a2_8 a2_9
  have H3 : Hid (Below w.heap.size w w3) := (unhide H2).trans (hb3.mono (unhide H2).size)
  have z3 : w.heap.size < w3.heap.size := Nat.lt_of_lt_of_le z2 hb3.size
  have A3 := Blk.below hb3 (by omega) (unhide HA2)
  have a3_0 : w3.cell? ⟨w.heap.size, 0, none⟩ = some (.int .i64 r.way) := (A3 0 (by simp)).1
  have a3_1 : w3.cell? ⟨w.heap.size, 1, none⟩ = some (.int .i64 r.pal.wd) := (A3 1 (by simp)).1
  have a3_2 : w3.cell? ⟨w.heap.size, 2, none⟩ = some (.int .i64 r.pal.dp) := (A3 2 (by simp)).1
  have a3_3 : w3.cell? ⟨w.heap.size, 3, none⟩ = some (.int .i64 r.pal.ht) := (A3 3 (by simp)).1
  have a3_4 : w3.cell? ⟨w.heap.size, 4, none⟩ = some (.int .i64 r.pal.gram) := (A3 4 (by simp)).1
  have a3_5 : w3.cell? ⟨w.heap.size, 5, none⟩ = some (.int .i64 r.classes) := (A3 5 (by simp)).1
  have a3_6 : w3.cell? ⟨w.heap.size, 6, none⟩ = some (.slice h.ap r.pairs.length h.cp) := (A3 6 (by simp)).1
  have a3_7 : w3.cell? ⟨w.heap.size, 7, none⟩ = some (.slice h.at' r.types.length h.ct) := (A3 7 (by simp)).1
  have a3_8 : w3.cell? ⟨w.heap.size, 8, none⟩ = some (.int .i64 r.master) := (A3 8 (by simp)).1
  have a3_9 : w3.cell? ⟨w.heap.size, 9, none⟩ = some (.slice h.ai r.items.length h.ci) := (A3 9 (by simp)).1
  have HA3 := hide A3
  clear hb3 A3 HA2 H2
  go_wp2_with fail
  refine (toRequest_any r h _ (hr.mono (unhide H3)) hsm).mono ?_
  rintro e w4 ⟨h4, rfl, hq4, hf4, hb4⟩
  clear a3_0 a3_1 a3_2 a3_3 a3_4 a3_5 a3_6 a3_7 a3_8 a3_9
  have H4 : Hid (Below w.heap.size w w4) := (unhide H3).trans (hb4.mono (unhide H3).size)
  have z4 : w.heap.size < w4.heap.size := Nat.lt_of_lt_of_le z3 hb4.size
  have A4 := Blk.below hb4 (by omega) (unhide HA3)
  have a4_0 : w4.cell? ⟨w.heap.size, 0, none⟩ = some (.int .i64 r.way) := (A4 0 (by simp)).1
  have a4_1 : w4.cell? ⟨w.heap.size, 1, none⟩ = some (.int .i64 r.pal.wd) := (A4 1 (by simp)).1
  have a4_2 : w4.cell? ⟨w.heap.size, 2, none⟩ = some (.int .i64 r.pal.dp) := (A4 2 (by simp)).1
  have a4_3 : w4.cell? ⟨w.heap.size, 3, none⟩ = some (.int .i64 r.pal.ht) := (A4 3 (by simp)).1
  have a4_4 : w4.cell? ⟨w.heap.size, 4, none⟩ = some (.int .i64 r.pal.gram) := (A4 4 (by simp)).1
  have a4_5 : w4.cell? ⟨w.heap.size, 5, none⟩ = some (.int .i64 r.classes) := (A4 5 (by simp)).1
  have a4_6 : w4.cell? ⟨w.heap.size, 6, none⟩ = some (.slice h.ap r.pairs.length h.cp) := (A4 6 (by simp)).1
  have a4_7 : w4.cell? ⟨w.heap.size, 7, none⟩ = some (.slice h.at' r.types.length h.ct) := (A4 7 (by simp)).1
  have a4_8 : w4.cell? ⟨w.heap.size, 8, none⟩ = some (.int .i64 r.master) := (A4 8 (by simp)).1
  have a4_9 : w4.cell? ⟨w.heap.size, 9, none⟩ = some (.slice h.ai r.items.length h.ci) := (A4 9 (by simp)).1
  have HA4 := hide A4
  have Q4 := hide hq4
  clear hq4 hf4
  clear hb4 A4 HA3 H3
  unfold reqVal
  go_wp2_with fail
  refine (orderText_any r h4 _ ?hb5 hsm (unhide HWF) ?hb6 ?hb7).mono ?_
  case hb5 => exact (unhide Q4).mono ((Below.refl _ _).alloc (Nat.le_refl _) _)
  case hb6 => exact ((unhide HFO).later (unhide H4)).later ((Below.refl _ _).alloc (Nat.le_refl _) _)
  case hb7 => exact TabAt.later (TabAt.later (unhide HTA) (unhide H4)) ((Below.refl _ _).alloc (Nat.le_refl _) _)
  rintro e w5 ⟨rfl, hb5⟩
  clear a4_0 a4_1 a4_2 a4_3 a4_4 a4_5 a4_6 a4_7 a4_8 a4_9
  have H5 : Hid (Below w.heap.size w w5) := ((unhide H4).alloc (Nat.le_of_lt z4) _).trans (hb5.mono (by simp; omega))
  have z5 : w4.heap.size < w5.heap.size := by have := hb5.size; simp at this; omega
  have A5 := Blk.below hb5 (by simp; omega) ((unhide HA4).allocOld (by omega) _)
  have B5 : Blk w5 w4.heap.size [.int .i64 r.way, .int .i64 r.pal.wd, .int .i64 r.pal.dp, .int .i64 r.pal.ht, .int .i64 r.pal.gram, .int .i64 r.classes, .slice h4.ap r.pairs.length h4.cp, .slice h4.at' r.types.length h4.ct, .int .i64 r.master, .slice h4.ai r.items.length h4.ci] := Blk.below hb5 (by simp) (Blk.allocAt [.int .i64 r.way, .int .i64 r.pal.wd, .int .i64 r.pal.dp, .int .i64 r.pal.ht, .int .i64 r.pal.gram, .int .i64 r.classes, .slice h4.ap r.pairs.length h4.cp, .slice h4.at' r.types.length h4.ct, .int .i64 r.master, .slice h4.ai r.items.length h4.ci] rfl)
  have Q5 := hide ((((unhide Q4).mono ((Below.refl _ _).alloc (Nat.le_refl _) _)).mono hb5).mono (Below.refl _ _).drew)
  have HB5 : Hid (Blk w5.drew w4.heap.size [.int .i64 r.way, .int .i64 r.pal.wd, .int .i64 r.pal.dp, .int .i64 r.pal.ht, .int .i64 r.pal.gram, .int .i64 r.classes, .slice h4.ap r.pairs.length h4.cp, .slice h4.at' r.types.length h4.ct, .int .i64 r.master, .slice h4.ai r.items.length h4.ci]) := B5
  have a5_0 : w5.cell? ⟨w.heap.size, 0, none⟩ = some (.int .i64 r.way) := (A5 0 (by simp)).1
  have a5_1 : w5.cell? ⟨w.heap.size, 1, none⟩ = some (.int .i64 r.pal.wd) := (A5 1 (by simp)).1
  have a5_2 : w5.cell? ⟨w.heap.size, 2, none⟩ = some (.int .i64 r.pal.dp) := (A5 2 (by simp)).1
  have a5_3 : w5.cell? ⟨w.heap.size, 3, none⟩ = some (.int .i64 r.pal.ht) := (A5 3 (by simp)).1
  have a5_4 : w5.cell? ⟨w.heap.size, 4, none⟩ = some (.int .i64 r.pal.gram) := (A5 4 (by simp)).1
  have a5_5 : w5.cell? ⟨w.heap.size, 5, none⟩ = some (.int .i64 r.classes) := (A5 5 (by simp)).1
  have a5_6 : w5.cell? ⟨w.heap.size, 6, none⟩ = some (.slice h.ap r.pairs.length h.cp) := (A5 6 (by simp)).1
  have a5_7 : w5.cell? ⟨w.heap.size, 7, none⟩ = some (.slice h.at' r.types.length h.ct) := (A5 7 (by simp)).1
  have a5_8 : w5.cell? ⟨w.heap.size, 8, none⟩ = some (.int .i64 r.master) := (A5 8 (by simp)).1
  have a5_9 : w5.cell? ⟨w.heap.size, 9, none⟩ = some (.slice h.ai r.items.length h.ci) := (A5 9 (by simp)).1
  have b5_0 : w5.cell? ⟨w4.heap.size, 0, none⟩ = some (.int .i64 r.way) := (B5 0 (by simp)).1
  have b5_1 : w5.cell? ⟨w4.heap.size, 1, none⟩ = some (.int .i64 r.pal.wd) := (B5 1 (by simp)).1
  have b5_2 : w5.cell? ⟨w4.heap.size, 2, none⟩ = some (.int .i64 r.pal.dp) := (B5 2 (by simp)).1
  have b5_3 : w5.cell? ⟨w4.heap.size, 3, none⟩ = some (.int .i64 r.pal.ht) := (B5 3 (by simp)).1
  have b5_4 : w5.cell? ⟨w4.heap.size, 4, none⟩ = some (.int .i64 r.pal.gram) := (B5 4 (by simp)).1
  have b5_5 : w5.cell? ⟨w4.heap.size, 5, none⟩ = some (.int .i64 r.classes) := (B5 5 (by simp)).1
  have b5_6 : w5.cell? ⟨w4.heap.size, 6, none⟩ = some (.slice h4.ap r.pairs.length h4.cp) := (B5 6 (by simp)).1
  have b5_7 : w5.cell? ⟨w4.heap.size, 7, none⟩ = some (.slice h4.at' r.types.length h4.ct) := (B5 7 (by simp)).1
  have b5_8 : w5.cell? ⟨w4.heap.size, 8, none⟩ = some (.int .i64 r.master) := (B5 8 (by simp)).1
  have b5_9 : w5.cell? ⟨w4.heap.size, 9, none⟩ = some (.slice h4.ai r.items.length h4.ci) := (B5 9 (by simp)).1
  clear hb5 A5 B5 HA4 H4 Q4
  go_wp2_with fail
  go_region_with (first
    | (go_at_call 21; go_must (refine (toRequest_any r h _ (by exact hr.mono (unhide H5).drew) hsm).mono ?_; rintro e w6 ⟨h6, rfl, hq6, hf6, hb6⟩; have Q6 := hide hq6; have HB6 := hide hb6; have B6 := Blk.below hb6 z5 (unhide HB5); have b6_0 : w6.cell? ⟨w4.heap.size, 0, none⟩ = some (.int .i64 r.way) := (B6 0 (by simp)).1; have b6_1 : w6.cell? ⟨w4.heap.size, 1, none⟩ = some (.int .i64 r.pal.wd) := (B6 1 (by simp)).1; have b6_2 : w6.cell? ⟨w4.heap.size, 2, none⟩ = some (.int .i64 r.pal.dp) := (B6 2 (by simp)).1; have b6_3 : w6.cell? ⟨w4.heap.size, 3, none⟩ = some (.int .i64 r.pal.ht) := (B6 3 (by simp)).1; have b6_4 : w6.cell? ⟨w4.heap.size, 4, none⟩ = some (.int .i64 r.pal.gram) := (B6 4 (by simp)).1; have b6_5 : w6.cell? ⟨w4.heap.size, 5, none⟩ = some (.int .i64 r.classes) := (B6 5 (by simp)).1; have b6_6 : w6.cell? ⟨w4.heap.size, 6, none⟩ = some (.slice h4.ap r.pairs.length h4.cp) := (B6 6 (by simp)).1; have b6_7 : w6.cell? ⟨w4.heap.size, 7, none⟩ = some (.slice h4.at' r.types.length h4.ct) := (B6 7 (by simp)).1; have b6_8 : w6.cell? ⟨w4.heap.size, 8, none⟩ = some (.int .i64 r.master) := (B6 8 (by simp)).1; have b6_9 : w6.cell? ⟨w4.heap.size, 9, none⟩ = some (.slice h4.ai r.items.length h4.ci) := (B6 9 (by simp)).1; clear hq6 hf6 hb6 B6))
    | (go_at_call 17; go_must (refine (eqRequest_same r h4 h6 _ (by exact (unhide Q5).mono (unhide HB6)) (by exact unhide Q6) hsm).mono ?_; rintro e w7 ⟨rfl, hb7⟩; have HB7 := hide hb7; clear hb7)))
  all_goals
    go_wp2
    go_ret
    exact ⟨rfl, ((unhide H5).drew.trans ((unhide HB6).mono (unhide H5).size)).trans ((unhide HB7).mono ((unhide H5).drew.trans ((unhide HB6).mono (unhide H5).size)).size)⟩
end Go.Proofs.YtbdpnmlhabliaaaDoor
