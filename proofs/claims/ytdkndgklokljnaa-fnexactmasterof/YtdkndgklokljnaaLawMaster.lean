/- The law of MasterOf, walked. -/
import Derived.Test.YtdkndgklokljnaaMaster
import Derived.Deep.DeepMust
namespace Go.Proofs.Ytdkndgklokljnaa
open Go.RowKit
set_option linter.unusedVariables false
set_option maxHeartbeats 2000000 in
theorem law_master (r : ReqV) (h : ReqH) (w : World) (hr : RdReq w r h) (hp : r.pairs.length ≤ maxLen) (ht : r.types.length ≤ maxLen) (hi : r.items.length ≤ maxLen) :
    Calls Try.prog 5 #[reqVal r h] w fun e w' => e = .returned (.bool true) ∧ Below w.heap.size w w' := by
  have hne : (masterB r != masterB r) = false := by simp
  by_cases hs : (1048576 : Int) - r.pairs.length - r.types.length - r.items.length < 0
  · unfold reqVal
    go_enter Try.func5, Try.ntmps5
    go_wp2_with fail
    refine (szRequest_any r h _ _ (by omega) (by omega) hp ht hi).mono ?_
    rintro e w1 ⟨rfl, hb1⟩
    rw [if_pos (by omega)]
    have H1 : Hid (Below w.heap.size w w1) := ((Below.refl w.heap.size w).alloc (Nat.le_refl _) _).trans (hb1.mono (by simp))
    clear hb1
    go_wp2_with fail
    go_ret
    exact ⟨rfl, unhide H1⟩
  have hsm : r.small := by unfold ReqV.small; omega
  have htl : r.types.length ≤ 1048600 := by unfold ReqV.small at hsm; omega
  unfold reqVal
  go_enter Try.func5, Try.ntmps5
  go_wp2_with fail
  have hb : Below w.heap.size w (w.alloc (.cells #[.int .i64 r.way, .int .i64 r.pal.wd, .int .i64 r.pal.dp, .int .i64 r.pal.ht, .int .i64 r.pal.gram, .int .i64 r.classes, .slice h.ap r.pairs.length h.cp, .slice h.at' r.types.length h.ct, .int .i64 r.master, .slice h.ai r.items.length h.ci] 45)) := (Below.refl _ _).alloc (Nat.le_refl _) _
  have Kaw1 : Hid (Blk (w.alloc (.cells #[.int .i64 r.way, .int .i64 r.pal.wd, .int .i64 r.pal.dp, .int .i64 r.pal.ht, .int .i64 r.pal.gram, .int .i64 r.classes, .slice h.ap r.pairs.length h.cp, .slice h.at' r.types.length h.ct, .int .i64 r.master, .slice h.ai r.items.length h.ci] 45)) w.heap.size [.int .i64 r.way, .int .i64 r.pal.wd, .int .i64 r.pal.dp, .int .i64 r.pal.ht, .int .i64 r.pal.gram, .int .i64 r.classes, .slice h.ap r.pairs.length h.cp, .slice h.at' r.types.length h.ct, .int .i64 r.master, .slice h.ai r.items.length h.ci]) := Blk.allocAt [.int .i64 r.way, .int .i64 r.pal.wd, .int .i64 r.pal.dp, .int .i64 r.pal.ht, .int .i64 r.pal.gram, .int .i64 r.classes, .slice h.ap r.pairs.length h.cp, .slice h.at' r.types.length h.ct, .int .i64 r.master, .slice h.ai r.items.length h.ci] rfl
  have zaw1 : w.heap.size < (w.alloc (.cells #[.int .i64 r.way, .int .i64 r.pal.wd, .int .i64 r.pal.dp, .int .i64 r.pal.ht, .int .i64 r.pal.gram, .int .i64 r.classes, .slice h.ap r.pairs.length h.cp, .slice h.at' r.types.length h.ct, .int .i64 r.master, .slice h.ai r.items.length h.ci] 45)).heap.size := by simp
  generalize (w.alloc (.cells #[.int .i64 r.way, .int .i64 r.pal.wd, .int .i64 r.pal.dp, .int .i64 r.pal.ht, .int .i64 r.pal.gram, .int .i64 r.classes, .slice h.ap r.pairs.length h.cp, .slice h.at' r.types.length h.ct, .int .i64 r.master, .slice h.ai r.items.length h.ci] 45)) = w1 at *
  have Hw1 : Hid (Below w.heap.size w w1) := hb
  clear hb
  have Qrw1 : Hid (RdReq w1 r h) := hr.mono (unhide Hw1)
  refine (szRequest_any r h _ _ (by omega) (by omega) hp ht hi).mono ?_
  rintro e w2 ⟨rfl, hbw2⟩
  have Hw2 : Hid (Below w.heap.size w w2) := (unhide Hw1).trans (hbw2.mono (unhide Hw1).size)
  have Kaw2 := hide (Blk.below hbw2 zaw1 (unhide Kaw1))
  have zaw2 : w.heap.size < w2.heap.size := Nat.lt_of_lt_of_le zaw1 hbw2.size
  have Qrw2 : Hid (RdReq w2 r h) := (unhide Qrw1).mono hbw2
  clear Hw1 Kaw1 zaw1 Qrw1
  clear hbw2
  rw [if_neg (by omega)]
  have aw2_0 : w2.cell? ⟨w.heap.size, 0, none⟩ = some (.int .i64 r.way) := ((unhide Kaw2) 0 (by simp)).1
  have aw2_1 : w2.cell? ⟨w.heap.size, 1, none⟩ = some (.int .i64 r.pal.wd) := ((unhide Kaw2) 1 (by simp)).1
  have aw2_2 : w2.cell? ⟨w.heap.size, 2, none⟩ = some (.int .i64 r.pal.dp) := ((unhide Kaw2) 2 (by simp)).1
  have aw2_3 : w2.cell? ⟨w.heap.size, 3, none⟩ = some (.int .i64 r.pal.ht) := ((unhide Kaw2) 3 (by simp)).1
  have aw2_4 : w2.cell? ⟨w.heap.size, 4, none⟩ = some (.int .i64 r.pal.gram) := ((unhide Kaw2) 4 (by simp)).1
  have aw2_5 : w2.cell? ⟨w.heap.size, 5, none⟩ = some (.int .i64 r.classes) := ((unhide Kaw2) 5 (by simp)).1
  have aw2_6 : w2.cell? ⟨w.heap.size, 6, none⟩ = some (.slice h.ap r.pairs.length h.cp) := ((unhide Kaw2) 6 (by simp)).1
  have aw2_7 : w2.cell? ⟨w.heap.size, 7, none⟩ = some (.slice h.at' r.types.length h.ct) := ((unhide Kaw2) 7 (by simp)).1
  have aw2_8 : w2.cell? ⟨w.heap.size, 8, none⟩ = some (.int .i64 r.master) := ((unhide Kaw2) 8 (by simp)).1
  have aw2_9 : w2.cell? ⟨w.heap.size, 9, none⟩ = some (.slice h.ai r.items.length h.ci) := ((unhide Kaw2) 9 (by simp)).1
  go_wp2_with fail
  refine (toRequest_any r h _ (unhide Qrw2) hsm).mono ?_
  rintro e w3 ⟨h3, rfl, hq, hf, hbw3⟩
  clear aw2_0 aw2_1 aw2_2 aw2_3 aw2_4 aw2_5 aw2_6 aw2_7 aw2_8 aw2_9
  have Hw3 : Hid (Below w.heap.size w w3) := (unhide Hw2).trans (hbw3.mono (unhide Hw2).size)
  have Kaw3 := hide (Blk.below hbw3 zaw2 (unhide Kaw2))
  have zaw3 : w.heap.size < w3.heap.size := Nat.lt_of_lt_of_le zaw2 hbw3.size
  have Qrw3 : Hid (RdReq w3 r h) := (unhide Qrw2).mono hbw3
  clear Hw2 Kaw2 zaw2 Qrw2
  clear hbw3
  have Qc3w3 : Hid (RdReq w3 r h3) := hq
  clear hq hf
  unfold reqVal
  go_wp2_with fail
  refine (specMasterOf_any r h3 _ (unhide Qc3w3) htl).mono ?_
  rintro e w4 ⟨rfl, hbw4⟩
  have Hw4 : Hid (Below w.heap.size w w4) := (unhide Hw3).trans (hbw4.mono (unhide Hw3).size)
  have Kaw4 := hide (Blk.below hbw4 zaw3 (unhide Kaw3))
  have zaw4 : w.heap.size < w4.heap.size := Nat.lt_of_lt_of_le zaw3 hbw4.size
  have Qrw4 : Hid (RdReq w4 r h) := (unhide Qrw3).mono hbw4
  have Qc3w4 : Hid (RdReq w4 r h3) := (unhide Qc3w3).mono hbw4
  clear Hw3 Kaw3 zaw3 Qrw3 Qc3w3
  clear hbw4
  clear Qc3w4
  have aw4_0 : w4.cell? ⟨w.heap.size, 0, none⟩ = some (.int .i64 r.way) := ((unhide Kaw4) 0 (by simp)).1
  have aw4_1 : w4.cell? ⟨w.heap.size, 1, none⟩ = some (.int .i64 r.pal.wd) := ((unhide Kaw4) 1 (by simp)).1
  have aw4_2 : w4.cell? ⟨w.heap.size, 2, none⟩ = some (.int .i64 r.pal.dp) := ((unhide Kaw4) 2 (by simp)).1
  have aw4_3 : w4.cell? ⟨w.heap.size, 3, none⟩ = some (.int .i64 r.pal.ht) := ((unhide Kaw4) 3 (by simp)).1
  have aw4_4 : w4.cell? ⟨w.heap.size, 4, none⟩ = some (.int .i64 r.pal.gram) := ((unhide Kaw4) 4 (by simp)).1
  have aw4_5 : w4.cell? ⟨w.heap.size, 5, none⟩ = some (.int .i64 r.classes) := ((unhide Kaw4) 5 (by simp)).1
  have aw4_6 : w4.cell? ⟨w.heap.size, 6, none⟩ = some (.slice h.ap r.pairs.length h.cp) := ((unhide Kaw4) 6 (by simp)).1
  have aw4_7 : w4.cell? ⟨w.heap.size, 7, none⟩ = some (.slice h.at' r.types.length h.ct) := ((unhide Kaw4) 7 (by simp)).1
  have aw4_8 : w4.cell? ⟨w.heap.size, 8, none⟩ = some (.int .i64 r.master) := ((unhide Kaw4) 8 (by simp)).1
  have aw4_9 : w4.cell? ⟨w.heap.size, 9, none⟩ = some (.slice h.ai r.items.length h.ci) := ((unhide Kaw4) 9 (by simp)).1
  go_wp2_with fail
  clear aw4_0 aw4_1 aw4_2 aw4_3 aw4_4 aw4_5 aw4_6 aw4_7 aw4_8 aw4_9
  have hb : Below w4.heap.size w4 (w4.alloc (.cells #[.int .i64 (masterV r).id, .int .i64 (masterV r).wd, .int .i64 (masterV r).ht, .int .i64 (masterV r).dp, .int .i64 (masterV r).tare, .int .i64 (masterV r).gram, .int .i64 (masterV r).cost] 27)) := (Below.refl _ _).alloc (Nat.le_refl _) _
  have Ktw5 : Hid (Blk (w4.alloc (.cells #[.int .i64 (masterV r).id, .int .i64 (masterV r).wd, .int .i64 (masterV r).ht, .int .i64 (masterV r).dp, .int .i64 (masterV r).tare, .int .i64 (masterV r).gram, .int .i64 (masterV r).cost] 27)) w4.heap.size [.int .i64 (masterV r).id, .int .i64 (masterV r).wd, .int .i64 (masterV r).ht, .int .i64 (masterV r).dp, .int .i64 (masterV r).tare, .int .i64 (masterV r).gram, .int .i64 (masterV r).cost]) := Blk.allocAt [.int .i64 (masterV r).id, .int .i64 (masterV r).wd, .int .i64 (masterV r).ht, .int .i64 (masterV r).dp, .int .i64 (masterV r).tare, .int .i64 (masterV r).gram, .int .i64 (masterV r).cost] rfl
  have ztw5 : w4.heap.size < (w4.alloc (.cells #[.int .i64 (masterV r).id, .int .i64 (masterV r).wd, .int .i64 (masterV r).ht, .int .i64 (masterV r).dp, .int .i64 (masterV r).tare, .int .i64 (masterV r).gram, .int .i64 (masterV r).cost] 27)).heap.size := by simp
  generalize (w4.alloc (.cells #[.int .i64 (masterV r).id, .int .i64 (masterV r).wd, .int .i64 (masterV r).ht, .int .i64 (masterV r).dp, .int .i64 (masterV r).tare, .int .i64 (masterV r).gram, .int .i64 (masterV r).cost] 27)) = w5 at *
  have Hw5 : Hid (Below w.heap.size w w5) := (unhide Hw4).trans (hb.mono (unhide Hw4).size)
  have Kaw5 := hide (Blk.below hb zaw4 (unhide Kaw4))
  have zaw5 : w.heap.size < w5.heap.size := Nat.lt_of_lt_of_le zaw4 hb.size
  have Qrw5 : Hid (RdReq w5 r h) := (unhide Qrw4).mono hb
  clear Hw4 Kaw4 zaw4 Qrw4
  clear hb
  refine (toRequest_any r h _ (unhide Qrw5) hsm).mono ?_
  rintro e w6 ⟨h6, rfl, hq, hf, hbw6⟩
  have Hw6 : Hid (Below w.heap.size w w6) := (unhide Hw5).trans (hbw6.mono (unhide Hw5).size)
  have Kaw6 := hide (Blk.below hbw6 zaw5 (unhide Kaw5))
  have zaw6 : w.heap.size < w6.heap.size := Nat.lt_of_lt_of_le zaw5 hbw6.size
  have Ktw6 := hide (Blk.below hbw6 ztw5 (unhide Ktw5))
  have ztw6 : w4.heap.size < w6.heap.size := Nat.lt_of_lt_of_le ztw5 hbw6.size
  have Qrw6 : Hid (RdReq w6 r h) := (unhide Qrw5).mono hbw6
  clear Hw5 Kaw5 zaw5 Ktw5 ztw5 Qrw5
  clear hbw6
  have Qc6w6 : Hid (RdReq w6 r h6) := hq
  clear hq hf
  unfold reqVal
  go_wp2_with fail
  have hb : Below w6.heap.size w6 (w6.alloc (.cells #[.int .i64 r.way, .int .i64 r.pal.wd, .int .i64 r.pal.dp, .int .i64 r.pal.ht, .int .i64 r.pal.gram, .int .i64 r.classes, .slice h6.ap r.pairs.length h6.cp, .slice h6.at' r.types.length h6.ct, .int .i64 r.master, .slice h6.ai r.items.length h6.ci] 54)) := (Below.refl _ _).alloc (Nat.le_refl _) _
  have Kxw7 : Hid (Blk (w6.alloc (.cells #[.int .i64 r.way, .int .i64 r.pal.wd, .int .i64 r.pal.dp, .int .i64 r.pal.ht, .int .i64 r.pal.gram, .int .i64 r.classes, .slice h6.ap r.pairs.length h6.cp, .slice h6.at' r.types.length h6.ct, .int .i64 r.master, .slice h6.ai r.items.length h6.ci] 54)) w6.heap.size [.int .i64 r.way, .int .i64 r.pal.wd, .int .i64 r.pal.dp, .int .i64 r.pal.ht, .int .i64 r.pal.gram, .int .i64 r.classes, .slice h6.ap r.pairs.length h6.cp, .slice h6.at' r.types.length h6.ct, .int .i64 r.master, .slice h6.ai r.items.length h6.ci]) := Blk.allocAt [.int .i64 r.way, .int .i64 r.pal.wd, .int .i64 r.pal.dp, .int .i64 r.pal.ht, .int .i64 r.pal.gram, .int .i64 r.classes, .slice h6.ap r.pairs.length h6.cp, .slice h6.at' r.types.length h6.ct, .int .i64 r.master, .slice h6.ai r.items.length h6.ci] rfl
  have zxw7 : w6.heap.size < (w6.alloc (.cells #[.int .i64 r.way, .int .i64 r.pal.wd, .int .i64 r.pal.dp, .int .i64 r.pal.ht, .int .i64 r.pal.gram, .int .i64 r.classes, .slice h6.ap r.pairs.length h6.cp, .slice h6.at' r.types.length h6.ct, .int .i64 r.master, .slice h6.ai r.items.length h6.ci] 54)).heap.size := by simp
  generalize (w6.alloc (.cells #[.int .i64 r.way, .int .i64 r.pal.wd, .int .i64 r.pal.dp, .int .i64 r.pal.ht, .int .i64 r.pal.gram, .int .i64 r.classes, .slice h6.ap r.pairs.length h6.cp, .slice h6.at' r.types.length h6.ct, .int .i64 r.master, .slice h6.ai r.items.length h6.ci] 54)) = w7 at *
  have Hw7 : Hid (Below w.heap.size w w7) := (unhide Hw6).trans (hb.mono (unhide Hw6).size)
  have Kaw7 := hide (Blk.below hb zaw6 (unhide Kaw6))
  have zaw7 : w.heap.size < w7.heap.size := Nat.lt_of_lt_of_le zaw6 hb.size
  have Ktw7 := hide (Blk.below hb ztw6 (unhide Ktw6))
  have ztw7 : w4.heap.size < w7.heap.size := Nat.lt_of_lt_of_le ztw6 hb.size
  have Qrw7 : Hid (RdReq w7 r h) := (unhide Qrw6).mono hb
  have Qc6w7 : Hid (RdReq w7 r h6) := (unhide Qc6w6).mono hb
  clear Hw6 Kaw6 zaw6 Ktw6 ztw6 Qrw6 Qc6w6
  clear hb
  refine (masterOf_any r h6 _ (unhide Qc6w7) htl).mono ?_
  rintro e w8 ⟨rfl, hbw8⟩
  have Hw8 : Hid (Below w.heap.size w w8) := (unhide Hw7).trans (hbw8.mono (unhide Hw7).size)
  have Kaw8 := hide (Blk.below hbw8 zaw7 (unhide Kaw7))
  have zaw8 : w.heap.size < w8.heap.size := Nat.lt_of_lt_of_le zaw7 hbw8.size
  have Ktw8 := hide (Blk.below hbw8 ztw7 (unhide Ktw7))
  have ztw8 : w4.heap.size < w8.heap.size := Nat.lt_of_lt_of_le ztw7 hbw8.size
  have Kxw8 := hide (Blk.below hbw8 zxw7 (unhide Kxw7))
  have zxw8 : w6.heap.size < w8.heap.size := Nat.lt_of_lt_of_le zxw7 hbw8.size
  have Qrw8 : Hid (RdReq w8 r h) := (unhide Qrw7).mono hbw8
  have Qc6w8 : Hid (RdReq w8 r h6) := (unhide Qc6w7).mono hbw8
  clear Hw7 Kaw7 zaw7 Ktw7 ztw7 Kxw7 zxw7 Qrw7 Qc6w7
  clear hbw8
  have aw8_0 : w8.cell? ⟨w.heap.size, 0, none⟩ = some (.int .i64 r.way) := ((unhide Kaw8) 0 (by simp)).1
  have aw8_1 : w8.cell? ⟨w.heap.size, 1, none⟩ = some (.int .i64 r.pal.wd) := ((unhide Kaw8) 1 (by simp)).1
  have aw8_2 : w8.cell? ⟨w.heap.size, 2, none⟩ = some (.int .i64 r.pal.dp) := ((unhide Kaw8) 2 (by simp)).1
  have aw8_3 : w8.cell? ⟨w.heap.size, 3, none⟩ = some (.int .i64 r.pal.ht) := ((unhide Kaw8) 3 (by simp)).1
  have aw8_4 : w8.cell? ⟨w.heap.size, 4, none⟩ = some (.int .i64 r.pal.gram) := ((unhide Kaw8) 4 (by simp)).1
  have aw8_5 : w8.cell? ⟨w.heap.size, 5, none⟩ = some (.int .i64 r.classes) := ((unhide Kaw8) 5 (by simp)).1
  have aw8_6 : w8.cell? ⟨w.heap.size, 6, none⟩ = some (.slice h.ap r.pairs.length h.cp) := ((unhide Kaw8) 6 (by simp)).1
  have aw8_7 : w8.cell? ⟨w.heap.size, 7, none⟩ = some (.slice h.at' r.types.length h.ct) := ((unhide Kaw8) 7 (by simp)).1
  have aw8_8 : w8.cell? ⟨w.heap.size, 8, none⟩ = some (.int .i64 r.master) := ((unhide Kaw8) 8 (by simp)).1
  have aw8_9 : w8.cell? ⟨w.heap.size, 9, none⟩ = some (.slice h.ai r.items.length h.ci) := ((unhide Kaw8) 9 (by simp)).1
  have tw8_0 : w8.cell? ⟨w4.heap.size, 0, none⟩ = some (.int .i64 (masterV r).id) := ((unhide Ktw8) 0 (by simp)).1
  have tw8_1 : w8.cell? ⟨w4.heap.size, 1, none⟩ = some (.int .i64 (masterV r).wd) := ((unhide Ktw8) 1 (by simp)).1
  have tw8_2 : w8.cell? ⟨w4.heap.size, 2, none⟩ = some (.int .i64 (masterV r).ht) := ((unhide Ktw8) 2 (by simp)).1
  have tw8_3 : w8.cell? ⟨w4.heap.size, 3, none⟩ = some (.int .i64 (masterV r).dp) := ((unhide Ktw8) 3 (by simp)).1
  have tw8_4 : w8.cell? ⟨w4.heap.size, 4, none⟩ = some (.int .i64 (masterV r).tare) := ((unhide Ktw8) 4 (by simp)).1
  have tw8_5 : w8.cell? ⟨w4.heap.size, 5, none⟩ = some (.int .i64 (masterV r).gram) := ((unhide Ktw8) 5 (by simp)).1
  have tw8_6 : w8.cell? ⟨w4.heap.size, 6, none⟩ = some (.int .i64 (masterV r).cost) := ((unhide Ktw8) 6 (by simp)).1
  have xw8_0 : w8.cell? ⟨w6.heap.size, 0, none⟩ = some (.int .i64 r.way) := ((unhide Kxw8) 0 (by simp)).1
  have xw8_1 : w8.cell? ⟨w6.heap.size, 1, none⟩ = some (.int .i64 r.pal.wd) := ((unhide Kxw8) 1 (by simp)).1
  have xw8_2 : w8.cell? ⟨w6.heap.size, 2, none⟩ = some (.int .i64 r.pal.dp) := ((unhide Kxw8) 2 (by simp)).1
  have xw8_3 : w8.cell? ⟨w6.heap.size, 3, none⟩ = some (.int .i64 r.pal.ht) := ((unhide Kxw8) 3 (by simp)).1
  have xw8_4 : w8.cell? ⟨w6.heap.size, 4, none⟩ = some (.int .i64 r.pal.gram) := ((unhide Kxw8) 4 (by simp)).1
  have xw8_5 : w8.cell? ⟨w6.heap.size, 5, none⟩ = some (.int .i64 r.classes) := ((unhide Kxw8) 5 (by simp)).1
  have xw8_6 : w8.cell? ⟨w6.heap.size, 6, none⟩ = some (.slice h6.ap r.pairs.length h6.cp) := ((unhide Kxw8) 6 (by simp)).1
  have xw8_7 : w8.cell? ⟨w6.heap.size, 7, none⟩ = some (.slice h6.at' r.types.length h6.ct) := ((unhide Kxw8) 7 (by simp)).1
  have xw8_8 : w8.cell? ⟨w6.heap.size, 8, none⟩ = some (.int .i64 r.master) := ((unhide Kxw8) 8 (by simp)).1
  have xw8_9 : w8.cell? ⟨w6.heap.size, 9, none⟩ = some (.slice h6.ai r.items.length h6.ci) := ((unhide Kxw8) 9 (by simp)).1
  go_wp2_with fail
  clear aw8_0 aw8_1 aw8_2 aw8_3 aw8_4 aw8_5 aw8_6 aw8_7 aw8_8 aw8_9 tw8_0 tw8_1 tw8_2 tw8_3 tw8_4 tw8_5 tw8_6 xw8_0 xw8_1 xw8_2 xw8_3 xw8_4 xw8_5 xw8_6 xw8_7 xw8_8 xw8_9
  have hb : Below w8.heap.size w8 (w8.alloc (.cells #[.int .i64 (masterV r).id, .int .i64 (masterV r).wd, .int .i64 (masterV r).ht, .int .i64 (masterV r).dp, .int .i64 (masterV r).tare, .int .i64 (masterV r).gram, .int .i64 (masterV r).cost] 27)) := (Below.refl _ _).alloc (Nat.le_refl _) _
  have Kmw9 : Hid (Blk (w8.alloc (.cells #[.int .i64 (masterV r).id, .int .i64 (masterV r).wd, .int .i64 (masterV r).ht, .int .i64 (masterV r).dp, .int .i64 (masterV r).tare, .int .i64 (masterV r).gram, .int .i64 (masterV r).cost] 27)) w8.heap.size [.int .i64 (masterV r).id, .int .i64 (masterV r).wd, .int .i64 (masterV r).ht, .int .i64 (masterV r).dp, .int .i64 (masterV r).tare, .int .i64 (masterV r).gram, .int .i64 (masterV r).cost]) := Blk.allocAt [.int .i64 (masterV r).id, .int .i64 (masterV r).wd, .int .i64 (masterV r).ht, .int .i64 (masterV r).dp, .int .i64 (masterV r).tare, .int .i64 (masterV r).gram, .int .i64 (masterV r).cost] rfl
  have zmw9 : w8.heap.size < (w8.alloc (.cells #[.int .i64 (masterV r).id, .int .i64 (masterV r).wd, .int .i64 (masterV r).ht, .int .i64 (masterV r).dp, .int .i64 (masterV r).tare, .int .i64 (masterV r).gram, .int .i64 (masterV r).cost] 27)).heap.size := by simp
  generalize (w8.alloc (.cells #[.int .i64 (masterV r).id, .int .i64 (masterV r).wd, .int .i64 (masterV r).ht, .int .i64 (masterV r).dp, .int .i64 (masterV r).tare, .int .i64 (masterV r).gram, .int .i64 (masterV r).cost] 27)) = w9 at *
  have Hw9 : Hid (Below w.heap.size w w9) := (unhide Hw8).trans (hb.mono (unhide Hw8).size)
  have Kaw9 := hide (Blk.below hb zaw8 (unhide Kaw8))
  have zaw9 : w.heap.size < w9.heap.size := Nat.lt_of_lt_of_le zaw8 hb.size
  have Ktw9 := hide (Blk.below hb ztw8 (unhide Ktw8))
  have ztw9 : w4.heap.size < w9.heap.size := Nat.lt_of_lt_of_le ztw8 hb.size
  have Kxw9 := hide (Blk.below hb zxw8 (unhide Kxw8))
  have zxw9 : w6.heap.size < w9.heap.size := Nat.lt_of_lt_of_le zxw8 hb.size
  have Qrw9 : Hid (RdReq w9 r h) := (unhide Qrw8).mono hb
  have Qc6w9 : Hid (RdReq w9 r h6) := (unhide Qc6w8).mono hb
  clear Hw8 Kaw8 zaw8 Ktw8 ztw8 Kxw8 zxw8 Qrw8 Qc6w8
  clear hb
  refine (eqType_same _ _ _ _ _ _ _ _).mono ?_
  rintro e w10 ⟨rfl, hbw10⟩
  have Hw10 : Hid (Below w.heap.size w w10) := (unhide Hw9).trans (hbw10.mono (unhide Hw9).size)
  have Kaw10 := hide (Blk.below hbw10 zaw9 (unhide Kaw9))
  have zaw10 : w.heap.size < w10.heap.size := Nat.lt_of_lt_of_le zaw9 hbw10.size
  have Ktw10 := hide (Blk.below hbw10 ztw9 (unhide Ktw9))
  have ztw10 : w4.heap.size < w10.heap.size := Nat.lt_of_lt_of_le ztw9 hbw10.size
  have Kxw10 := hide (Blk.below hbw10 zxw9 (unhide Kxw9))
  have zxw10 : w6.heap.size < w10.heap.size := Nat.lt_of_lt_of_le zxw9 hbw10.size
  have Kmw10 := hide (Blk.below hbw10 zmw9 (unhide Kmw9))
  have zmw10 : w8.heap.size < w10.heap.size := Nat.lt_of_lt_of_le zmw9 hbw10.size
  have Qrw10 : Hid (RdReq w10 r h) := (unhide Qrw9).mono hbw10
  have Qc6w10 : Hid (RdReq w10 r h6) := (unhide Qc6w9).mono hbw10
  clear Hw9 Kaw9 zaw9 Ktw9 ztw9 Kxw9 zxw9 Kmw9 zmw9 Qrw9 Qc6w9
  clear hbw10
  have aw10_0 : w10.cell? ⟨w.heap.size, 0, none⟩ = some (.int .i64 r.way) := ((unhide Kaw10) 0 (by simp)).1
  have aw10_1 : w10.cell? ⟨w.heap.size, 1, none⟩ = some (.int .i64 r.pal.wd) := ((unhide Kaw10) 1 (by simp)).1
  have aw10_2 : w10.cell? ⟨w.heap.size, 2, none⟩ = some (.int .i64 r.pal.dp) := ((unhide Kaw10) 2 (by simp)).1
  have aw10_3 : w10.cell? ⟨w.heap.size, 3, none⟩ = some (.int .i64 r.pal.ht) := ((unhide Kaw10) 3 (by simp)).1
  have aw10_4 : w10.cell? ⟨w.heap.size, 4, none⟩ = some (.int .i64 r.pal.gram) := ((unhide Kaw10) 4 (by simp)).1
  have aw10_5 : w10.cell? ⟨w.heap.size, 5, none⟩ = some (.int .i64 r.classes) := ((unhide Kaw10) 5 (by simp)).1
  have aw10_6 : w10.cell? ⟨w.heap.size, 6, none⟩ = some (.slice h.ap r.pairs.length h.cp) := ((unhide Kaw10) 6 (by simp)).1
  have aw10_7 : w10.cell? ⟨w.heap.size, 7, none⟩ = some (.slice h.at' r.types.length h.ct) := ((unhide Kaw10) 7 (by simp)).1
  have aw10_8 : w10.cell? ⟨w.heap.size, 8, none⟩ = some (.int .i64 r.master) := ((unhide Kaw10) 8 (by simp)).1
  have aw10_9 : w10.cell? ⟨w.heap.size, 9, none⟩ = some (.slice h.ai r.items.length h.ci) := ((unhide Kaw10) 9 (by simp)).1
  have xw10_0 : w10.cell? ⟨w6.heap.size, 0, none⟩ = some (.int .i64 r.way) := ((unhide Kxw10) 0 (by simp)).1
  have xw10_1 : w10.cell? ⟨w6.heap.size, 1, none⟩ = some (.int .i64 r.pal.wd) := ((unhide Kxw10) 1 (by simp)).1
  have xw10_2 : w10.cell? ⟨w6.heap.size, 2, none⟩ = some (.int .i64 r.pal.dp) := ((unhide Kxw10) 2 (by simp)).1
  have xw10_3 : w10.cell? ⟨w6.heap.size, 3, none⟩ = some (.int .i64 r.pal.ht) := ((unhide Kxw10) 3 (by simp)).1
  have xw10_4 : w10.cell? ⟨w6.heap.size, 4, none⟩ = some (.int .i64 r.pal.gram) := ((unhide Kxw10) 4 (by simp)).1
  have xw10_5 : w10.cell? ⟨w6.heap.size, 5, none⟩ = some (.int .i64 r.classes) := ((unhide Kxw10) 5 (by simp)).1
  have xw10_6 : w10.cell? ⟨w6.heap.size, 6, none⟩ = some (.slice h6.ap r.pairs.length h6.cp) := ((unhide Kxw10) 6 (by simp)).1
  have xw10_7 : w10.cell? ⟨w6.heap.size, 7, none⟩ = some (.slice h6.at' r.types.length h6.ct) := ((unhide Kxw10) 7 (by simp)).1
  have xw10_8 : w10.cell? ⟨w6.heap.size, 8, none⟩ = some (.int .i64 r.master) := ((unhide Kxw10) 8 (by simp)).1
  have xw10_9 : w10.cell? ⟨w6.heap.size, 9, none⟩ = some (.slice h6.ai r.items.length h6.ci) := ((unhide Kxw10) 9 (by simp)).1
  have DX : Hid (Blk w10.drew w6.heap.size [.int .i64 r.way, .int .i64 r.pal.wd, .int .i64 r.pal.dp, .int .i64 r.pal.ht, .int .i64 r.pal.gram, .int .i64 r.classes, .slice h6.ap r.pairs.length h6.cp, .slice h6.at' r.types.length h6.ct, .int .i64 r.master, .slice h6.ai r.items.length h6.ci]) := unhide Kxw10
  have DQ : Hid (RdReq w10.drew r h) := (unhide Qrw10).mono (Below.refl _ _).drew
  have DC : Hid (RdReq w10.drew r h6) := (unhide Qc6w10).mono (Below.refl _ _).drew
  have DH : Hid (Below w.heap.size w w10.drew) := (unhide Hw10).drew
  go_wp2_with fail
  go_region_with (first
    | (go_at_call 17; go_must (refine (toRequest_any r h _ (by exact unhide DQ) hsm).mono ?_; rintro e u1 ⟨g1, rfl, hq, hf, hb⟩; have Q1 := hide hq; have B1 := hide hb; have X1 := Blk.below hb (by exact zxw10) (unhide DX); have y0 : u1.cell? ⟨w6.heap.size, 0, none⟩ = some (.int .i64 r.way) := (X1 0 (by simp)).1; have y1 : u1.cell? ⟨w6.heap.size, 1, none⟩ = some (.int .i64 r.pal.wd) := (X1 1 (by simp)).1; have y2 : u1.cell? ⟨w6.heap.size, 2, none⟩ = some (.int .i64 r.pal.dp) := (X1 2 (by simp)).1; have y3 : u1.cell? ⟨w6.heap.size, 3, none⟩ = some (.int .i64 r.pal.ht) := (X1 3 (by simp)).1; have y4 : u1.cell? ⟨w6.heap.size, 4, none⟩ = some (.int .i64 r.pal.gram) := (X1 4 (by simp)).1; have y5 : u1.cell? ⟨w6.heap.size, 5, none⟩ = some (.int .i64 r.classes) := (X1 5 (by simp)).1; have y6 : u1.cell? ⟨w6.heap.size, 6, none⟩ = some (.slice h6.ap r.pairs.length h6.cp) := (X1 6 (by simp)).1; have y7 : u1.cell? ⟨w6.heap.size, 7, none⟩ = some (.slice h6.at' r.types.length h6.ct) := (X1 7 (by simp)).1; have y8 : u1.cell? ⟨w6.heap.size, 8, none⟩ = some (.int .i64 r.master) := (X1 8 (by simp)).1; have y9 : u1.cell? ⟨w6.heap.size, 9, none⟩ = some (.slice h6.ai r.items.length h6.ci) := (X1 9 (by simp)).1; clear hq hf hb X1))
    | (go_at_call 20; go_must (refine (eqRequest_same r h6 g1 _ (by exact (unhide DC).mono (unhide B1)) (by exact unhide Q1) hsm).mono ?_; rintro e u2 ⟨rfl, hb⟩; have B2 := hide hb; clear hb)))
  all_goals
    go_wp2
    go_ret
    exact ⟨rfl, ((unhide DH).trans ((unhide B1).mono (unhide DH).size)).trans ((unhide B2).mono ((unhide DH).trans ((unhide B1).mono (unhide DH).size)).size)⟩
end Go.Proofs.Ytdkndgklokljnaa
