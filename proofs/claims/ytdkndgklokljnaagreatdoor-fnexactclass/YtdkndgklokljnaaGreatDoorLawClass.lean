/- The law of Class, walked. -/
import Derived.Test.YtdkndgklokljnaaGreatDoorClassImpl
import Derived.Test.YtdkndgklokljnaaGreatDoorSpecClass2
import Derived.Deep.DeepMust
namespace Go.Proofs.YtdkndgklokljnaaGreatDoor
open Go.RowKit
set_option linter.unusedVariables false
set_option maxHeartbeats 2000000 in
theorem law_class (r : ReqV) (h : ReqH) (w : World) (hr : RdReq w r h) (hp : r.pairs.length ≤ maxLen) (ht : r.types.length ≤ maxLen) (hi : r.items.length ≤ maxLen) (hg : ErrT w) :
    Calls Tryz.prog 4 #[reqVal r h] w fun e w' => e = .returned (.bool true) ∧ Below w.heap.size w w' := by
  have hne : (classI r != classI r) = false := by simp
  by_cases hs : (1048576 : Int) - r.pairs.length - r.types.length - r.items.length < 0
  · unfold reqVal
    go_enter Tryz.func4, Tryz.ntmps4
    go_wp2_with fail
    refine (szRequest_any r h _ _ (by omega) (by omega) hp ht hi).mono ?_
    rintro e w1 ⟨rfl, hb1⟩
    rw [if_pos (by omega)]
    have H1 : Hid (Below w.heap.size w w1) := ((Below.refl w.heap.size w).alloc (Nat.le_refl _) _).trans (hb1.mono (by simp))
    clear hb1
    go_wp2_with fail
    go_ret
    exact ⟨rfl, unhide H1⟩
  have hsm : r.small := by unfold ReqV.small; omega
  have htl : r.types.length ≤ 1048600 := by unfold ReqV.small at hsm; omega
  unfold reqVal
  go_enter Tryz.func4, Tryz.ntmps4
  go_wp2_with fail
  have hb : Below w.heap.size w (w.alloc (.cells #[.int .i64 r.way, .int .i64 r.pal.wd, .int .i64 r.pal.dp, .int .i64 r.pal.ht, .int .i64 r.pal.gram, .int .i64 r.classes, .slice h.ap r.pairs.length h.cp, .slice h.at' r.types.length h.ct, .int .i64 r.master, .slice h.ai r.items.length h.ci] 50)) := (Below.refl _ _).alloc (Nat.le_refl _) _
  have Kaw1 : Hid (Blk (w.alloc (.cells #[.int .i64 r.way, .int .i64 r.pal.wd, .int .i64 r.pal.dp, .int .i64 r.pal.ht, .int .i64 r.pal.gram, .int .i64 r.classes, .slice h.ap r.pairs.length h.cp, .slice h.at' r.types.length h.ct, .int .i64 r.master, .slice h.ai r.items.length h.ci] 50)) w.heap.size [.int .i64 r.way, .int .i64 r.pal.wd, .int .i64 r.pal.dp, .int .i64 r.pal.ht, .int .i64 r.pal.gram, .int .i64 r.classes, .slice h.ap r.pairs.length h.cp, .slice h.at' r.types.length h.ct, .int .i64 r.master, .slice h.ai r.items.length h.ci]) := Blk.allocAt [.int .i64 r.way, .int .i64 r.pal.wd, .int .i64 r.pal.dp, .int .i64 r.pal.ht, .int .i64 r.pal.gram, .int .i64 r.classes, .slice h.ap r.pairs.length h.cp, .slice h.at' r.types.length h.ct, .int .i64 r.master, .slice h.ai r.items.length h.ci] rfl
  have zaw1 : w.heap.size < (w.alloc (.cells #[.int .i64 r.way, .int .i64 r.pal.wd, .int .i64 r.pal.dp, .int .i64 r.pal.ht, .int .i64 r.pal.gram, .int .i64 r.classes, .slice h.ap r.pairs.length h.cp, .slice h.at' r.types.length h.ct, .int .i64 r.master, .slice h.ai r.items.length h.ci] 50)).heap.size := by simp
  generalize (w.alloc (.cells #[.int .i64 r.way, .int .i64 r.pal.wd, .int .i64 r.pal.dp, .int .i64 r.pal.ht, .int .i64 r.pal.gram, .int .i64 r.classes, .slice h.ap r.pairs.length h.cp, .slice h.at' r.types.length h.ct, .int .i64 r.master, .slice h.ai r.items.length h.ci] 50)) = w1 at *
  have Hw1 : Hid (Below w.heap.size w w1) := hb
  clear hb
  have Qrw1 : Hid (RdReq w1 r h) := hr.mono (unhide Hw1)
  refine (szRequest_any r h _ _ (by omega) (by omega) hp ht hi).mono ?_
  rintro e w2 ⟨rfl, hbw2⟩
  have Hw2 : Hid (Below w.heap.size w w2) := (unhide Hw1).trans (hbw2.mono (unhide Hw1).size)
  have Kaw2 := hide (Blk.below hbw2 zaw1 (unhide Kaw1))
  have zaw2 : w.heap.size < w2.heap.size := Nat.lt_of_lt_of_le zaw1 hbw2.size
  have Qrw2 : Hid (RdReq w2 r h) := (unhide Qrw1).mono hbw2
  clear Hw1 Kaw1 zaw1 Qrw1
  clear hbw2
  rw [if_neg (by omega)]
  have Qgw2 : Hid (ErrT w2) := hg.later (unhide Hw2)
  have aw2_0 : w2.cell? ⟨w.heap.size, 0, none⟩ = some (.int .i64 r.way) := ((unhide Kaw2) 0 (by simp)).1
  have aw2_1 : w2.cell? ⟨w.heap.size, 1, none⟩ = some (.int .i64 r.pal.wd) := ((unhide Kaw2) 1 (by simp)).1
  have aw2_2 : w2.cell? ⟨w.heap.size, 2, none⟩ = some (.int .i64 r.pal.dp) := ((unhide Kaw2) 2 (by simp)).1
  have aw2_3 : w2.cell? ⟨w.heap.size, 3, none⟩ = some (.int .i64 r.pal.ht) := ((unhide Kaw2) 3 (by simp)).1
  have aw2_4 : w2.cell? ⟨w.heap.size, 4, none⟩ = some (.int .i64 r.pal.gram) := ((unhide Kaw2) 4 (by simp)).1
  have aw2_5 : w2.cell? ⟨w.heap.size, 5, none⟩ = some (.int .i64 r.classes) := ((unhide Kaw2) 5 (by simp)).1
  have aw2_6 : w2.cell? ⟨w.heap.size, 6, none⟩ = some (.slice h.ap r.pairs.length h.cp) := ((unhide Kaw2) 6 (by simp)).1
  have aw2_7 : w2.cell? ⟨w.heap.size, 7, none⟩ = some (.slice h.at' r.types.length h.ct) := ((unhide Kaw2) 7 (by simp)).1
  have aw2_8 : w2.cell? ⟨w.heap.size, 8, none⟩ = some (.int .i64 r.master) := ((unhide Kaw2) 8 (by simp)).1
  have aw2_9 : w2.cell? ⟨w.heap.size, 9, none⟩ = some (.slice h.ai r.items.length h.ci) := ((unhide Kaw2) 9 (by simp)).1
  go_wp2_with fail
  refine (toRequest_any r h _ (unhide Qrw2) hsm).mono ?_
  rintro e w3 ⟨h3, rfl, hq, hf, hbw3⟩
  clear aw2_0 aw2_1 aw2_2 aw2_3 aw2_4 aw2_5 aw2_6 aw2_7 aw2_8 aw2_9
  have Hw3 : Hid (Below w.heap.size w w3) := (unhide Hw2).trans (hbw3.mono (unhide Hw2).size)
  have Kaw3 := hide (Blk.below hbw3 zaw2 (unhide Kaw2))
  have zaw3 : w.heap.size < w3.heap.size := Nat.lt_of_lt_of_le zaw2 hbw3.size
  have Qrw3 : Hid (RdReq w3 r h) := (unhide Qrw2).mono hbw3
  have Qgw3 : Hid (ErrT w3) := (unhide Qgw2).later hbw3
  clear Hw2 Kaw2 zaw2 Qrw2 Qgw2
  clear hbw3
  have Qc3w3 : Hid (RdReq w3 r h3) := hq
  clear hq hf
  unfold reqVal
  go_wp2_with fail
  refine (specClass_any r h3 _ (unhide Qc3w3) hsm).mono ?_
  rintro e w4 ⟨rfl, hbw4⟩
  have Hw4 : Hid (Below w.heap.size w w4) := (unhide Hw3).trans (hbw4.mono (unhide Hw3).size)
  have Kaw4 := hide (Blk.below hbw4 zaw3 (unhide Kaw3))
  have zaw4 : w.heap.size < w4.heap.size := Nat.lt_of_lt_of_le zaw3 hbw4.size
  have Qrw4 : Hid (RdReq w4 r h) := (unhide Qrw3).mono hbw4
  have Qgw4 : Hid (ErrT w4) := (unhide Qgw3).later hbw4
  have Qc3w4 : Hid (RdReq w4 r h3) := (unhide Qc3w3).mono hbw4
  clear Hw3 Kaw3 zaw3 Qrw3 Qgw3 Qc3w3
  clear hbw4
  clear Qc3w4
  have aw4_0 : w4.cell? ⟨w.heap.size, 0, none⟩ = some (.int .i64 r.way) := ((unhide Kaw4) 0 (by simp)).1
  have aw4_1 : w4.cell? ⟨w.heap.size, 1, none⟩ = some (.int .i64 r.pal.wd) := ((unhide Kaw4) 1 (by simp)).1
  have aw4_2 : w4.cell? ⟨w.heap.size, 2, none⟩ = some (.int .i64 r.pal.dp) := ((unhide Kaw4) 2 (by simp)).1
  have aw4_3 : w4.cell? ⟨w.heap.size, 3, none⟩ = some (.int .i64 r.pal.ht) := ((unhide Kaw4) 3 (by simp)).1
  have aw4_4 : w4.cell? ⟨w.heap.size, 4, none⟩ = some (.int .i64 r.pal.gram) := ((unhide Kaw4) 4 (by simp)).1
  have aw4_5 : w4.cell? ⟨w.heap.size, 5, none⟩ = some (.int .i64 r.classes) := ((unhide Kaw4) 5 (by simp)).1
  have aw4_6 : w4.cell? ⟨w.heap.size, 6, none⟩ = some (.slice h.ap r.pairs.length h.cp) := ((unhide Kaw4) 6 (by simp)).1
  have aw4_7 : w4.cell? ⟨w.heap.size, 7, none⟩ = some (.slice h.at' r.types.length h.ct) := ((unhide Kaw4) 7 (by simp)).1
  have aw4_8 : w4.cell? ⟨w.heap.size, 8, none⟩ = some (.int .i64 r.master) := ((unhide Kaw4) 8 (by simp)).1
  have aw4_9 : w4.cell? ⟨w.heap.size, 9, none⟩ = some (.slice h.ai r.items.length h.ci) := ((unhide Kaw4) 9 (by simp)).1
  go_wp2_with fail
  refine (toRequest_any r h _ (unhide Qrw4) hsm).mono ?_
  rintro e w5 ⟨h5, rfl, hq, hf, hbw5⟩
  clear aw4_0 aw4_1 aw4_2 aw4_3 aw4_4 aw4_5 aw4_6 aw4_7 aw4_8 aw4_9
  have Hw5 : Hid (Below w.heap.size w w5) := (unhide Hw4).trans (hbw5.mono (unhide Hw4).size)
  have Kaw5 := hide (Blk.below hbw5 zaw4 (unhide Kaw4))
  have zaw5 : w.heap.size < w5.heap.size := Nat.lt_of_lt_of_le zaw4 hbw5.size
  have Qrw5 : Hid (RdReq w5 r h) := (unhide Qrw4).mono hbw5
  have Qgw5 : Hid (ErrT w5) := (unhide Qgw4).later hbw5
  clear Hw4 Kaw4 zaw4 Qrw4 Qgw4
  clear hbw5
  have Qc5w5 : Hid (RdReq w5 r h5) := hq
  clear hq hf
  unfold reqVal
  go_wp2_with fail
  have hb : Below w5.heap.size w5 (w5.alloc (.cells #[.int .i64 r.way, .int .i64 r.pal.wd, .int .i64 r.pal.dp, .int .i64 r.pal.ht, .int .i64 r.pal.gram, .int .i64 r.classes, .slice h5.ap r.pairs.length h5.cp, .slice h5.at' r.types.length h5.ct, .int .i64 r.master, .slice h5.ai r.items.length h5.ci] 30)) := (Below.refl _ _).alloc (Nat.le_refl _) _
  have Kxw6 : Hid (Blk (w5.alloc (.cells #[.int .i64 r.way, .int .i64 r.pal.wd, .int .i64 r.pal.dp, .int .i64 r.pal.ht, .int .i64 r.pal.gram, .int .i64 r.classes, .slice h5.ap r.pairs.length h5.cp, .slice h5.at' r.types.length h5.ct, .int .i64 r.master, .slice h5.ai r.items.length h5.ci] 30)) w5.heap.size [.int .i64 r.way, .int .i64 r.pal.wd, .int .i64 r.pal.dp, .int .i64 r.pal.ht, .int .i64 r.pal.gram, .int .i64 r.classes, .slice h5.ap r.pairs.length h5.cp, .slice h5.at' r.types.length h5.ct, .int .i64 r.master, .slice h5.ai r.items.length h5.ci]) := Blk.allocAt [.int .i64 r.way, .int .i64 r.pal.wd, .int .i64 r.pal.dp, .int .i64 r.pal.ht, .int .i64 r.pal.gram, .int .i64 r.classes, .slice h5.ap r.pairs.length h5.cp, .slice h5.at' r.types.length h5.ct, .int .i64 r.master, .slice h5.ai r.items.length h5.ci] rfl
  have zxw6 : w5.heap.size < (w5.alloc (.cells #[.int .i64 r.way, .int .i64 r.pal.wd, .int .i64 r.pal.dp, .int .i64 r.pal.ht, .int .i64 r.pal.gram, .int .i64 r.classes, .slice h5.ap r.pairs.length h5.cp, .slice h5.at' r.types.length h5.ct, .int .i64 r.master, .slice h5.ai r.items.length h5.ci] 30)).heap.size := by simp
  generalize (w5.alloc (.cells #[.int .i64 r.way, .int .i64 r.pal.wd, .int .i64 r.pal.dp, .int .i64 r.pal.ht, .int .i64 r.pal.gram, .int .i64 r.classes, .slice h5.ap r.pairs.length h5.cp, .slice h5.at' r.types.length h5.ct, .int .i64 r.master, .slice h5.ai r.items.length h5.ci] 30)) = w6 at *
  have Hw6 : Hid (Below w.heap.size w w6) := (unhide Hw5).trans (hb.mono (unhide Hw5).size)
  have Kaw6 := hide (Blk.below hb zaw5 (unhide Kaw5))
  have zaw6 : w.heap.size < w6.heap.size := Nat.lt_of_lt_of_le zaw5 hb.size
  have Qrw6 : Hid (RdReq w6 r h) := (unhide Qrw5).mono hb
  have Qgw6 : Hid (ErrT w6) := (unhide Qgw5).later hb
  have Qc5w6 : Hid (RdReq w6 r h5) := (unhide Qc5w5).mono hb
  clear Hw5 Kaw5 zaw5 Qrw5 Qgw5 Qc5w5
  clear hb
  refine (class_any r h5 _ (unhide Qc5w6) hsm (unhide Qgw6)).mono ?_
  rintro e w7 ⟨rfl, hbw7⟩
  have Hw7 : Hid (Below w.heap.size w w7) := (unhide Hw6).trans (hbw7.mono (unhide Hw6).size)
  have Kaw7 := hide (Blk.below hbw7 zaw6 (unhide Kaw6))
  have zaw7 : w.heap.size < w7.heap.size := Nat.lt_of_lt_of_le zaw6 hbw7.size
  have Kxw7 := hide (Blk.below hbw7 zxw6 (unhide Kxw6))
  have zxw7 : w5.heap.size < w7.heap.size := Nat.lt_of_lt_of_le zxw6 hbw7.size
  have Qrw7 : Hid (RdReq w7 r h) := (unhide Qrw6).mono hbw7
  have Qgw7 : Hid (ErrT w7) := (unhide Qgw6).later hbw7
  have Qc5w7 : Hid (RdReq w7 r h5) := (unhide Qc5w6).mono hbw7
  clear Hw6 Kaw6 zaw6 Kxw6 zxw6 Qrw6 Qgw6 Qc5w6
  clear hbw7
  have aw7_0 : w7.cell? ⟨w.heap.size, 0, none⟩ = some (.int .i64 r.way) := ((unhide Kaw7) 0 (by simp)).1
  have aw7_1 : w7.cell? ⟨w.heap.size, 1, none⟩ = some (.int .i64 r.pal.wd) := ((unhide Kaw7) 1 (by simp)).1
  have aw7_2 : w7.cell? ⟨w.heap.size, 2, none⟩ = some (.int .i64 r.pal.dp) := ((unhide Kaw7) 2 (by simp)).1
  have aw7_3 : w7.cell? ⟨w.heap.size, 3, none⟩ = some (.int .i64 r.pal.ht) := ((unhide Kaw7) 3 (by simp)).1
  have aw7_4 : w7.cell? ⟨w.heap.size, 4, none⟩ = some (.int .i64 r.pal.gram) := ((unhide Kaw7) 4 (by simp)).1
  have aw7_5 : w7.cell? ⟨w.heap.size, 5, none⟩ = some (.int .i64 r.classes) := ((unhide Kaw7) 5 (by simp)).1
  have aw7_6 : w7.cell? ⟨w.heap.size, 6, none⟩ = some (.slice h.ap r.pairs.length h.cp) := ((unhide Kaw7) 6 (by simp)).1
  have aw7_7 : w7.cell? ⟨w.heap.size, 7, none⟩ = some (.slice h.at' r.types.length h.ct) := ((unhide Kaw7) 7 (by simp)).1
  have aw7_8 : w7.cell? ⟨w.heap.size, 8, none⟩ = some (.int .i64 r.master) := ((unhide Kaw7) 8 (by simp)).1
  have aw7_9 : w7.cell? ⟨w.heap.size, 9, none⟩ = some (.slice h.ai r.items.length h.ci) := ((unhide Kaw7) 9 (by simp)).1
  have xw7_0 : w7.cell? ⟨w5.heap.size, 0, none⟩ = some (.int .i64 r.way) := ((unhide Kxw7) 0 (by simp)).1
  have xw7_1 : w7.cell? ⟨w5.heap.size, 1, none⟩ = some (.int .i64 r.pal.wd) := ((unhide Kxw7) 1 (by simp)).1
  have xw7_2 : w7.cell? ⟨w5.heap.size, 2, none⟩ = some (.int .i64 r.pal.dp) := ((unhide Kxw7) 2 (by simp)).1
  have xw7_3 : w7.cell? ⟨w5.heap.size, 3, none⟩ = some (.int .i64 r.pal.ht) := ((unhide Kxw7) 3 (by simp)).1
  have xw7_4 : w7.cell? ⟨w5.heap.size, 4, none⟩ = some (.int .i64 r.pal.gram) := ((unhide Kxw7) 4 (by simp)).1
  have xw7_5 : w7.cell? ⟨w5.heap.size, 5, none⟩ = some (.int .i64 r.classes) := ((unhide Kxw7) 5 (by simp)).1
  have xw7_6 : w7.cell? ⟨w5.heap.size, 6, none⟩ = some (.slice h5.ap r.pairs.length h5.cp) := ((unhide Kxw7) 6 (by simp)).1
  have xw7_7 : w7.cell? ⟨w5.heap.size, 7, none⟩ = some (.slice h5.at' r.types.length h5.ct) := ((unhide Kxw7) 7 (by simp)).1
  have xw7_8 : w7.cell? ⟨w5.heap.size, 8, none⟩ = some (.int .i64 r.master) := ((unhide Kxw7) 8 (by simp)).1
  have xw7_9 : w7.cell? ⟨w5.heap.size, 9, none⟩ = some (.slice h5.ai r.items.length h5.ci) := ((unhide Kxw7) 9 (by simp)).1
  have DX : Hid (Blk w7.drew w5.heap.size [.int .i64 r.way, .int .i64 r.pal.wd, .int .i64 r.pal.dp, .int .i64 r.pal.ht, .int .i64 r.pal.gram, .int .i64 r.classes, .slice h5.ap r.pairs.length h5.cp, .slice h5.at' r.types.length h5.ct, .int .i64 r.master, .slice h5.ai r.items.length h5.ci]) := unhide Kxw7
  have DQ : Hid (RdReq w7.drew r h) := (unhide Qrw7).mono (Below.refl _ _).drew
  have DC : Hid (RdReq w7.drew r h5) := (unhide Qc5w7).mono (Below.refl _ _).drew
  have DH : Hid (Below w.heap.size w w7.drew) := (unhide Hw7).drew
  go_wp2_with fail
  go_region_with (first
    | (go_at_call 18; go_must (refine (toRequest_any r h _ (by exact unhide DQ) hsm).mono ?_; rintro e u1 ⟨g1, rfl, hq, hf, hb⟩; have Q1 := hide hq; have B1 := hide hb; have X1 := Blk.below hb (by exact zxw7) (unhide DX); have y0 : u1.cell? ⟨w5.heap.size, 0, none⟩ = some (.int .i64 r.way) := (X1 0 (by simp)).1; have y1 : u1.cell? ⟨w5.heap.size, 1, none⟩ = some (.int .i64 r.pal.wd) := (X1 1 (by simp)).1; have y2 : u1.cell? ⟨w5.heap.size, 2, none⟩ = some (.int .i64 r.pal.dp) := (X1 2 (by simp)).1; have y3 : u1.cell? ⟨w5.heap.size, 3, none⟩ = some (.int .i64 r.pal.ht) := (X1 3 (by simp)).1; have y4 : u1.cell? ⟨w5.heap.size, 4, none⟩ = some (.int .i64 r.pal.gram) := (X1 4 (by simp)).1; have y5 : u1.cell? ⟨w5.heap.size, 5, none⟩ = some (.int .i64 r.classes) := (X1 5 (by simp)).1; have y6 : u1.cell? ⟨w5.heap.size, 6, none⟩ = some (.slice h5.ap r.pairs.length h5.cp) := (X1 6 (by simp)).1; have y7 : u1.cell? ⟨w5.heap.size, 7, none⟩ = some (.slice h5.at' r.types.length h5.ct) := (X1 7 (by simp)).1; have y8 : u1.cell? ⟨w5.heap.size, 8, none⟩ = some (.int .i64 r.master) := (X1 8 (by simp)).1; have y9 : u1.cell? ⟨w5.heap.size, 9, none⟩ = some (.slice h5.ai r.items.length h5.ci) := (X1 9 (by simp)).1; clear hq hf hb X1))
    | (go_at_call 19; go_must (refine (eqRequest_same r h5 g1 _ (by exact (unhide DC).mono (unhide B1)) (by exact unhide Q1) hsm).mono ?_; rintro e u2 ⟨rfl, hb⟩; have B2 := hide hb; clear hb)))
  all_goals
    go_wp2
    go_ret
    exact ⟨rfl, ((unhide DH).trans ((unhide B1).mono (unhide DH).size)).trans ((unhide B2).mono ((unhide DH).trans ((unhide B1).mono (unhide DH).size)).size)⟩
end Go.Proofs.YtdkndgklokljnaaGreatDoor
