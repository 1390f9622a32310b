/- The laws of the lower bounds, walked. -/
import Derived.Test.YtdmaldjnjffnlaaGreatDoorLowerSpec
import Derived.Test.YtdmaldjnjffnlaaGreatDoorLowerImpl
import Derived.Test.YtdmaldjnjffnlaaGreatDoorPkA
import Derived.Test.YtdmaldjnjffnlaaGreatDoorPkE
import Derived.Deep.DeepMust
import Derived.Deep.DeepCutAuto
namespace Go.Proofs.YtdmaldjnjffnlaaGreatDoor
open Go.RowKit
set_option linter.unusedVariables false
set_option maxRecDepth 100000 in
set_option maxHeartbeats 4000000 in
theorem law_lower (r : ReqV) (h : ReqH) (a : Option Addr) (n c : Nat) (us : List Int) (w : World) (hr : RdReq w r h) (hp : r.pairs.length ≤ maxLen) (ht : r.types.length ≤ maxLen) (hi : r.items.length ≤ maxLen) (hg : ErrT w) (hu : Rd w a n us) (hm : n ≤ maxLen) :
    Calls Tryz.prog 8 #[reqVal r h, .slice a n c] w fun e w' => e = .returned (.bool true) ∧ Below w.heap.size w w' := by
  have hne : (lowR r us != lowR r us) = false := by simp
  by_cases hn6 : n ≤ 1048576
  case neg =>
    have hgt : (1048576 : Int) < (n : Int) := by omega
    unfold maxLen at hm
    unfold reqVal
    go_enter Tryz.func8, Tryz.ntmps8
    go_wp2_with fail
    go_ret
    exact ⟨rfl, (Below.refl _ _).alloc (Nat.le_refl _) _⟩
  have hgt : ¬ (1048576 : Int) < (n : Int) := by omega
  have hn7 : n ≤ 1048600 := by omega
  by_cases hs : (1048576 : Int) - r.pairs.length - r.types.length - r.items.length < 0
  · unfold reqVal
    go_enter Tryz.func8, Tryz.ntmps8
    go_wp2_with fail
    refine (szRequest_any r h _ _ (by omega) (by omega) hp ht hi).mono ?_
    rintro e w1 ⟨rfl, hb1⟩
    rw [if_pos (by omega)]
    have H1 : Hid (Below w.heap.size w w1) := ((Below.refl w.heap.size w).alloc (Nat.le_refl _) _).trans (hb1.mono (by simp))
    clear hb1
    go_wp2_with fail
    go_ret
    exact ⟨rfl, unhide H1⟩
  have hsm : r.small := by unfold ReqV.small; omega
  have htl : r.types.length ≤ 1048600 := by unfold ReqV.small at hsm; omega
  unfold reqVal
  go_enter Tryz.func8, Tryz.ntmps8
  go_wp2_with fail
  have hb : Below w.heap.size w (w.alloc (.cells #[.int .i64 r.way, .int .i64 r.pal.wd, .int .i64 r.pal.dp, .int .i64 r.pal.ht, .int .i64 r.pal.gram, .int .i64 r.classes, .slice h.ap r.pairs.length h.cp, .slice h.at' r.types.length h.ct, .int .i64 r.master, .slice h.ai r.items.length h.ci] 28)) := (Below.refl _ _).alloc (Nat.le_refl _) _
  have Kaw1 : Hid (Blk (w.alloc (.cells #[.int .i64 r.way, .int .i64 r.pal.wd, .int .i64 r.pal.dp, .int .i64 r.pal.ht, .int .i64 r.pal.gram, .int .i64 r.classes, .slice h.ap r.pairs.length h.cp, .slice h.at' r.types.length h.ct, .int .i64 r.master, .slice h.ai r.items.length h.ci] 28)) w.heap.size [.int .i64 r.way, .int .i64 r.pal.wd, .int .i64 r.pal.dp, .int .i64 r.pal.ht, .int .i64 r.pal.gram, .int .i64 r.classes, .slice h.ap r.pairs.length h.cp, .slice h.at' r.types.length h.ct, .int .i64 r.master, .slice h.ai r.items.length h.ci]) := Blk.allocAt [.int .i64 r.way, .int .i64 r.pal.wd, .int .i64 r.pal.dp, .int .i64 r.pal.ht, .int .i64 r.pal.gram, .int .i64 r.classes, .slice h.ap r.pairs.length h.cp, .slice h.at' r.types.length h.ct, .int .i64 r.master, .slice h.ai r.items.length h.ci] rfl
  have zaw1 : w.heap.size < (w.alloc (.cells #[.int .i64 r.way, .int .i64 r.pal.wd, .int .i64 r.pal.dp, .int .i64 r.pal.ht, .int .i64 r.pal.gram, .int .i64 r.classes, .slice h.ap r.pairs.length h.cp, .slice h.at' r.types.length h.ct, .int .i64 r.master, .slice h.ai r.items.length h.ci] 28)).heap.size := by simp
  generalize (w.alloc (.cells #[.int .i64 r.way, .int .i64 r.pal.wd, .int .i64 r.pal.dp, .int .i64 r.pal.ht, .int .i64 r.pal.gram, .int .i64 r.classes, .slice h.ap r.pairs.length h.cp, .slice h.at' r.types.length h.ct, .int .i64 r.master, .slice h.ai r.items.length h.ci] 28)) = w1 at *
  have Hw1 : Hid (Below w.heap.size w w1) := hb
  clear hb
  have Qrw1 : Hid (RdReq w1 r h) := hr.mono (unhide Hw1)
  have Qyw1 : Hid (Rd w1 a n us) := hu.mono (unhide Hw1)
  refine (szRequest_any r h _ _ (by omega) (by omega) hp ht hi).mono ?_
  rintro e w2 ⟨rfl, hbw2⟩
  have Hw2 : Hid (Below w.heap.size w w2) := (unhide Hw1).trans (hbw2.mono (unhide Hw1).size)
  have Kaw2 := hide (Blk.below hbw2 zaw1 (unhide Kaw1))
  have zaw2 : w.heap.size < w2.heap.size := Nat.lt_of_lt_of_le zaw1 hbw2.size
  have Qrw2 : Hid (RdReq w2 r h) := (unhide Qrw1).mono hbw2
  have Qyw2 : Hid (Rd w2 a n us) := Rd.mono (unhide Qyw1) hbw2
  clear Hw1 Kaw1 zaw1 Qrw1 Qyw1
  clear hbw2
  rw [if_neg (by omega)]
  have Qgw2 : Hid (ErrT w2) := hg.later (unhide Hw2)
  obtain ⟨aw2_0, aw2_1, aw2_2, aw2_3, aw2_4, aw2_5, aw2_6, aw2_7, aw2_8, aw2_9⟩ := Blk.cs10 (unhide Kaw2)
  go_wp2_with fail
  refine (toRequest_any r h _ (unhide Qrw2) hsm).mono ?_
  rintro e w3 ⟨h3, rfl, hq, hf, hbw3⟩
  clear aw2_0 aw2_1 aw2_2 aw2_3 aw2_4 aw2_5 aw2_6 aw2_7 aw2_8 aw2_9
  have Hw3 : Hid (Below w.heap.size w w3) := (unhide Hw2).trans (hbw3.mono (unhide Hw2).size)
  have Kaw3 := hide (Blk.below hbw3 zaw2 (unhide Kaw2))
  have zaw3 : w.heap.size < w3.heap.size := Nat.lt_of_lt_of_le zaw2 hbw3.size
  have Qrw3 : Hid (RdReq w3 r h) := (unhide Qrw2).mono hbw3
  have Qyw3 : Hid (Rd w3 a n us) := Rd.mono (unhide Qyw2) hbw3
  have Qgw3 : Hid (ErrT w3) := (unhide Qgw2).later hbw3
  clear Hw2 Kaw2 zaw2 Qrw2 Qyw2 Qgw2
  clear hbw3
  have Qc3w3 : Hid (RdReq w3 r h3) := hq
  clear hq hf
  unfold reqVal
  go_wp2_with fail
  refine (toIntS_any a n c us _ (unhide Qyw3) hn6).mono ?_
  rintro e w4 ⟨rfl, ho, hbw4⟩
  have Hw4 : Hid (Below w.heap.size w w4) := (unhide Hw3).trans (hbw4.mono (unhide Hw3).size)
  have Kaw4 := hide (Blk.below hbw4 zaw3 (unhide Kaw3))
  have zaw4 : w.heap.size < w4.heap.size := Nat.lt_of_lt_of_le zaw3 hbw4.size
  have Qrw4 : Hid (RdReq w4 r h) := (unhide Qrw3).mono hbw4
  have Qyw4 : Hid (Rd w4 a n us) := Rd.mono (unhide Qyw3) hbw4
  have Qgw4 : Hid (ErrT w4) := (unhide Qgw3).later hbw4
  have Qc3w4 : Hid (RdReq w4 r h3) := (unhide Qc3w3).mono hbw4
  clear Hw3 Kaw3 zaw3 Qrw3 Qyw3 Qgw3 Qc3w3
  clear hbw4
  have Qsw4 : Hid (Rd w4 (some ⟨w3.heap.size, 0, none⟩) n us) := Rd.of_owns ho
  clear ho
  go_wp2_with fail
  refine (specLower_any r h3 _ _ _ us _ (unhide Qc3w4) hsm (unhide Qsw4) hn6 (Nat.le_refl _)).mono ?_
  rintro e w5 ⟨rfl, hbw5⟩
  have Hw5 : Hid (Below w.heap.size w w5) := (unhide Hw4).trans (hbw5.mono (unhide Hw4).size)
  have Kaw5 := hide (Blk.below hbw5 zaw4 (unhide Kaw4))
  have zaw5 : w.heap.size < w5.heap.size := Nat.lt_of_lt_of_le zaw4 hbw5.size
  have Qrw5 : Hid (RdReq w5 r h) := (unhide Qrw4).mono hbw5
  have Qyw5 : Hid (Rd w5 a n us) := Rd.mono (unhide Qyw4) hbw5
  have Qgw5 : Hid (ErrT w5) := (unhide Qgw4).later hbw5
  have Qc3w5 : Hid (RdReq w5 r h3) := (unhide Qc3w4).mono hbw5
  have Qsw5 : Hid (Rd w5 (some ⟨w3.heap.size, 0, none⟩) n us) := Rd.mono (unhide Qsw4) hbw5
  clear Hw4 Kaw4 zaw4 Qrw4 Qyw4 Qgw4 Qc3w4 Qsw4
  clear hbw5
  clear Qc3w5
  clear Qsw5
  obtain ⟨aw5_0, aw5_1, aw5_2, aw5_3, aw5_4, aw5_5, aw5_6, aw5_7, aw5_8, aw5_9⟩ := Blk.cs10 (unhide Kaw5)
  go_wp2_with fail
  refine (toRequest_any r h _ (unhide Qrw5) hsm).mono ?_
  rintro e w6 ⟨h6, rfl, hq, hf, hbw6⟩
  clear aw5_0 aw5_1 aw5_2 aw5_3 aw5_4 aw5_5 aw5_6 aw5_7 aw5_8 aw5_9
  have Hw6 : Hid (Below w.heap.size w w6) := (unhide Hw5).trans (hbw6.mono (unhide Hw5).size)
  have Kaw6 := hide (Blk.below hbw6 zaw5 (unhide Kaw5))
  have zaw6 : w.heap.size < w6.heap.size := Nat.lt_of_lt_of_le zaw5 hbw6.size
  have Qrw6 : Hid (RdReq w6 r h) := (unhide Qrw5).mono hbw6
  have Qyw6 : Hid (Rd w6 a n us) := Rd.mono (unhide Qyw5) hbw6
  have Qgw6 : Hid (ErrT w6) := (unhide Qgw5).later hbw6
  clear Hw5 Kaw5 zaw5 Qrw5 Qyw5 Qgw5
  clear hbw6
  have Qc6w6 : Hid (RdReq w6 r h6) := hq
  clear hq hf
  unfold reqVal
  go_wp2_with fail
  have hb : Below w6.heap.size w6 (w6.alloc (.cells #[.int .i64 r.way, .int .i64 r.pal.wd, .int .i64 r.pal.dp, .int .i64 r.pal.ht, .int .i64 r.pal.gram, .int .i64 r.classes, .slice h6.ap r.pairs.length h6.cp, .slice h6.at' r.types.length h6.ct, .int .i64 r.master, .slice h6.ai r.items.length h6.ci] 38)) := (Below.refl _ _).alloc (Nat.le_refl _) _
  have Kxw7 : Hid (Blk (w6.alloc (.cells #[.int .i64 r.way, .int .i64 r.pal.wd, .int .i64 r.pal.dp, .int .i64 r.pal.ht, .int .i64 r.pal.gram, .int .i64 r.classes, .slice h6.ap r.pairs.length h6.cp, .slice h6.at' r.types.length h6.ct, .int .i64 r.master, .slice h6.ai r.items.length h6.ci] 38)) w6.heap.size [.int .i64 r.way, .int .i64 r.pal.wd, .int .i64 r.pal.dp, .int .i64 r.pal.ht, .int .i64 r.pal.gram, .int .i64 r.classes, .slice h6.ap r.pairs.length h6.cp, .slice h6.at' r.types.length h6.ct, .int .i64 r.master, .slice h6.ai r.items.length h6.ci]) := Blk.allocAt [.int .i64 r.way, .int .i64 r.pal.wd, .int .i64 r.pal.dp, .int .i64 r.pal.ht, .int .i64 r.pal.gram, .int .i64 r.classes, .slice h6.ap r.pairs.length h6.cp, .slice h6.at' r.types.length h6.ct, .int .i64 r.master, .slice h6.ai r.items.length h6.ci] rfl
  have zxw7 : w6.heap.size < (w6.alloc (.cells #[.int .i64 r.way, .int .i64 r.pal.wd, .int .i64 r.pal.dp, .int .i64 r.pal.ht, .int .i64 r.pal.gram, .int .i64 r.classes, .slice h6.ap r.pairs.length h6.cp, .slice h6.at' r.types.length h6.ct, .int .i64 r.master, .slice h6.ai r.items.length h6.ci] 38)).heap.size := by simp
  generalize (w6.alloc (.cells #[.int .i64 r.way, .int .i64 r.pal.wd, .int .i64 r.pal.dp, .int .i64 r.pal.ht, .int .i64 r.pal.gram, .int .i64 r.classes, .slice h6.ap r.pairs.length h6.cp, .slice h6.at' r.types.length h6.ct, .int .i64 r.master, .slice h6.ai r.items.length h6.ci] 38)) = w7 at *
  have Hw7 : Hid (Below w.heap.size w w7) := (unhide Hw6).trans (hb.mono (unhide Hw6).size)
  have Kaw7 := hide (Blk.below hb zaw6 (unhide Kaw6))
  have zaw7 : w.heap.size < w7.heap.size := Nat.lt_of_lt_of_le zaw6 hb.size
  have Qrw7 : Hid (RdReq w7 r h) := (unhide Qrw6).mono hb
  have Qyw7 : Hid (Rd w7 a n us) := Rd.mono (unhide Qyw6) hb
  have Qgw7 : Hid (ErrT w7) := (unhide Qgw6).later hb
  have Qc6w7 : Hid (RdReq w7 r h6) := (unhide Qc6w6).mono hb
  clear Hw6 Kaw6 zaw6 Qrw6 Qyw6 Qgw6 Qc6w6
  clear hb
  refine (toIntS_any a n c us _ (unhide Qyw7) hn6).mono ?_
  rintro e w8 ⟨rfl, ho, hbw8⟩
  have Hw8 : Hid (Below w.heap.size w w8) := (unhide Hw7).trans (hbw8.mono (unhide Hw7).size)
  have Kaw8 := hide (Blk.below hbw8 zaw7 (unhide Kaw7))
  have zaw8 : w.heap.size < w8.heap.size := Nat.lt_of_lt_of_le zaw7 hbw8.size
  have Kxw8 := hide (Blk.below hbw8 zxw7 (unhide Kxw7))
  have zxw8 : w6.heap.size < w8.heap.size := Nat.lt_of_lt_of_le zxw7 hbw8.size
  have Qrw8 : Hid (RdReq w8 r h) := (unhide Qrw7).mono hbw8
  have Qyw8 : Hid (Rd w8 a n us) := Rd.mono (unhide Qyw7) hbw8
  have Qgw8 : Hid (ErrT w8) := (unhide Qgw7).later hbw8
  have Qc6w8 : Hid (RdReq w8 r h6) := (unhide Qc6w7).mono hbw8
  clear Hw7 Kaw7 zaw7 Kxw7 zxw7 Qrw7 Qyw7 Qgw7 Qc6w7
  clear hbw8
  have Qtw8 : Hid (Rd w8 (some ⟨w7.heap.size, 0, none⟩) n us) := Rd.of_owns ho
  clear ho
  obtain ⟨aw8_0, aw8_1, aw8_2, aw8_3, aw8_4, aw8_5, aw8_6, aw8_7, aw8_8, aw8_9⟩ := Blk.cs10 (unhide Kaw8)
  obtain ⟨xw8_0, xw8_1, xw8_2, xw8_3, xw8_4, xw8_5, xw8_6, xw8_7, xw8_8, xw8_9⟩ := Blk.cs10 (unhide Kxw8)
  go_wp2_with fail
  refine (lower_any r h6 _ _ _ us _ (unhide Qc6w8) hsm (unhide Qgw8) (unhide Qtw8) hn6).mono ?_
  rintro e w9 ⟨rfl, hbw9⟩
  clear aw8_0 aw8_1 aw8_2 aw8_3 aw8_4 aw8_5 aw8_6 aw8_7 aw8_8 aw8_9 xw8_0 xw8_1 xw8_2 xw8_3 xw8_4 xw8_5 xw8_6 xw8_7 xw8_8 xw8_9
  have Hw9 : Hid (Below w.heap.size w w9) := (unhide Hw8).trans (hbw9.mono (unhide Hw8).size)
  have Kaw9 := hide (Blk.below hbw9 zaw8 (unhide Kaw8))
  have zaw9 : w.heap.size < w9.heap.size := Nat.lt_of_lt_of_le zaw8 hbw9.size
  have Kxw9 := hide (Blk.below hbw9 zxw8 (unhide Kxw8))
  have zxw9 : w6.heap.size < w9.heap.size := Nat.lt_of_lt_of_le zxw8 hbw9.size
  have Qrw9 : Hid (RdReq w9 r h) := (unhide Qrw8).mono hbw9
  have Qyw9 : Hid (Rd w9 a n us) := Rd.mono (unhide Qyw8) hbw9
  have Qgw9 : Hid (ErrT w9) := (unhide Qgw8).later hbw9
  have Qc6w9 : Hid (RdReq w9 r h6) := (unhide Qc6w8).mono hbw9
  have Qtw9 : Hid (Rd w9 (some ⟨w7.heap.size, 0, none⟩) n us) := Rd.mono (unhide Qtw8) hbw9
  clear Hw8 Kaw8 zaw8 Kxw8 zxw8 Qrw8 Qyw8 Qgw8 Qc6w8 Qtw8
  clear hbw9
  obtain ⟨aw9_0, aw9_1, aw9_2, aw9_3, aw9_4, aw9_5, aw9_6, aw9_7, aw9_8, aw9_9⟩ := Blk.cs10 (unhide Kaw9)
  obtain ⟨xw9_0, xw9_1, xw9_2, xw9_3, xw9_4, xw9_5, xw9_6, xw9_7, xw9_8, xw9_9⟩ := Blk.cs10 (unhide Kxw9)
  have DX : Hid (Blk w9.drew w6.heap.size [.int .i64 r.way, .int .i64 r.pal.wd, .int .i64 r.pal.dp, .int .i64 r.pal.ht, .int .i64 r.pal.gram, .int .i64 r.classes, .slice h6.ap r.pairs.length h6.cp, .slice h6.at' r.types.length h6.ct, .int .i64 r.master, .slice h6.ai r.items.length h6.ci]) := unhide Kxw9
  have DQ : Hid (RdReq w9.drew r h) := (unhide Qrw9).mono (Below.refl _ _).drew
  have DC : Hid (RdReq w9.drew r h6) := (unhide Qc6w9).mono (Below.refl _ _).drew
  have DB : Hid (Below w9.heap.size w9 w9.drew) := (Below.refl _ _).drew
  go_upto_region 13 with fail
  go_cut [37] (fun v wc => v = .bool false ∧ Below w9.heap.size w9 wc)
  case first =>
    go_region_with (first
      | (go_at_call 11; go_must (refine (toRequest_any r h _ (by exact unhide DQ) hsm).mono ?_; rintro e u1 ⟨y1, rfl, hq, hf, hb⟩; have Q1 := hide hq; have B1 := hide hb; have X1 := Blk.below hb (by exact zxw9) (unhide DX); have y0 : u1.cell? ⟨w6.heap.size, 0, none⟩ = some (.int .i64 r.way) := (X1 0 (by simp)).1; have yy1 : u1.cell? ⟨w6.heap.size, 1, none⟩ = some (.int .i64 r.pal.wd) := (X1 1 (by simp)).1; have y2 : u1.cell? ⟨w6.heap.size, 2, none⟩ = some (.int .i64 r.pal.dp) := (X1 2 (by simp)).1; have y3 : u1.cell? ⟨w6.heap.size, 3, none⟩ = some (.int .i64 r.pal.ht) := (X1 3 (by simp)).1; have y4 : u1.cell? ⟨w6.heap.size, 4, none⟩ = some (.int .i64 r.pal.gram) := (X1 4 (by simp)).1; have y5 : u1.cell? ⟨w6.heap.size, 5, none⟩ = some (.int .i64 r.classes) := (X1 5 (by simp)).1; have y6 : u1.cell? ⟨w6.heap.size, 6, none⟩ = some (.slice h6.ap r.pairs.length h6.cp) := (X1 6 (by simp)).1; have y7 : u1.cell? ⟨w6.heap.size, 7, none⟩ = some (.slice h6.at' r.types.length h6.ct) := (X1 7 (by simp)).1; have y8 : u1.cell? ⟨w6.heap.size, 8, none⟩ = some (.int .i64 r.master) := (X1 8 (by simp)).1; have y9 : u1.cell? ⟨w6.heap.size, 9, none⟩ = some (.slice h6.ai r.items.length h6.ci) := (X1 9 (by simp)).1; clear hq hf hb X1))
      | (go_at_call 15; go_must (refine (eqRequest_same r h6 y1 _ (by exact (unhide DC).mono (unhide B1)) (by exact unhide Q1) hsm).mono ?_; rintro e u2 ⟨rfl, hb⟩; have B2 := hide hb; clear hb)))
    all_goals
      go_wp2_with fail
      go_meet
      case rel => exact ⟨rfl, ((unhide DB).trans ((unhide B1).mono (unhide DB).size)).trans ((unhide B2).mono ((unhide DB).trans ((unhide B1).mono (unhide DB).size)).size)⟩
  case rest =>
    obtain ⟨rfl, hb0⟩ := hcut
    clear aw9_0 aw9_1 aw9_2 aw9_3 aw9_4 aw9_5 aw9_6 aw9_7 aw9_8 aw9_9 xw9_0 xw9_1 xw9_2 xw9_3 xw9_4 xw9_5 xw9_6 xw9_7 xw9_8 xw9_9
    clear DX DQ DC DB
    obtain ⟨w10, hw8⟩ : ∃ w8 : World, w8 = wc := ⟨_, rfl⟩
    subst wc
    have Hw10 : Hid (Below w.heap.size w w10) := (unhide Hw9).trans (hb0.mono (unhide Hw9).size)
    have Kaw10 := hide (Blk.below hb0 zaw9 (unhide Kaw9))
    have zaw10 : w.heap.size < w10.heap.size := Nat.lt_of_lt_of_le zaw9 hb0.size
    have Kxw10 := hide (Blk.below hb0 zxw9 (unhide Kxw9))
    have zxw10 : w6.heap.size < w10.heap.size := Nat.lt_of_lt_of_le zxw9 hb0.size
    have Qrw10 : Hid (RdReq w10 r h) := (unhide Qrw9).mono hb0
    have Qyw10 : Hid (Rd w10 a n us) := Rd.mono (unhide Qyw9) hb0
    have Qgw10 : Hid (ErrT w10) := (unhide Qgw9).later hb0
    have Qc6w10 : Hid (RdReq w10 r h6) := (unhide Qc6w9).mono hb0
    have Qtw10 : Hid (Rd w10 (some ⟨w7.heap.size, 0, none⟩) n us) := Rd.mono (unhide Qtw9) hb0
    clear Hw9 Kaw9 zaw9 Kxw9 zxw9 Qrw9 Qyw9 Qgw9 Qc6w9 Qtw9
    clear hb0
    go_wp2_with fail
    refine (toIntS_any a n c us _ (unhide Qyw10) hn6).mono ?_
    rintro e w11 ⟨rfl, ho, hbw11⟩
    have Hw11 : Hid (Below w.heap.size w w11) := (unhide Hw10).trans (hbw11.mono (unhide Hw10).size)
    have Kaw11 := hide (Blk.below hbw11 zaw10 (unhide Kaw10))
    have zaw11 : w.heap.size < w11.heap.size := Nat.lt_of_lt_of_le zaw10 hbw11.size
    have Kxw11 := hide (Blk.below hbw11 zxw10 (unhide Kxw10))
    have zxw11 : w6.heap.size < w11.heap.size := Nat.lt_of_lt_of_le zxw10 hbw11.size
    have Qrw11 : Hid (RdReq w11 r h) := (unhide Qrw10).mono hbw11
    have Qyw11 : Hid (Rd w11 a n us) := Rd.mono (unhide Qyw10) hbw11
    have Qgw11 : Hid (ErrT w11) := (unhide Qgw10).later hbw11
    have Qc6w11 : Hid (RdReq w11 r h6) := (unhide Qc6w10).mono hbw11
    have Qtw11 : Hid (Rd w11 (some ⟨w7.heap.size, 0, none⟩) n us) := Rd.mono (unhide Qtw10) hbw11
    clear Hw10 Kaw10 zaw10 Kxw10 zxw10 Qrw10 Qyw10 Qgw10 Qc6w10 Qtw10
    clear hbw11
    have Quw11 : Hid (Rd w11 (some ⟨w10.heap.size, 0, none⟩) n us) := Rd.of_owns ho
    clear ho
    go_wp2_with fail
    refine (eqIntS_same _ _ _ _ _ us _ (unhide Qtw11) (unhide Quw11) hn6).mono ?_
    rintro e w12 ⟨rfl, hbw12⟩
    have Hw12 : Hid (Below w.heap.size w w12) := (unhide Hw11).trans (hbw12.mono (unhide Hw11).size)
    have Kaw12 := hide (Blk.below hbw12 zaw11 (unhide Kaw11))
    have zaw12 : w.heap.size < w12.heap.size := Nat.lt_of_lt_of_le zaw11 hbw12.size
    have Kxw12 := hide (Blk.below hbw12 zxw11 (unhide Kxw11))
    have zxw12 : w6.heap.size < w12.heap.size := Nat.lt_of_lt_of_le zxw11 hbw12.size
    have Qrw12 : Hid (RdReq w12 r h) := (unhide Qrw11).mono hbw12
    have Qyw12 : Hid (Rd w12 a n us) := Rd.mono (unhide Qyw11) hbw12
    have Qgw12 : Hid (ErrT w12) := (unhide Qgw11).later hbw12
    have Qc6w12 : Hid (RdReq w12 r h6) := (unhide Qc6w11).mono hbw12
    have Qtw12 : Hid (Rd w12 (some ⟨w7.heap.size, 0, none⟩) n us) := Rd.mono (unhide Qtw11) hbw12
    have Quw12 : Hid (Rd w12 (some ⟨w10.heap.size, 0, none⟩) n us) := Rd.mono (unhide Quw11) hbw12
    clear Hw11 Kaw11 zaw11 Kxw11 zxw11 Qrw11 Qyw11 Qgw11 Qc6w11 Qtw11 Quw11
    clear hbw12
    go_wp2_with fail
    go_ret
    exact ⟨rfl, unhide Hw12⟩
end Go.Proofs.YtdmaldjnjffnlaaGreatDoor
