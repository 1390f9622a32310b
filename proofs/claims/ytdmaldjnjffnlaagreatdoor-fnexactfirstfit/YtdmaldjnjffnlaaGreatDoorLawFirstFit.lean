/- The law of FnExactFirstFit, walked. -/
import Derived.Test.YtdmaldjnjffnlaaGreatDoorSpecFirstFit
import Derived.Test.YtdmaldjnjffnlaaGreatDoorPackFirst
import Derived.Test.YtdmaldjnjffnlaaGreatDoorOwnO
import Derived.Test.YtdmaldjnjffnlaaGreatDoorPkH
import Derived.Test.YtdmaldjnjffnlaaGreatDoorPkE
import Derived.Test.YtdmaldjnjffnlaaGreatDoorPkA
import Derived.Deep.DeepMust
import Derived.Deep.DeepCutAuto
namespace Go.Proofs.YtdmaldjnjffnlaaGreatDoor
open Go.RowKit
set_option linter.unusedVariables false
set_option maxRecDepth 100000 in
set_option maxHeartbeats 4000000 in
theorem law_firstFit (r : ReqV) (h : ReqH) (a : Option Addr) (n c : Nat) (us : List Int) (w : World) (hr : RdReq w r h) (hp : r.pairs.length ≤ maxLen) (ht : r.types.length ≤ maxLen) (hi : r.items.length ≤ maxLen) (hg : ErrT w) (hu : Rd w a n us) (hm : n ≤ maxLen) :
    Calls Tryz.prog 3 #[reqVal r h, .slice a n c] w fun e w' => e = .returned (.bool true) ∧ Below w.heap.size w w' := by
  by_cases hn6 : n ≤ 1048576
  case neg =>
    have hgt : (1048576 : Int) < (n : Int) := by omega
    unfold maxLen at hm
    unfold reqVal
    go_enter Tryz.func3, Tryz.ntmps3
    go_wp2_with fail
    go_ret
    exact ⟨rfl, (Below.refl _ _).alloc (Nat.le_refl _) _⟩
  have hgt : ¬ (1048576 : Int) < (n : Int) := by omega
  have husl : us.length ≤ 1048576 := by rw [hu.1]; exact hn6
  by_cases hs : (1048576 : Int) - r.pairs.length - r.types.length - r.items.length < 0
  · unfold reqVal
    go_enter Tryz.func3, Tryz.ntmps3
    go_wp2_with fail
    refine (szRequest_any r h _ _ (by omega) (by omega) hp ht hi).mono ?_
    rintro e w1 ⟨rfl, hb1⟩
    rw [if_pos (by omega)]
    have H1 : Hid (Below w.heap.size w w1) := ((Below.refl w.heap.size w).alloc (Nat.le_refl _) _).trans (hb1.mono (by simp))
    clear hb1
    go_wp2_with fail
    go_ret
    exact ⟨rfl, unhide H1⟩
  have hsm : r.small := by unfold ReqV.small; omega
  have htl : r.types.length ≤ 1048600 := by unfold ReqV.small at hsm; omega
  unfold reqVal
  go_enter Tryz.func3, Tryz.ntmps3
  go_wp2_with fail
  have hb : Below w.heap.size w (w.alloc (.cells #[.int .i64 r.way, .int .i64 r.pal.wd, .int .i64 r.pal.dp, .int .i64 r.pal.ht, .int .i64 r.pal.gram, .int .i64 r.classes, .slice h.ap r.pairs.length h.cp, .slice h.at' r.types.length h.ct, .int .i64 r.master, .slice h.ai r.items.length h.ci] 28)) := (Below.refl _ _).alloc (Nat.le_refl _) _
  have Kaw1 : Hid (Blk (w.alloc (.cells #[.int .i64 r.way, .int .i64 r.pal.wd, .int .i64 r.pal.dp, .int .i64 r.pal.ht, .int .i64 r.pal.gram, .int .i64 r.classes, .slice h.ap r.pairs.length h.cp, .slice h.at' r.types.length h.ct, .int .i64 r.master, .slice h.ai r.items.length h.ci] 28)) w.heap.size [.int .i64 r.way, .int .i64 r.pal.wd, .int .i64 r.pal.dp, .int .i64 r.pal.ht, .int .i64 r.pal.gram, .int .i64 r.classes, .slice h.ap r.pairs.length h.cp, .slice h.at' r.types.length h.ct, .int .i64 r.master, .slice h.ai r.items.length h.ci]) := Blk.allocAt [.int .i64 r.way, .int .i64 r.pal.wd, .int .i64 r.pal.dp, .int .i64 r.pal.ht, .int .i64 r.pal.gram, .int .i64 r.classes, .slice h.ap r.pairs.length h.cp, .slice h.at' r.types.length h.ct, .int .i64 r.master, .slice h.ai r.items.length h.ci] rfl
  have zaw1 : w.heap.size < (w.alloc (.cells #[.int .i64 r.way, .int .i64 r.pal.wd, .int .i64 r.pal.dp, .int .i64 r.pal.ht, .int .i64 r.pal.gram, .int .i64 r.classes, .slice h.ap r.pairs.length h.cp, .slice h.at' r.types.length h.ct, .int .i64 r.master, .slice h.ai r.items.length h.ci] 28)).heap.size := by simp
  generalize (w.alloc (.cells #[.int .i64 r.way, .int .i64 r.pal.wd, .int .i64 r.pal.dp, .int .i64 r.pal.ht, .int .i64 r.pal.gram, .int .i64 r.classes, .slice h.ap r.pairs.length h.cp, .slice h.at' r.types.length h.ct, .int .i64 r.master, .slice h.ai r.items.length h.ci] 28)) = w1 at *
  have Hw1 : Hid (Below w.heap.size w w1) := hb
  clear hb
  have Qrw1 : Hid (RdReq w1 r h) := hr.mono (unhide Hw1)
  have Qyw1 : Hid (Rd w1 (a) n us) := hu.mono (unhide Hw1)
  refine (szRequest_any r h _ _ (by omega) (by omega) hp ht hi).mono ?_
  rintro e w2 ⟨rfl, hbw2⟩
  have Hw2 : Hid (Below w.heap.size w w2) := (unhide Hw1).trans (hbw2.mono (unhide Hw1).size)
  have Kaw2 := hide (Blk.below hbw2 zaw1 (unhide Kaw1))
  have zaw2 : w.heap.size < w2.heap.size := Nat.lt_of_lt_of_le zaw1 hbw2.size
  have Qrw2 : Hid (RdReq w2 r h) := (unhide Qrw1).mono hbw2
  have Qyw2 : Hid (Rd w2 (a) n us) := Rd.mono (unhide Qyw1) hbw2
  clear Hw1 Kaw1 zaw1 Qrw1 Qyw1
  clear hbw2
  rw [if_neg (by omega)]
  have Qgw2 : Hid (ErrT w2) := hg.later (unhide Hw2)
  obtain ⟨aw2_0, aw2_1, aw2_2, aw2_3, aw2_4, aw2_5, aw2_6, aw2_7, aw2_8, aw2_9⟩ := Blk.cs10 (unhide Kaw2)
  go_wp2_with fail
  refine (toRequest_any r h _ (unhide Qrw2) hsm).mono ?_
  rintro e w3 ⟨h3, rfl, hq, hf, hbw3⟩
  clear aw2_0 aw2_1 aw2_2 aw2_3 aw2_4 aw2_5 aw2_6 aw2_7 aw2_8 aw2_9
  have Hw3 : Hid (Below w.heap.size w w3) := (unhide Hw2).trans (hbw3.mono (unhide Hw2).size)
  have Kaw3 := hide (Blk.below hbw3 zaw2 (unhide Kaw2))
  have zaw3 : w.heap.size < w3.heap.size := Nat.lt_of_lt_of_le zaw2 hbw3.size
  have Qrw3 : Hid (RdReq w3 r h) := (unhide Qrw2).mono hbw3
  have Qyw3 : Hid (Rd w3 (a) n us) := Rd.mono (unhide Qyw2) hbw3
  have Qgw3 : Hid (ErrT w3) := (unhide Qgw2).later hbw3
  clear Hw2 Kaw2 zaw2 Qrw2 Qyw2 Qgw2
  clear hbw3
  have Qc3w3 : Hid (RdReq w3 r h3) := hq
  clear hq hf
  unfold reqVal
  go_wp2_with fail
  refine (toIntS_any a n c us _ (unhide Qyw3) hn6).mono ?_
  rintro e w4 ⟨rfl, ho, hbw4⟩
  have Hw4 : Hid (Below w.heap.size w w4) := (unhide Hw3).trans (hbw4.mono (unhide Hw3).size)
  have Kaw4 := hide (Blk.below hbw4 zaw3 (unhide Kaw3))
  have zaw4 : w.heap.size < w4.heap.size := Nat.lt_of_lt_of_le zaw3 hbw4.size
  have Qrw4 : Hid (RdReq w4 r h) := (unhide Qrw3).mono hbw4
  have Qyw4 : Hid (Rd w4 (a) n us) := Rd.mono (unhide Qyw3) hbw4
  have Qgw4 : Hid (ErrT w4) := (unhide Qgw3).later hbw4
  have Qc3w4 : Hid (RdReq w4 r h3) := (unhide Qc3w3).mono hbw4
  clear Hw3 Kaw3 zaw3 Qrw3 Qyw3 Qgw3 Qc3w3
  clear hbw4
  have Qsw4 : Hid (Rd w4 (some ⟨w3.heap.size, 0, none⟩) n us) := Rd.of_owns ho
  clear ho
  go_wp2_with fail
  refine (specFirstFit_any r h3 _ _ _ us _ (unhide Qc3w4) hsm (unhide Qsw4) hn6).mono ?_
  rintro e w5 ⟨g0, cap0, xs0, rfl, hw0, hx0, hbw5⟩
  have Hw5 : Hid (Below w.heap.size w w5) := (unhide Hw4).trans (hbw5.mono (unhide Hw4).size)
  have Kaw5 := hide (Blk.below hbw5 zaw4 (unhide Kaw4))
  have zaw5 : w.heap.size < w5.heap.size := Nat.lt_of_lt_of_le zaw4 hbw5.size
  have Qrw5 : Hid (RdReq w5 r h) := (unhide Qrw4).mono hbw5
  have Qyw5 : Hid (Rd w5 (a) n us) := Rd.mono (unhide Qyw4) hbw5
  have Qgw5 : Hid (ErrT w5) := (unhide Qgw4).later hbw5
  have Qc3w5 : Hid (RdReq w5 r h3) := (unhide Qc3w4).mono hbw5
  have Qsw5 : Hid (Rd w5 (some ⟨w3.heap.size, 0, none⟩) n us) := Rd.mono (unhide Qsw4) hbw5
  clear Hw4 Kaw4 zaw4 Qrw4 Qyw4 Qgw4 Qc3w4 Qsw4
  clear hbw5
  have hl0 : xs0.length = ((firstR r us)).length := by rw [← hx0, List.length_map]
  have hw1 := hw0.read
  rw [hx0] at hw1
  rw [hl0] at hw1
  clear hw0 hx0 hl0
  have Qww5 : Hid (Rd2 w5 (some ⟨g0, 0, none⟩) ((firstR r us).length) ((firstR r us))) := hw1
  clear hw1
  clear Qc3w5
  clear Qsw5
  have SH : Hid (Below w.heap.size w w5) := Hw5
  have SK := Kaw5
  have Sz : w.heap.size < w5.heap.size := zaw5
  have SW := Qww5
  obtain ⟨aw5_0, aw5_1, aw5_2, aw5_3, aw5_4, aw5_5, aw5_6, aw5_7, aw5_8, aw5_9⟩ := Blk.cs10 (unhide Kaw5)
  go_wp2_with fail
  refine (toRequest_own3 r h _ (unhide Qrw5) hsm).mono ?_
  rintro e w6 ⟨h6, gp, gt, gi, rfl, hq, ho, hb⟩
  clear aw5_0 aw5_1 aw5_2 aw5_3 aw5_4 aw5_5 aw5_6 aw5_7 aw5_8 aw5_9
  obtain ⟨x1, x2, x3⟩ : w5.heap.size ≤ gp ∧ gp < gt ∧ gt < gi := ⟨ho.2.1, ho.2.2.1, ho.2.2.2.1⟩
  have Hw6 : Hid (Below w.heap.size w w6) := (unhide Hw5).trans (hb.mono (unhide Hw5).size)
  have Kaw6 := hide (Blk.below hb zaw5 (unhide Kaw5))
  have zaw6 : w.heap.size < w6.heap.size := Nat.lt_of_lt_of_le zaw5 hb.size
  have Qrw6 : Hid (RdReq w6 r h) := (unhide Qrw5).mono hb
  have Qyw6 : Hid (Rd w6 (a) n us) := Rd.mono (unhide Qyw5) hb
  have Qgw6 : Hid (ErrT w6) := (unhide Qgw5).later hb
  have Qww6 : Hid (Rd2 w6 (some ⟨g0, 0, none⟩) ((firstR r us).length) ((firstR r us))) := Rd2.mono (unhide Qww5) hb
  clear Hw5 Kaw5 zaw5 Qrw5 Qyw5 Qgw5 Qww5
  have Qc6w6 : Hid (RdReq w6 r h6) := hq
  have Qow6 : Hid (OwnReq w6 w5.heap.size r h6 gp gt gi) := ho
  have Qpw6 : Hid (Below w5.heap.size w5 w6) := hb
  clear hq ho hb
  unfold reqVal
  go_wp2_with fail
  have hb : Below w6.heap.size w6 (w6.alloc (.cells #[.int .i64 r.way, .int .i64 r.pal.wd, .int .i64 r.pal.dp, .int .i64 r.pal.ht, .int .i64 r.pal.gram, .int .i64 r.classes, .slice h6.ap r.pairs.length h6.cp, .slice h6.at' r.types.length h6.ct, .int .i64 r.master, .slice h6.ai r.items.length h6.ci] 38)) := (Below.refl _ _).alloc (Nat.le_refl _) _
  have Kxw7 : Hid (Blk (w6.alloc (.cells #[.int .i64 r.way, .int .i64 r.pal.wd, .int .i64 r.pal.dp, .int .i64 r.pal.ht, .int .i64 r.pal.gram, .int .i64 r.classes, .slice h6.ap r.pairs.length h6.cp, .slice h6.at' r.types.length h6.ct, .int .i64 r.master, .slice h6.ai r.items.length h6.ci] 38)) w6.heap.size [.int .i64 r.way, .int .i64 r.pal.wd, .int .i64 r.pal.dp, .int .i64 r.pal.ht, .int .i64 r.pal.gram, .int .i64 r.classes, .slice h6.ap r.pairs.length h6.cp, .slice h6.at' r.types.length h6.ct, .int .i64 r.master, .slice h6.ai r.items.length h6.ci]) := Blk.allocAt [.int .i64 r.way, .int .i64 r.pal.wd, .int .i64 r.pal.dp, .int .i64 r.pal.ht, .int .i64 r.pal.gram, .int .i64 r.classes, .slice h6.ap r.pairs.length h6.cp, .slice h6.at' r.types.length h6.ct, .int .i64 r.master, .slice h6.ai r.items.length h6.ci] rfl
  have zxw7 : w6.heap.size < (w6.alloc (.cells #[.int .i64 r.way, .int .i64 r.pal.wd, .int .i64 r.pal.dp, .int .i64 r.pal.ht, .int .i64 r.pal.gram, .int .i64 r.classes, .slice h6.ap r.pairs.length h6.cp, .slice h6.at' r.types.length h6.ct, .int .i64 r.master, .slice h6.ai r.items.length h6.ci] 38)).heap.size := by simp
  generalize (w6.alloc (.cells #[.int .i64 r.way, .int .i64 r.pal.wd, .int .i64 r.pal.dp, .int .i64 r.pal.ht, .int .i64 r.pal.gram, .int .i64 r.classes, .slice h6.ap r.pairs.length h6.cp, .slice h6.at' r.types.length h6.ct, .int .i64 r.master, .slice h6.ai r.items.length h6.ci] 38)) = w7 at *
  have Hw7 : Hid (Below w.heap.size w w7) := (unhide Hw6).trans (hb.mono (unhide Hw6).size)
  have Kaw7 := hide (Blk.below hb zaw6 (unhide Kaw6))
  have zaw7 : w.heap.size < w7.heap.size := Nat.lt_of_lt_of_le zaw6 hb.size
  have Qrw7 : Hid (RdReq w7 r h) := (unhide Qrw6).mono hb
  have Qyw7 : Hid (Rd w7 (a) n us) := Rd.mono (unhide Qyw6) hb
  have Qgw7 : Hid (ErrT w7) := (unhide Qgw6).later hb
  have Qww7 : Hid (Rd2 w7 (some ⟨g0, 0, none⟩) ((firstR r us).length) ((firstR r us))) := Rd2.mono (unhide Qww6) hb
  have Qc6w7 : Hid (RdReq w7 r h6) := (unhide Qc6w6).mono hb
  have Qow7 : Hid (OwnReq w7 w5.heap.size r h6 gp gt gi) := (unhide Qow6).later hb
  have Qpw7 : Hid (Below w5.heap.size w5 w7) := (unhide Qpw6).trans (hb.mono (unhide Qpw6).size)
  clear Hw6 Kaw6 zaw6 Qrw6 Qyw6 Qgw6 Qww6 Qc6w6 Qow6 Qpw6
  clear hb
  have x4 : gi < w7.heap.size := (unhide Qow7).2.2.2.2.1
  have x6 : w5.heap.size ≤ w7.heap.size := (unhide Qpw7).size
  refine (toIntS_any a n c us _ (unhide Qyw7) hn6).mono ?_
  rintro e w8 ⟨rfl, ho, hbw8⟩
  have Hw8 : Hid (Below w.heap.size w w8) := (unhide Hw7).trans (hbw8.mono (unhide Hw7).size)
  have Kaw8 := hide (Blk.below hbw8 zaw7 (unhide Kaw7))
  have zaw8 : w.heap.size < w8.heap.size := Nat.lt_of_lt_of_le zaw7 hbw8.size
  have Kxw8 := hide (Blk.below hbw8 zxw7 (unhide Kxw7))
  have zxw8 : w6.heap.size < w8.heap.size := Nat.lt_of_lt_of_le zxw7 hbw8.size
  have Qrw8 : Hid (RdReq w8 r h) := (unhide Qrw7).mono hbw8
  have Qyw8 : Hid (Rd w8 (a) n us) := Rd.mono (unhide Qyw7) hbw8
  have Qgw8 : Hid (ErrT w8) := (unhide Qgw7).later hbw8
  have Qww8 : Hid (Rd2 w8 (some ⟨g0, 0, none⟩) ((firstR r us).length) ((firstR r us))) := Rd2.mono (unhide Qww7) hbw8
  have Qc6w8 : Hid (RdReq w8 r h6) := (unhide Qc6w7).mono hbw8
  have Qow8 : Hid (OwnReq w8 w5.heap.size r h6 gp gt gi) := (unhide Qow7).later hbw8
  have Qpw8 : Hid (Below w5.heap.size w5 w8) := (unhide Qpw7).trans (hbw8.mono (unhide Qpw7).size)
  clear Hw7 Kaw7 zaw7 Kxw7 zxw7 Qrw7 Qyw7 Qgw7 Qww7 Qc6w7 Qow7 Qpw7
  clear hbw8
  have Qvw8 : Hid (w8.ownsRow w7.heap.size 3 1 (.slice (some ⟨w7.heap.size, 0, none⟩) n n) n (us.map (Value.int .i64))) := ho
  have x5 : w7.heap.size < w8.heap.size := (ho.lt _ rfl).2
  clear ho
  obtain ⟨aw8_0, aw8_1, aw8_2, aw8_3, aw8_4, aw8_5, aw8_6, aw8_7, aw8_8, aw8_9⟩ := Blk.cs10 (unhide Kaw8)
  obtain ⟨xw8_0, xw8_1, xw8_2, xw8_3, xw8_4, xw8_5, xw8_6, xw8_7, xw8_8, xw8_9⟩ := Blk.cs10 (unhide Kxw8)
  go_wp2_with fail
  refine (firstFit_any r h6 _ _ _ us _ (unhide Qc6w8) hsm (unhide Qgw8) (Rd.of_owns (unhide Qvw8)) hn6).mono ?_
  rintro e w9 ⟨a1, cap1, xs1, rfl, ho1, hx1, hbw9⟩
  clear aw8_0 aw8_1 aw8_2 aw8_3 aw8_4 aw8_5 aw8_6 aw8_7 aw8_8 aw8_9 xw8_0 xw8_1 xw8_2 xw8_3 xw8_4 xw8_5 xw8_6 xw8_7 xw8_8 xw8_9
  have hbz := hbw9
  have Hw9 : Hid (Below w.heap.size w w9) := (unhide Hw8).trans (hbw9.mono (unhide Hw8).size)
  have Kaw9 := hide (Blk.below hbw9 zaw8 (unhide Kaw8))
  have zaw9 : w.heap.size < w9.heap.size := Nat.lt_of_lt_of_le zaw8 hbw9.size
  have Kxw9 := hide (Blk.below hbw9 zxw8 (unhide Kxw8))
  have zxw9 : w6.heap.size < w9.heap.size := Nat.lt_of_lt_of_le zxw8 hbw9.size
  have Qrw9 : Hid (RdReq w9 r h) := (unhide Qrw8).mono hbw9
  have Qyw9 : Hid (Rd w9 (a) n us) := Rd.mono (unhide Qyw8) hbw9
  have Qgw9 : Hid (ErrT w9) := (unhide Qgw8).later hbw9
  have Qww9 : Hid (Rd2 w9 (some ⟨g0, 0, none⟩) ((firstR r us).length) ((firstR r us))) := Rd2.mono (unhide Qww8) hbw9
  have Qc6w9 : Hid (RdReq w9 r h6) := (unhide Qc6w8).mono hbw9
  have Qow9 : Hid (OwnReq w9 w5.heap.size r h6 gp gt gi) := (unhide Qow8).later hbw9
  have Qpw9 : Hid (Below w5.heap.size w5 w9) := (unhide Qpw8).trans (hbw9.mono (unhide Qpw8).size)
  have Qvw9 : Hid (w9.ownsRow w7.heap.size 3 1 (.slice (some ⟨w7.heap.size, 0, none⟩) n n) n (us.map (Value.int .i64))) := own_later (unhide Qvw8) hbw9
  clear Hw8 Kaw8 zaw8 Kxw8 zxw8 Qrw8 Qyw8 Qgw8 Qww8 Qc6w8 Qow8 Qpw8 Qvw8
  clear hbw9
  have hl1 : xs1.length = ((firstR r us)).length := by rw [← hx1, List.length_map]
  have htt9 : totR xs1 = tot2 ((firstR r us)) := by rw [← hx1]; simp [totR, tot2, Function.comp_def]
  have ht16 : totR xs1 ≤ 1048576 := by rw [htt9]; exact Nat.le_trans (firstR_tot r us).1 husl
  clear htt9
  have hl4 : xs1.length ≤ 1048576 := by rw [hl1]; have h1 := (firstR_tot r us).2; have h3 := husl; omega
  have hL12 : ((firstR r us)).length ≤ 1048576 := by rw [← hl1]; exact hl4
  have hrow6 : ∀ i, i < ((firstR r us)).length → (((firstR r us)).getD i []).length ≤ 1048576 := fun i hi => by have h1 := tot2_row ((firstR r us)) i hi; have h2 := (firstR_tot r us).1; have h3 := husl; omega
  have HL1 := hide hl1
  have HX1 := hide hx1
  clear hl1 hx1
  have Quw9 : Hid (Own2A w9 w8.heap.size a1 cap1 xs1) := ho1
  have HRD : Hid (∀ W, Own2A W w8.heap.size a1 cap1 xs1 → Rd2 W a1 ((firstR r us).length) ((firstR r us))) := fun W ho => by have := ho.read; rw [unhide HX1, unhide HL1] at this; exact this
  clear ho1
  have Qzw9 : Hid (w8.heap.size ≤ w9.heap.size) := hbz.size
  clear hbz
  obtain ⟨aw9_0, aw9_1, aw9_2, aw9_3, aw9_4, aw9_5, aw9_6, aw9_7, aw9_8, aw9_9⟩ := Blk.cs10 (unhide Kaw9)
  obtain ⟨xw9_0, xw9_1, xw9_2, xw9_3, xw9_4, xw9_5, xw9_6, xw9_7, xw9_8, xw9_9⟩ := Blk.cs10 (unhide Kxw9)
  go_wp2_with fail
  refine (eqIntSS_same _ _ _ _ _ ((firstR r us)) _ ((unhide HRD) _ (unhide Quw9)) (unhide Qww9) (by omega) hrow6).mono ?_
  rintro e w10 ⟨rfl, hbw10⟩
  clear aw9_0 aw9_1 aw9_2 aw9_3 aw9_4 aw9_5 aw9_6 aw9_7 aw9_8 aw9_9 xw9_0 xw9_1 xw9_2 xw9_3 xw9_4 xw9_5 xw9_6 xw9_7 xw9_8 xw9_9
  have Hw10 : Hid (Below w.heap.size w w10) := (unhide Hw9).trans (hbw10.mono (unhide Hw9).size)
  have Kaw10 := hide (Blk.below hbw10 zaw9 (unhide Kaw9))
  have zaw10 : w.heap.size < w10.heap.size := Nat.lt_of_lt_of_le zaw9 hbw10.size
  have Kxw10 := hide (Blk.below hbw10 zxw9 (unhide Kxw9))
  have zxw10 : w6.heap.size < w10.heap.size := Nat.lt_of_lt_of_le zxw9 hbw10.size
  have Qrw10 : Hid (RdReq w10 r h) := (unhide Qrw9).mono hbw10
  have Qyw10 : Hid (Rd w10 (a) n us) := Rd.mono (unhide Qyw9) hbw10
  have Qgw10 : Hid (ErrT w10) := (unhide Qgw9).later hbw10
  have Qww10 : Hid (Rd2 w10 (some ⟨g0, 0, none⟩) ((firstR r us).length) ((firstR r us))) := Rd2.mono (unhide Qww9) hbw10
  have Qc6w10 : Hid (RdReq w10 r h6) := (unhide Qc6w9).mono hbw10
  have Qow10 : Hid (OwnReq w10 w5.heap.size r h6 gp gt gi) := (unhide Qow9).later hbw10
  have Qpw10 : Hid (Below w5.heap.size w5 w10) := (unhide Qpw9).trans (hbw10.mono (unhide Qpw9).size)
  have Qvw10 : Hid (w10.ownsRow w7.heap.size 3 1 (.slice (some ⟨w7.heap.size, 0, none⟩) n n) n (us.map (Value.int .i64))) := own_later (unhide Qvw9) hbw10
  have Quw10 : Hid (Own2A w10 w8.heap.size a1 cap1 xs1) := Own2A.later (unhide Quw9) hbw10
  have Qzw10 : Hid (w8.heap.size ≤ w10.heap.size) := Nat.le_trans (unhide Qzw9) hbw10.size
  clear Hw9 Kaw9 zaw9 Kxw9 zxw9 Qrw9 Qyw9 Qgw9 Qww9 Qc6w9 Qow9 Qpw9 Qvw9 Quw9 Qzw9
  clear hbw10
  obtain ⟨aw10_0, aw10_1, aw10_2, aw10_3, aw10_4, aw10_5, aw10_6, aw10_7, aw10_8, aw10_9⟩ := Blk.cs10 (unhide Kaw10)
  obtain ⟨xw10_0, xw10_1, xw10_2, xw10_3, xw10_4, xw10_5, xw10_6, xw10_7, xw10_8, xw10_9⟩ := Blk.cs10 (unhide Kxw10)
  have DX : Hid (Blk w10.drew w6.heap.size [.int .i64 r.way, .int .i64 r.pal.wd, .int .i64 r.pal.dp, .int .i64 r.pal.ht, .int .i64 r.pal.gram, .int .i64 r.classes, .slice h6.ap r.pairs.length h6.cp, .slice h6.at' r.types.length h6.ct, .int .i64 r.master, .slice h6.ai r.items.length h6.ci]) := unhide Kxw10
  have DQ : Hid (RdReq w10.drew r h) := (unhide Qrw10).mono (Below.refl _ _).drew
  have DC : Hid (RdReq w10.drew r h6) := (unhide Qc6w10).mono (Below.refl _ _).drew
  have DB : Hid (Below w10.heap.size w10 w10.drew) := (Below.refl _ _).drew
  go_upto_region 13 with fail
  go_cut [42] (fun v wc => v = .bool false ∧ Below w10.heap.size w10 wc)
  case first =>
    go_region_with (first
      | (go_at_call 11; go_must (refine (toRequest_any r h _ (by exact unhide DQ) hsm).mono ?_; rintro e u1 ⟨y1, rfl, hq, hf, hb⟩; have Q1 := hide hq; have B1 := hide hb; have X1 := Blk.below hb (by exact zxw10) (unhide DX); have y0 : u1.cell? ⟨w6.heap.size, 0, none⟩ = some (.int .i64 r.way) := (X1 0 (by simp)).1; have yy1 : u1.cell? ⟨w6.heap.size, 1, none⟩ = some (.int .i64 r.pal.wd) := (X1 1 (by simp)).1; have y2 : u1.cell? ⟨w6.heap.size, 2, none⟩ = some (.int .i64 r.pal.dp) := (X1 2 (by simp)).1; have y3 : u1.cell? ⟨w6.heap.size, 3, none⟩ = some (.int .i64 r.pal.ht) := (X1 3 (by simp)).1; have y4 : u1.cell? ⟨w6.heap.size, 4, none⟩ = some (.int .i64 r.pal.gram) := (X1 4 (by simp)).1; have y5 : u1.cell? ⟨w6.heap.size, 5, none⟩ = some (.int .i64 r.classes) := (X1 5 (by simp)).1; have y6 : u1.cell? ⟨w6.heap.size, 6, none⟩ = some (.slice h6.ap r.pairs.length h6.cp) := (X1 6 (by simp)).1; have y7 : u1.cell? ⟨w6.heap.size, 7, none⟩ = some (.slice h6.at' r.types.length h6.ct) := (X1 7 (by simp)).1; have y8 : u1.cell? ⟨w6.heap.size, 8, none⟩ = some (.int .i64 r.master) := (X1 8 (by simp)).1; have y9 : u1.cell? ⟨w6.heap.size, 9, none⟩ = some (.slice h6.ai r.items.length h6.ci) := (X1 9 (by simp)).1; clear hq hf hb X1))
      | (go_at_call 15; go_must (refine (eqRequest_same r h6 y1 _ (by exact (unhide DC).mono (unhide B1)) (by exact unhide Q1) hsm).mono ?_; rintro e u2 ⟨rfl, hb⟩; have B2 := hide hb; clear hb)))
    all_goals
      go_wp2_with fail
      go_meet
      case rel => exact ⟨rfl, ((unhide DB).trans ((unhide B1).mono (unhide DB).size)).trans ((unhide B2).mono ((unhide DB).trans ((unhide B1).mono (unhide DB).size)).size)⟩
  case rest =>
    obtain ⟨rfl, hb0⟩ := hcut
    clear aw10_0 aw10_1 aw10_2 aw10_3 aw10_4 aw10_5 aw10_6 aw10_7 aw10_8 aw10_9 xw10_0 xw10_1 xw10_2 xw10_3 xw10_4 xw10_5 xw10_6 xw10_7 xw10_8 xw10_9
    clear DX DQ DC DB
    obtain ⟨w11, hw8⟩ : ∃ w8 : World, w8 = wc := ⟨_, rfl⟩
    subst wc
    have Hw11 : Hid (Below w.heap.size w w11) := (unhide Hw10).trans (hb0.mono (unhide Hw10).size)
    have Kaw11 := hide (Blk.below hb0 zaw10 (unhide Kaw10))
    have zaw11 : w.heap.size < w11.heap.size := Nat.lt_of_lt_of_le zaw10 hb0.size
    have Kxw11 := hide (Blk.below hb0 zxw10 (unhide Kxw10))
    have zxw11 : w6.heap.size < w11.heap.size := Nat.lt_of_lt_of_le zxw10 hb0.size
    have Qrw11 : Hid (RdReq w11 r h) := (unhide Qrw10).mono hb0
    have Qyw11 : Hid (Rd w11 (a) n us) := Rd.mono (unhide Qyw10) hb0
    have Qgw11 : Hid (ErrT w11) := (unhide Qgw10).later hb0
    have Qww11 : Hid (Rd2 w11 (some ⟨g0, 0, none⟩) ((firstR r us).length) ((firstR r us))) := Rd2.mono (unhide Qww10) hb0
    have Qc6w11 : Hid (RdReq w11 r h6) := (unhide Qc6w10).mono hb0
    have Qow11 : Hid (OwnReq w11 w5.heap.size r h6 gp gt gi) := (unhide Qow10).later hb0
    have Qpw11 : Hid (Below w5.heap.size w5 w11) := (unhide Qpw10).trans (hb0.mono (unhide Qpw10).size)
    have Qvw11 : Hid (w11.ownsRow w7.heap.size 3 1 (.slice (some ⟨w7.heap.size, 0, none⟩) n n) n (us.map (Value.int .i64))) := own_later (unhide Qvw10) hb0
    have Quw11 : Hid (Own2A w11 w8.heap.size a1 cap1 xs1) := Own2A.later (unhide Quw10) hb0
    have Qzw11 : Hid (w8.heap.size ≤ w11.heap.size) := Nat.le_trans (unhide Qzw10) hb0.size
    clear Hw10 Kaw10 zaw10 Kxw10 zxw10 Qrw10 Qyw10 Qgw10 Qww10 Qc6w10 Qow10 Qpw10 Qvw10 Quw10 Qzw10
    clear hb0
    obtain ⟨aw11_0, aw11_1, aw11_2, aw11_3, aw11_4, aw11_5, aw11_6, aw11_7, aw11_8, aw11_9⟩ := Blk.cs10 (unhide Kaw11)
    obtain ⟨xw11_0, xw11_1, xw11_2, xw11_3, xw11_4, xw11_5, xw11_6, xw11_7, xw11_8, xw11_9⟩ := Blk.cs10 (unhide Kxw11)
    go_wp2_with fail
    refine (toIntS_any a n c us _ (unhide Qyw11) hn6).mono ?_
    rintro e w12 ⟨rfl, ho, hbw12⟩
    clear aw11_0 aw11_1 aw11_2 aw11_3 aw11_4 aw11_5 aw11_6 aw11_7 aw11_8 aw11_9 xw11_0 xw11_1 xw11_2 xw11_3 xw11_4 xw11_5 xw11_6 xw11_7 xw11_8 xw11_9
    have Hw12 : Hid (Below w.heap.size w w12) := (unhide Hw11).trans (hbw12.mono (unhide Hw11).size)
    have Kaw12 := hide (Blk.below hbw12 zaw11 (unhide Kaw11))
    have zaw12 : w.heap.size < w12.heap.size := Nat.lt_of_lt_of_le zaw11 hbw12.size
    have Kxw12 := hide (Blk.below hbw12 zxw11 (unhide Kxw11))
    have zxw12 : w6.heap.size < w12.heap.size := Nat.lt_of_lt_of_le zxw11 hbw12.size
    have Qrw12 : Hid (RdReq w12 r h) := (unhide Qrw11).mono hbw12
    have Qyw12 : Hid (Rd w12 (a) n us) := Rd.mono (unhide Qyw11) hbw12
    have Qgw12 : Hid (ErrT w12) := (unhide Qgw11).later hbw12
    have Qww12 : Hid (Rd2 w12 (some ⟨g0, 0, none⟩) ((firstR r us).length) ((firstR r us))) := Rd2.mono (unhide Qww11) hbw12
    have Qc6w12 : Hid (RdReq w12 r h6) := (unhide Qc6w11).mono hbw12
    have Qow12 : Hid (OwnReq w12 w5.heap.size r h6 gp gt gi) := (unhide Qow11).later hbw12
    have Qpw12 : Hid (Below w5.heap.size w5 w12) := (unhide Qpw11).trans (hbw12.mono (unhide Qpw11).size)
    have Qvw12 : Hid (w12.ownsRow w7.heap.size 3 1 (.slice (some ⟨w7.heap.size, 0, none⟩) n n) n (us.map (Value.int .i64))) := own_later (unhide Qvw11) hbw12
    have Quw12 : Hid (Own2A w12 w8.heap.size a1 cap1 xs1) := Own2A.later (unhide Quw11) hbw12
    have Qzw12 : Hid (w8.heap.size ≤ w12.heap.size) := Nat.le_trans (unhide Qzw11) hbw12.size
    clear Hw11 Kaw11 zaw11 Kxw11 zxw11 Qrw11 Qyw11 Qgw11 Qww11 Qc6w11 Qow11 Qpw11 Qvw11 Quw11 Qzw11
    clear hbw12
    have Qsw12 : Hid (Rd w12 (some ⟨w11.heap.size, 0, none⟩) n us) := Rd.of_owns ho
    clear ho
    go_wp2_with fail
    refine (eqIntS_same _ _ _ _ _ us _ (Rd.of_owns (unhide Qvw12)) (unhide Qsw12) hn6).mono ?_
    rintro e w13 ⟨rfl, hbw13⟩
    have Hw13 : Hid (Below w.heap.size w w13) := (unhide Hw12).trans (hbw13.mono (unhide Hw12).size)
    have Kaw13 := hide (Blk.below hbw13 zaw12 (unhide Kaw12))
    have zaw13 : w.heap.size < w13.heap.size := Nat.lt_of_lt_of_le zaw12 hbw13.size
    have Kxw13 := hide (Blk.below hbw13 zxw12 (unhide Kxw12))
    have zxw13 : w6.heap.size < w13.heap.size := Nat.lt_of_lt_of_le zxw12 hbw13.size
    have Qrw13 : Hid (RdReq w13 r h) := (unhide Qrw12).mono hbw13
    have Qyw13 : Hid (Rd w13 (a) n us) := Rd.mono (unhide Qyw12) hbw13
    have Qgw13 : Hid (ErrT w13) := (unhide Qgw12).later hbw13
    have Qww13 : Hid (Rd2 w13 (some ⟨g0, 0, none⟩) ((firstR r us).length) ((firstR r us))) := Rd2.mono (unhide Qww12) hbw13
    have Qc6w13 : Hid (RdReq w13 r h6) := (unhide Qc6w12).mono hbw13
    have Qow13 : Hid (OwnReq w13 w5.heap.size r h6 gp gt gi) := (unhide Qow12).later hbw13
    have Qpw13 : Hid (Below w5.heap.size w5 w13) := (unhide Qpw12).trans (hbw13.mono (unhide Qpw12).size)
    have Qvw13 : Hid (w13.ownsRow w7.heap.size 3 1 (.slice (some ⟨w7.heap.size, 0, none⟩) n n) n (us.map (Value.int .i64))) := own_later (unhide Qvw12) hbw13
    have Quw13 : Hid (Own2A w13 w8.heap.size a1 cap1 xs1) := Own2A.later (unhide Quw12) hbw13
    have Qzw13 : Hid (w8.heap.size ≤ w13.heap.size) := Nat.le_trans (unhide Qzw12) hbw13.size
    have Qsw13 : Hid (Rd w13 (some ⟨w11.heap.size, 0, none⟩) n us) := Rd.mono (unhide Qsw12) hbw13
    clear Hw12 Kaw12 zaw12 Kxw12 zxw12 Qrw12 Qyw12 Qgw12 Qww12 Qc6w12 Qow12 Qpw12 Qvw12 Quw12 Qzw12 Qsw12
    clear hbw13
    clear Qsw13
    obtain ⟨aw13_0, aw13_1, aw13_2, aw13_3, aw13_4, aw13_5, aw13_6, aw13_7, aw13_8, aw13_9⟩ := Blk.cs10 (unhide Kaw13)
    obtain ⟨xw13_0, xw13_1, xw13_2, xw13_3, xw13_4, xw13_5, xw13_6, xw13_7, xw13_8, xw13_9⟩ := Blk.cs10 (unhide Kxw13)
    go_wp2_with fail
    refine (markRequest_any _ r h6 gp gt gi 1 _ (unhide Qow13) hsm (by omega)).mono ?_
    rintro e w14 ⟨km, rfl, hkm, ht3⟩
    clear aw13_0 aw13_1 aw13_2 aw13_3 aw13_4 aw13_5 aw13_6 aw13_7 aw13_8 aw13_9 xw13_0 xw13_1 xw13_2 xw13_3 xw13_4 xw13_5 xw13_6 xw13_7 xw13_8 xw13_9
    have hz3 := ht3.size
    have Pw14 : Hid (Below w5.heap.size w5 w14) := ht3.below (unhide Qpw13) (Nat.le_refl _) x1 (by omega) (by omega)
    have ho9 := ht3.own (unhide Qvw13) (by omega) (by omega) (by omega)
    have ho8 := Own2A.turn (unhide Quw13) ht3 (by omega) (by omega) (by omega)
    have hzz := Nat.le_trans (unhide Qzw13) hz3
    clear Hw13 Kaw13 zaw13 Kxw13 zxw13 Qrw13 Qyw13 Qgw13 Qww13 Qc6w13 Qow13 Qpw13 Qvw13 Quw13 Qzw13
    have Hw14 : Hid (Below w.heap.size w w14) := (unhide SH).trans ((unhide Pw14).mono (unhide SH).size)
    have Kaw14 := hide (Blk.below (unhide Pw14) Sz (unhide SK))
    have zaw14 : w.heap.size < w14.heap.size := Nat.lt_of_lt_of_le Sz (unhide Pw14).size
    have Qrw14 : Hid (RdReq w14 r h) := hr.mono (unhide Hw14)
    have Qyw14 : Hid (Rd w14 (a) n us) := hu.mono (unhide Hw14)
    have Qgw14 : Hid (ErrT w14) := hg.later (unhide Hw14)
    have Qww14 : Hid (Rd2 w14 (some ⟨g0, 0, none⟩) ((firstR r us).length) ((firstR r us))) := Rd2.mono (unhide SW) (unhide Pw14)
    have Qpw14 : Hid (Below w5.heap.size w5 w14) := unhide Pw14
    have Qvw14 : Hid (w14.ownsRow w7.heap.size 3 1 (.slice (some ⟨w7.heap.size, 0, none⟩) n n) n (us.map (Value.int .i64))) := ho9
    have Quw14 : Hid (Own2A w14 w8.heap.size a1 cap1 xs1) := ho8
    have Qzw14 : Hid (w8.heap.size ≤ w14.heap.size) := hzz
    clear hzz
    clear ho9 ho8 ht3 Pw14
    obtain ⟨aw14_0, aw14_1, aw14_2, aw14_3, aw14_4, aw14_5, aw14_6, aw14_7, aw14_8, aw14_9⟩ := Blk.cs10 (unhide Kaw14)
    go_wp2_with fail
    refine (markIntS_any w7.heap.size w7.heap.size n n km us _ (unhide Qvw14) (by omega) hkm).mono ?_
    rintro e w15 ⟨rfl, hm9, hg9⟩
    clear aw14_0 aw14_1 aw14_2 aw14_3 aw14_4 aw14_5 aw14_6 aw14_7 aw14_8 aw14_9
    have hz4 := hg9.size
    have Pw15 : Hid (Below w5.heap.size w5 w15) := (unhide Qpw14).grown hg9 (unhide Qpw14).size (fun q hq => by injection hq with hq; omega)
    have ho8 := Own2A.kept (unhide Quw14) hg9 (by omega)
    have hneg : ¬ ((km + n : Nat) : Int) < 0 := by omega
    have hzz := Nat.le_trans (unhide Qzw14) hz4
    clear Hw14 Kaw14 zaw14 Qrw14 Qyw14 Qgw14 Qww14 Qpw14 Qvw14 Quw14 Qzw14
    have Hw15 : Hid (Below w.heap.size w w15) := (unhide SH).trans ((unhide Pw15).mono (unhide SH).size)
    have Kaw15 := hide (Blk.below (unhide Pw15) Sz (unhide SK))
    have zaw15 : w.heap.size < w15.heap.size := Nat.lt_of_lt_of_le Sz (unhide Pw15).size
    have Qrw15 : Hid (RdReq w15 r h) := hr.mono (unhide Hw15)
    have Qyw15 : Hid (Rd w15 (a) n us) := hu.mono (unhide Hw15)
    have Qgw15 : Hid (ErrT w15) := hg.later (unhide Hw15)
    have Qww15 : Hid (Rd2 w15 (some ⟨g0, 0, none⟩) ((firstR r us).length) ((firstR r us))) := Rd2.mono (unhide SW) (unhide Pw15)
    have Qpw15 : Hid (Below w5.heap.size w5 w15) := unhide Pw15
    have Quw15 : Hid (Own2A w15 w8.heap.size a1 cap1 xs1) := ho8
    have Qzw15 : Hid (w8.heap.size ≤ w15.heap.size) := hzz
    clear hzz
    clear ho8 hm9 hg9 Pw15
    generalize km + n = KM at *
    obtain ⟨aw15_0, aw15_1, aw15_2, aw15_3, aw15_4, aw15_5, aw15_6, aw15_7, aw15_8, aw15_9⟩ := Blk.cs10 (unhide Kaw15)
    go_wp2_with fail
    refine (eqIntSS_same _ _ _ _ _ ((firstR r us)) _ ((unhide HRD) _ (unhide Quw15)) (unhide Qww15) (by omega) hrow6).mono ?_
    rintro e w16 ⟨rfl, hbw16⟩
    clear aw15_0 aw15_1 aw15_2 aw15_3 aw15_4 aw15_5 aw15_6 aw15_7 aw15_8 aw15_9
    have Hw16 : Hid (Below w.heap.size w w16) := (unhide Hw15).trans (hbw16.mono (unhide Hw15).size)
    have Kaw16 := hide (Blk.below hbw16 zaw15 (unhide Kaw15))
    have zaw16 : w.heap.size < w16.heap.size := Nat.lt_of_lt_of_le zaw15 hbw16.size
    have Qrw16 : Hid (RdReq w16 r h) := (unhide Qrw15).mono hbw16
    have Qyw16 : Hid (Rd w16 (a) n us) := Rd.mono (unhide Qyw15) hbw16
    have Qgw16 : Hid (ErrT w16) := (unhide Qgw15).later hbw16
    have Qww16 : Hid (Rd2 w16 (some ⟨g0, 0, none⟩) ((firstR r us).length) ((firstR r us))) := Rd2.mono (unhide Qww15) hbw16
    have Qpw16 : Hid (Below w5.heap.size w5 w16) := (unhide Qpw15).trans (hbw16.mono (unhide Qpw15).size)
    have Quw16 : Hid (Own2A w16 w8.heap.size a1 cap1 xs1) := Own2A.later (unhide Quw15) hbw16
    have Qzw16 : Hid (w8.heap.size ≤ w16.heap.size) := Nat.le_trans (unhide Qzw15) hbw16.size
    clear Hw15 Kaw15 zaw15 Qrw15 Qyw15 Qgw15 Qww15 Qpw15 Quw15 Qzw15
    clear hbw16
    obtain ⟨aw16_0, aw16_1, aw16_2, aw16_3, aw16_4, aw16_5, aw16_6, aw16_7, aw16_8, aw16_9⟩ := Blk.cs10 (unhide Kaw16)
    go_wp2_with fail
    have hmk := markIntSS_opt w8.heap.size a1 cap1 1 xs1 w16 (unhide Quw16) hl4 ht16 (by omega) (unhide Qzw16)
    rw [unhide HL1] at hmk
    refine hmk.mono ?_
    clear hmk
    rintro e w17 ⟨rfl, hm, hg1⟩
    have hzU := (unhide Qzw16)
    clear aw16_0 aw16_1 aw16_2 aw16_3 aw16_4 aw16_5 aw16_6 aw16_7 aw16_8 aw16_9
    have hz5 := hg1.size
    have Pw17 : Hid (Below w5.heap.size w5 w17) := (unhide Qpw16).trans (hg1.mono (by omega))
    clear hzU
    clear Hw16 Kaw16 zaw16 Qrw16 Qyw16 Qgw16 Qww16 Qpw16 Quw16 Qzw16
    have Hw17 : Hid (Below w.heap.size w w17) := (unhide SH).trans ((unhide Pw17).mono (unhide SH).size)
    have Kaw17 := hide (Blk.below (unhide Pw17) Sz (unhide SK))
    have zaw17 : w.heap.size < w17.heap.size := Nat.lt_of_lt_of_le Sz (unhide Pw17).size
    have Qrw17 : Hid (RdReq w17 r h) := hr.mono (unhide Hw17)
    have Qyw17 : Hid (Rd w17 (a) n us) := hu.mono (unhide Hw17)
    have Qgw17 : Hid (ErrT w17) := hg.later (unhide Hw17)
    have Qww17 : Hid (Rd2 w17 (some ⟨g0, 0, none⟩) ((firstR r us).length) ((firstR r us))) := Rd2.mono (unhide SW) (unhide Pw17)
    have Qpw17 : Hid (Below w5.heap.size w5 w17) := unhide Pw17
    have Qmw17 : Hid (Own2A w17 w8.heap.size a1 cap1 (markTo 1 xs1)) := hm
    clear hm hg1 Pw17
    generalize hT : 1 + totR xs1 = T
    have HT := hide hT
    have hT0 : ¬ ((T : Nat) : Int) < 0 := by omega
    have hT1 : (((T : Nat) : Int) != ((T : Nat) : Int)) = false := by simp
    clear hT
    obtain ⟨aw17_0, aw17_1, aw17_2, aw17_3, aw17_4, aw17_5, aw17_6, aw17_7, aw17_8, aw17_9⟩ := Blk.cs10 (unhide Kaw17)
    go_wp2_with fail
    have hmk := heldIntSS_opt w8.heap.size a1 cap1 1 xs1 w17 (unhide Qmw17) hl4 ht16 (by omega)
    rw [unhide HL1, unhide HT] at hmk
    refine hmk.mono ?_
    clear hmk
    rintro e w9 ⟨rfl, hw9⟩
    subst w9
    go_wp2_with fail
    refine (toRequest_any r h _ (unhide Qrw17) hsm).mono ?_
    rintro e w18 ⟨h18, rfl, hq, hf, hbw18⟩
    clear aw17_0 aw17_1 aw17_2 aw17_3 aw17_4 aw17_5 aw17_6 aw17_7 aw17_8 aw17_9
    have Hw18 : Hid (Below w.heap.size w w18) := (unhide Hw17).trans (hbw18.mono (unhide Hw17).size)
    have Kaw18 := hide (Blk.below hbw18 zaw17 (unhide Kaw17))
    have zaw18 : w.heap.size < w18.heap.size := Nat.lt_of_lt_of_le zaw17 hbw18.size
    have Qrw18 : Hid (RdReq w18 r h) := (unhide Qrw17).mono hbw18
    have Qyw18 : Hid (Rd w18 (a) n us) := Rd.mono (unhide Qyw17) hbw18
    have Qgw18 : Hid (ErrT w18) := (unhide Qgw17).later hbw18
    have Qww18 : Hid (Rd2 w18 (some ⟨g0, 0, none⟩) ((firstR r us).length) ((firstR r us))) := Rd2.mono (unhide Qww17) hbw18
    have Qpw18 : Hid (Below w5.heap.size w5 w18) := (unhide Qpw17).trans (hbw18.mono (unhide Qpw17).size)
    have Qmw18 : Hid (Own2A w18 w8.heap.size a1 cap1 (markTo 1 xs1)) := Own2A.later (unhide Qmw17) hbw18
    clear Hw17 Kaw17 zaw17 Qrw17 Qyw17 Qgw17 Qww17 Qpw17 Qmw17
    clear hbw18
    have Qc18w18 : Hid (RdReq w18 r h18) := hq
    clear hq hf
    unfold reqVal
    go_wp2_with fail
    refine (toIntS_any a n c us _ (unhide Qyw18) hn6).mono ?_
    rintro e w19 ⟨rfl, ho, hbw19⟩
    have Hw19 : Hid (Below w.heap.size w w19) := (unhide Hw18).trans (hbw19.mono (unhide Hw18).size)
    have Kaw19 := hide (Blk.below hbw19 zaw18 (unhide Kaw18))
    have zaw19 : w.heap.size < w19.heap.size := Nat.lt_of_lt_of_le zaw18 hbw19.size
    have Qrw19 : Hid (RdReq w19 r h) := (unhide Qrw18).mono hbw19
    have Qyw19 : Hid (Rd w19 (a) n us) := Rd.mono (unhide Qyw18) hbw19
    have Qgw19 : Hid (ErrT w19) := (unhide Qgw18).later hbw19
    have Qww19 : Hid (Rd2 w19 (some ⟨g0, 0, none⟩) ((firstR r us).length) ((firstR r us))) := Rd2.mono (unhide Qww18) hbw19
    have Qpw19 : Hid (Below w5.heap.size w5 w19) := (unhide Qpw18).trans (hbw19.mono (unhide Qpw18).size)
    have Qmw19 : Hid (Own2A w19 w8.heap.size a1 cap1 (markTo 1 xs1)) := Own2A.later (unhide Qmw18) hbw19
    have Qc18w19 : Hid (RdReq w19 r h18) := (unhide Qc18w18).mono hbw19
    clear Hw18 Kaw18 zaw18 Qrw18 Qyw18 Qgw18 Qww18 Qpw18 Qmw18 Qc18w18
    clear hbw19
    have Qsw19 : Hid (Rd w19 (some ⟨w18.heap.size, 0, none⟩) n us) := Rd.of_owns ho
    clear ho
    go_wp2_with fail
    refine (firstFit_any r h18 _ _ _ us _ (unhide Qc18w19) hsm (unhide Qgw19) (unhide Qsw19) hn6).mono ?_
    rintro e w20 ⟨a2, cap2, xs2, rfl, ho2, hx2, hbw20⟩
    have Hw20 : Hid (Below w.heap.size w w20) := (unhide Hw19).trans (hbw20.mono (unhide Hw19).size)
    have Kaw20 := hide (Blk.below hbw20 zaw19 (unhide Kaw19))
    have zaw20 : w.heap.size < w20.heap.size := Nat.lt_of_lt_of_le zaw19 hbw20.size
    have Qrw20 : Hid (RdReq w20 r h) := (unhide Qrw19).mono hbw20
    have Qyw20 : Hid (Rd w20 (a) n us) := Rd.mono (unhide Qyw19) hbw20
    have Qgw20 : Hid (ErrT w20) := (unhide Qgw19).later hbw20
    have Qww20 : Hid (Rd2 w20 (some ⟨g0, 0, none⟩) ((firstR r us).length) ((firstR r us))) := Rd2.mono (unhide Qww19) hbw20
    have Qpw20 : Hid (Below w5.heap.size w5 w20) := (unhide Qpw19).trans (hbw20.mono (unhide Qpw19).size)
    have Qmw20 : Hid (Own2A w20 w8.heap.size a1 cap1 (markTo 1 xs1)) := Own2A.later (unhide Qmw19) hbw20
    have Qc18w20 : Hid (RdReq w20 r h18) := (unhide Qc18w19).mono hbw20
    have Qsw20 : Hid (Rd w20 (some ⟨w18.heap.size, 0, none⟩) n us) := Rd.mono (unhide Qsw19) hbw20
    clear Hw19 Kaw19 zaw19 Qrw19 Qyw19 Qgw19 Qww19 Qpw19 Qmw19 Qc18w19 Qsw19
    clear hbw20
    have hl2 : xs2.length = ((firstR r us)).length := by rw [← hx2, List.length_map]
    have hw2 := ho2.read
    rw [hx2] at hw2
    rw [hl2] at hw2
    clear ho2 hx2 hl2
    have Qvw20 : Hid (Rd2 w20 a2 ((firstR r us).length) ((firstR r us))) := hw2
    clear hw2
    obtain ⟨aw20_0, aw20_1, aw20_2, aw20_3, aw20_4, aw20_5, aw20_6, aw20_7, aw20_8, aw20_9⟩ := Blk.cs10 (unhide Kaw20)
    go_wp2_with fail
    refine (eqIntSS_same _ _ _ _ _ ((firstR r us)) _ (unhide Qvw20) (unhide Qww20) (by omega) hrow6).mono ?_
    rintro e w21 ⟨rfl, hbw21⟩
    clear aw20_0 aw20_1 aw20_2 aw20_3 aw20_4 aw20_5 aw20_6 aw20_7 aw20_8 aw20_9
    have Hw21 : Hid (Below w.heap.size w w21) := (unhide Hw20).trans (hbw21.mono (unhide Hw20).size)
    have Kaw21 := hide (Blk.below hbw21 zaw20 (unhide Kaw20))
    have zaw21 : w.heap.size < w21.heap.size := Nat.lt_of_lt_of_le zaw20 hbw21.size
    have Qrw21 : Hid (RdReq w21 r h) := (unhide Qrw20).mono hbw21
    have Qyw21 : Hid (Rd w21 (a) n us) := Rd.mono (unhide Qyw20) hbw21
    have Qgw21 : Hid (ErrT w21) := (unhide Qgw20).later hbw21
    have Qww21 : Hid (Rd2 w21 (some ⟨g0, 0, none⟩) ((firstR r us).length) ((firstR r us))) := Rd2.mono (unhide Qww20) hbw21
    have Qpw21 : Hid (Below w5.heap.size w5 w21) := (unhide Qpw20).trans (hbw21.mono (unhide Qpw20).size)
    have Qmw21 : Hid (Own2A w21 w8.heap.size a1 cap1 (markTo 1 xs1)) := Own2A.later (unhide Qmw20) hbw21
    have Qc18w21 : Hid (RdReq w21 r h18) := (unhide Qc18w20).mono hbw21
    have Qsw21 : Hid (Rd w21 (some ⟨w18.heap.size, 0, none⟩) n us) := Rd.mono (unhide Qsw20) hbw21
    have Qvw21 : Hid (Rd2 w21 a2 ((firstR r us).length) ((firstR r us))) := Rd2.mono (unhide Qvw20) hbw21
    clear Hw20 Kaw20 zaw20 Qrw20 Qyw20 Qgw20 Qww20 Qpw20 Qmw20 Qc18w20 Qsw20 Qvw20
    clear hbw21
    obtain ⟨aw21_0, aw21_1, aw21_2, aw21_3, aw21_4, aw21_5, aw21_6, aw21_7, aw21_8, aw21_9⟩ := Blk.cs10 (unhide Kaw21)
    go_wp2_with fail
    have hmk := heldIntSS_opt w8.heap.size a1 cap1 1 xs1 w21 (unhide Qmw21) hl4 ht16 (by omega)
    rw [unhide HL1, unhide HT] at hmk
    refine hmk.mono ?_
    clear hmk
    rintro e w9 ⟨rfl, hw9⟩
    subst w9
    go_wp2_with fail
    go_ret
    exact ⟨rfl, unhide Hw21⟩
end Go.Proofs.YtdmaldjnjffnlaaGreatDoor
