/- The law of IsPacking, walked. -/
import Derived.Test.YtdmaldjnjffnlabGreatDoorSpecPacking
import Derived.Test.YtdmaldjnjffnlabGreatDoorPackingImpl
import Derived.Test.YtdmaldjnjffnlabGreatDoorToSS
import Derived.Test.YtdmaldjnjffnlabGreatDoorPkA
import Derived.Test.YtdmaldjnjffnlabGreatDoorPkE
import Derived.Deep.DeepMust
import Derived.Deep.DeepCutAuto
namespace Go.Proofs.YtdmaldjnjffnlabGreatDoor
open Go.RowKit
set_option linter.unusedVariables false
theorem flat_total (css : List (List Int)) : css.flatten.length = total2 css := by
  rw [List.length_flatten]
  rfl
set_option maxRecDepth 100000 in
set_option maxHeartbeats 4000000 in
theorem law_isPacking (r : ReqV) (h : ReqH) (a : Option Addr) (n c : Nat) (us : List Int) (a2 : Option Addr) (n2 c2 : Nat) (css : List (List Int)) (w : World) (hr : RdReq w r h) (hp : r.pairs.length ≤ maxLen) (ht : r.types.length ≤ maxLen) (hi : r.items.length ≤ maxLen) (hg : ErrT w) (hu : Rd w a n us) (hm : n ≤ maxLen) (hc2 : Rd2 w a2 n2 css) (hm2 : n2 ≤ maxLen) (hmm : ∀ g ∈ css, g.length ≤ maxLen) :
    Calls Tryz.prog 4 #[reqVal r h, .slice a n c, .slice a2 n2 c2] w fun e w' => e = .returned (.bool true) ∧ Below w.heap.size w w' := by
  have hne : (packsB r us css != packsB r us css) = false := by simp
  by_cases hn6 : n ≤ 1048576
  case neg =>
    have hgt : (1048576 : Int) < (n : Int) := by omega
    unfold maxLen at hm
    unfold reqVal
    go_enter Tryz.func4, Tryz.ntmps4
    go_wp2_with fail
    go_ret
    exact ⟨rfl, (Below.refl _ _).alloc (Nat.le_refl _) _⟩
  have hgt : ¬ (1048576 : Int) < (n : Int) := by omega
  have hn7 : n ≤ 1048600 := by omega
  by_cases hs : (1048576 : Int) - r.pairs.length - r.types.length - r.items.length < 0
  · unfold reqVal
    go_enter Tryz.func4, Tryz.ntmps4
    go_wp2_with fail
    refine (szRequest_any r h _ _ (by omega) (by omega) hp ht hi).mono ?_
    rintro e w1 ⟨rfl, hb1⟩
    rw [if_pos (by omega)]
    have H1 : Hid (Below w.heap.size w w1) := ((Below.refl w.heap.size w).alloc (Nat.le_refl _) _).trans (hb1.mono (by simp))
    clear hb1
    go_wp2_with fail
    go_ret
    exact ⟨rfl, unhide H1⟩
  have hsm : r.small := by unfold ReqV.small; omega
  have htl : r.types.length ≤ 1048600 := by unfold ReqV.small at hsm; omega
  unfold reqVal
  go_enter Tryz.func4, Tryz.ntmps4
  go_wp2_with fail
  have hb : Below w.heap.size w (w.alloc (.cells #[.int .i64 r.way, .int .i64 r.pal.wd, .int .i64 r.pal.dp, .int .i64 r.pal.ht, .int .i64 r.pal.gram, .int .i64 r.classes, .slice h.ap r.pairs.length h.cp, .slice h.at' r.types.length h.ct, .int .i64 r.master, .slice h.ai r.items.length h.ci] 28)) := (Below.refl _ _).alloc (Nat.le_refl _) _
  have Kaw1 : Hid (Blk (w.alloc (.cells #[.int .i64 r.way, .int .i64 r.pal.wd, .int .i64 r.pal.dp, .int .i64 r.pal.ht, .int .i64 r.pal.gram, .int .i64 r.classes, .slice h.ap r.pairs.length h.cp, .slice h.at' r.types.length h.ct, .int .i64 r.master, .slice h.ai r.items.length h.ci] 28)) w.heap.size [.int .i64 r.way, .int .i64 r.pal.wd, .int .i64 r.pal.dp, .int .i64 r.pal.ht, .int .i64 r.pal.gram, .int .i64 r.classes, .slice h.ap r.pairs.length h.cp, .slice h.at' r.types.length h.ct, .int .i64 r.master, .slice h.ai r.items.length h.ci]) := Blk.allocAt [.int .i64 r.way, .int .i64 r.pal.wd, .int .i64 r.pal.dp, .int .i64 r.pal.ht, .int .i64 r.pal.gram, .int .i64 r.classes, .slice h.ap r.pairs.length h.cp, .slice h.at' r.types.length h.ct, .int .i64 r.master, .slice h.ai r.items.length h.ci] rfl
  have zaw1 : w.heap.size < (w.alloc (.cells #[.int .i64 r.way, .int .i64 r.pal.wd, .int .i64 r.pal.dp, .int .i64 r.pal.ht, .int .i64 r.pal.gram, .int .i64 r.classes, .slice h.ap r.pairs.length h.cp, .slice h.at' r.types.length h.ct, .int .i64 r.master, .slice h.ai r.items.length h.ci] 28)).heap.size := by simp
  generalize (w.alloc (.cells #[.int .i64 r.way, .int .i64 r.pal.wd, .int .i64 r.pal.dp, .int .i64 r.pal.ht, .int .i64 r.pal.gram, .int .i64 r.classes, .slice h.ap r.pairs.length h.cp, .slice h.at' r.types.length h.ct, .int .i64 r.master, .slice h.ai r.items.length h.ci] 28)) = w1 at *
  have Hw1 : Hid (Below w.heap.size w w1) := hb
  clear hb
  have Qrw1 : Hid (RdReq w1 r h) := hr.mono (unhide Hw1)
  have Qyw1 : Hid (Rd w1 a n us) := hu.mono (unhide Hw1)
  have Qzw1 : Hid (Rd2 w1 a2 n2 css) := hc2.mono (unhide Hw1)
  refine (szRequest_any r h _ _ (by omega) (by omega) hp ht hi).mono ?_
  rintro e w2 ⟨rfl, hbw2⟩
  have Hw2 : Hid (Below w.heap.size w w2) := (unhide Hw1).trans (hbw2.mono (unhide Hw1).size)
  have Kaw2 := hide (Blk.below hbw2 zaw1 (unhide Kaw1))
  have zaw2 : w.heap.size < w2.heap.size := Nat.lt_of_lt_of_le zaw1 hbw2.size
  have Qrw2 : Hid (RdReq w2 r h) := (unhide Qrw1).mono hbw2
  have Qyw2 : Hid (Rd w2 a n us) := Rd.mono (unhide Qyw1) hbw2
  have Qzw2 : Hid (Rd2 w2 a2 n2 css) := Rd2.mono (unhide Qzw1) hbw2
  clear Hw1 Kaw1 zaw1 Qrw1 Qyw1 Qzw1
  clear hbw2
  rw [if_neg (by omega)]
  have Qgw2 : Hid (ErrT w2) := hg.later (unhide Hw2)
  go_wp2_with fail
  refine (szIntSS_any a2 n2 c2 css _ w2 (unhide Qzw2) hm2 hmm (by omega) (by omega)).mono ?_
  rintro e wsz ⟨rz, rfl, hsz, hwsz⟩
  subst wsz
  by_cases hr0 : rz < 0
  · clear hsz
    go_wp2_with fail
    go_ret
    exact ⟨rfl, unhide Hw2⟩
  have hn2 : n2 ≤ 1048576 := by omega
  have hT2 : total2 css ≤ 1048576 := by omega
  have hcl9 := (unhide Qzw2).1
  have HL : Hid (∀ i, i < n2 → (css.getD i []).length ≤ 1048576) := fun i hi => Nat.le_trans (tot2_row css i (by omega)) hT2
  have htot : css.flatten.length ≤ 1048576 := by rw [flat_total]; exact hT2
  clear hsz
  obtain ⟨aw2_0, aw2_1, aw2_2, aw2_3, aw2_4, aw2_5, aw2_6, aw2_7, aw2_8, aw2_9⟩ := Blk.cs10 (unhide Kaw2)
  go_wp2_with fail
  refine (toRequest_any r h _ (unhide Qrw2) hsm).mono ?_
  rintro e w3 ⟨h3, rfl, hq, hf, hbw3⟩
  clear aw2_0 aw2_1 aw2_2 aw2_3 aw2_4 aw2_5 aw2_6 aw2_7 aw2_8 aw2_9
  have Hw3 : Hid (Below w.heap.size w w3) := (unhide Hw2).trans (hbw3.mono (unhide Hw2).size)
  have Kaw3 := hide (Blk.below hbw3 zaw2 (unhide Kaw2))
  have zaw3 : w.heap.size < w3.heap.size := Nat.lt_of_lt_of_le zaw2 hbw3.size
  have Qrw3 : Hid (RdReq w3 r h) := (unhide Qrw2).mono hbw3
  have Qyw3 : Hid (Rd w3 a n us) := Rd.mono (unhide Qyw2) hbw3
  have Qzw3 : Hid (Rd2 w3 a2 n2 css) := Rd2.mono (unhide Qzw2) hbw3
  have Qgw3 : Hid (ErrT w3) := (unhide Qgw2).later hbw3
  clear Hw2 Kaw2 zaw2 Qrw2 Qyw2 Qzw2 Qgw2
  clear hbw3
  have Qc3w3 : Hid (RdReq w3 r h3) := hq
  clear hq hf
  unfold reqVal
  go_wp2_with fail
  refine (toIntS_any a n c us _ (unhide Qyw3) hn6).mono ?_
  rintro e w4 ⟨rfl, ho, hbw4⟩
  have Hw4 : Hid (Below w.heap.size w w4) := (unhide Hw3).trans (hbw4.mono (unhide Hw3).size)
  have Kaw4 := hide (Blk.below hbw4 zaw3 (unhide Kaw3))
  have zaw4 : w.heap.size < w4.heap.size := Nat.lt_of_lt_of_le zaw3 hbw4.size
  have Qrw4 : Hid (RdReq w4 r h) := (unhide Qrw3).mono hbw4
  have Qyw4 : Hid (Rd w4 a n us) := Rd.mono (unhide Qyw3) hbw4
  have Qzw4 : Hid (Rd2 w4 a2 n2 css) := Rd2.mono (unhide Qzw3) hbw4
  have Qgw4 : Hid (ErrT w4) := (unhide Qgw3).later hbw4
  have Qc3w4 : Hid (RdReq w4 r h3) := (unhide Qc3w3).mono hbw4
  clear Hw3 Kaw3 zaw3 Qrw3 Qyw3 Qzw3 Qgw3 Qc3w3
  clear hbw4
  have Qsw4 : Hid (Rd w4 (some ⟨w3.heap.size, 0, none⟩) n us) := Rd.of_owns ho
  clear ho
  go_wp2_with fail
  refine (toIntSS_any a2 n2 c2 css _ (unhide Qzw4) hn2 (unhide HL)).mono ?_
  rintro e w5 ⟨xs1, rfl, hx1, hg1, ho1, hbw5⟩
  have Hw5 : Hid (Below w.heap.size w w5) := (unhide Hw4).trans (hbw5.mono (unhide Hw4).size)
  have Kaw5 := hide (Blk.below hbw5 zaw4 (unhide Kaw4))
  have zaw5 : w.heap.size < w5.heap.size := Nat.lt_of_lt_of_le zaw4 hbw5.size
  have Qrw5 : Hid (RdReq w5 r h) := (unhide Qrw4).mono hbw5
  have Qyw5 : Hid (Rd w5 a n us) := Rd.mono (unhide Qyw4) hbw5
  have Qzw5 : Hid (Rd2 w5 a2 n2 css) := Rd2.mono (unhide Qzw4) hbw5
  have Qgw5 : Hid (ErrT w5) := (unhide Qgw4).later hbw5
  have Qc3w5 : Hid (RdReq w5 r h3) := (unhide Qc3w4).mono hbw5
  have Qsw5 : Hid (Rd w5 (some ⟨w3.heap.size, 0, none⟩) n us) := Rd.mono (unhide Qsw4) hbw5
  clear Hw4 Kaw4 zaw4 Qrw4 Qyw4 Qzw4 Qgw4 Qc3w4 Qsw4
  clear hbw5
  have Qssw5 : Hid (Rd2 w5 (some ⟨w4.heap.size, 0, none⟩) n2 css) := by have := ho1.read; rw [hx1, hg1] at this; exact this
  clear ho1 hx1 hg1
  go_wp2_with fail
  refine (specIsPacking_any r h3 _ _ _ us _ _ _ css _ (unhide Qc3w5) hsm (unhide Qsw5) hn6 (unhide Qssw5) hn2 (unhide HL) htot).mono ?_
  rintro e w6 ⟨rfl, hbw6⟩
  have Hw6 : Hid (Below w.heap.size w w6) := (unhide Hw5).trans (hbw6.mono (unhide Hw5).size)
  have Kaw6 := hide (Blk.below hbw6 zaw5 (unhide Kaw5))
  have zaw6 : w.heap.size < w6.heap.size := Nat.lt_of_lt_of_le zaw5 hbw6.size
  have Qrw6 : Hid (RdReq w6 r h) := (unhide Qrw5).mono hbw6
  have Qyw6 : Hid (Rd w6 a n us) := Rd.mono (unhide Qyw5) hbw6
  have Qzw6 : Hid (Rd2 w6 a2 n2 css) := Rd2.mono (unhide Qzw5) hbw6
  have Qgw6 : Hid (ErrT w6) := (unhide Qgw5).later hbw6
  have Qc3w6 : Hid (RdReq w6 r h3) := (unhide Qc3w5).mono hbw6
  have Qsw6 : Hid (Rd w6 (some ⟨w3.heap.size, 0, none⟩) n us) := Rd.mono (unhide Qsw5) hbw6
  have Qssw6 : Hid (Rd2 w6 (some ⟨w4.heap.size, 0, none⟩) n2 css) := Rd2.mono (unhide Qssw5) hbw6
  clear Hw5 Kaw5 zaw5 Qrw5 Qyw5 Qzw5 Qgw5 Qc3w5 Qsw5 Qssw5
  clear hbw6
  clear Qc3w6
  clear Qsw6
  clear Qssw6
  obtain ⟨aw6_0, aw6_1, aw6_2, aw6_3, aw6_4, aw6_5, aw6_6, aw6_7, aw6_8, aw6_9⟩ := Blk.cs10 (unhide Kaw6)
  go_wp2_with fail
  refine (toRequest_any r h _ (unhide Qrw6) hsm).mono ?_
  rintro e w7 ⟨h7, rfl, hq, hf, hbw7⟩
  clear aw6_0 aw6_1 aw6_2 aw6_3 aw6_4 aw6_5 aw6_6 aw6_7 aw6_8 aw6_9
  have Hw7 : Hid (Below w.heap.size w w7) := (unhide Hw6).trans (hbw7.mono (unhide Hw6).size)
  have Kaw7 := hide (Blk.below hbw7 zaw6 (unhide Kaw6))
  have zaw7 : w.heap.size < w7.heap.size := Nat.lt_of_lt_of_le zaw6 hbw7.size
  have Qrw7 : Hid (RdReq w7 r h) := (unhide Qrw6).mono hbw7
  have Qyw7 : Hid (Rd w7 a n us) := Rd.mono (unhide Qyw6) hbw7
  have Qzw7 : Hid (Rd2 w7 a2 n2 css) := Rd2.mono (unhide Qzw6) hbw7
  have Qgw7 : Hid (ErrT w7) := (unhide Qgw6).later hbw7
  clear Hw6 Kaw6 zaw6 Qrw6 Qyw6 Qzw6 Qgw6
  clear hbw7
  have Qc7w7 : Hid (RdReq w7 r h7) := hq
  clear hq hf
  unfold reqVal
  go_wp2_with fail
  have hb : Below w7.heap.size w7 (w7.alloc (.cells #[.int .i64 r.way, .int .i64 r.pal.wd, .int .i64 r.pal.dp, .int .i64 r.pal.ht, .int .i64 r.pal.gram, .int .i64 r.classes, .slice h7.ap r.pairs.length h7.cp, .slice h7.at' r.types.length h7.ct, .int .i64 r.master, .slice h7.ai r.items.length h7.ci] 37)) := (Below.refl _ _).alloc (Nat.le_refl _) _
  have Kxw8 : Hid (Blk (w7.alloc (.cells #[.int .i64 r.way, .int .i64 r.pal.wd, .int .i64 r.pal.dp, .int .i64 r.pal.ht, .int .i64 r.pal.gram, .int .i64 r.classes, .slice h7.ap r.pairs.length h7.cp, .slice h7.at' r.types.length h7.ct, .int .i64 r.master, .slice h7.ai r.items.length h7.ci] 37)) w7.heap.size [.int .i64 r.way, .int .i64 r.pal.wd, .int .i64 r.pal.dp, .int .i64 r.pal.ht, .int .i64 r.pal.gram, .int .i64 r.classes, .slice h7.ap r.pairs.length h7.cp, .slice h7.at' r.types.length h7.ct, .int .i64 r.master, .slice h7.ai r.items.length h7.ci]) := Blk.allocAt [.int .i64 r.way, .int .i64 r.pal.wd, .int .i64 r.pal.dp, .int .i64 r.pal.ht, .int .i64 r.pal.gram, .int .i64 r.classes, .slice h7.ap r.pairs.length h7.cp, .slice h7.at' r.types.length h7.ct, .int .i64 r.master, .slice h7.ai r.items.length h7.ci] rfl
  have zxw8 : w7.heap.size < (w7.alloc (.cells #[.int .i64 r.way, .int .i64 r.pal.wd, .int .i64 r.pal.dp, .int .i64 r.pal.ht, .int .i64 r.pal.gram, .int .i64 r.classes, .slice h7.ap r.pairs.length h7.cp, .slice h7.at' r.types.length h7.ct, .int .i64 r.master, .slice h7.ai r.items.length h7.ci] 37)).heap.size := by simp
  generalize (w7.alloc (.cells #[.int .i64 r.way, .int .i64 r.pal.wd, .int .i64 r.pal.dp, .int .i64 r.pal.ht, .int .i64 r.pal.gram, .int .i64 r.classes, .slice h7.ap r.pairs.length h7.cp, .slice h7.at' r.types.length h7.ct, .int .i64 r.master, .slice h7.ai r.items.length h7.ci] 37)) = w8 at *
  have Hw8 : Hid (Below w.heap.size w w8) := (unhide Hw7).trans (hb.mono (unhide Hw7).size)
  have Kaw8 := hide (Blk.below hb zaw7 (unhide Kaw7))
  have zaw8 : w.heap.size < w8.heap.size := Nat.lt_of_lt_of_le zaw7 hb.size
  have Qrw8 : Hid (RdReq w8 r h) := (unhide Qrw7).mono hb
  have Qyw8 : Hid (Rd w8 a n us) := Rd.mono (unhide Qyw7) hb
  have Qzw8 : Hid (Rd2 w8 a2 n2 css) := Rd2.mono (unhide Qzw7) hb
  have Qgw8 : Hid (ErrT w8) := (unhide Qgw7).later hb
  have Qc7w8 : Hid (RdReq w8 r h7) := (unhide Qc7w7).mono hb
  clear Hw7 Kaw7 zaw7 Qrw7 Qyw7 Qzw7 Qgw7 Qc7w7
  clear hb
  refine (toIntS_any a n c us _ (unhide Qyw8) hn6).mono ?_
  rintro e w9 ⟨rfl, ho, hbw9⟩
  have Hw9 : Hid (Below w.heap.size w w9) := (unhide Hw8).trans (hbw9.mono (unhide Hw8).size)
  have Kaw9 := hide (Blk.below hbw9 zaw8 (unhide Kaw8))
  have zaw9 : w.heap.size < w9.heap.size := Nat.lt_of_lt_of_le zaw8 hbw9.size
  have Kxw9 := hide (Blk.below hbw9 zxw8 (unhide Kxw8))
  have zxw9 : w7.heap.size < w9.heap.size := Nat.lt_of_lt_of_le zxw8 hbw9.size
  have Qrw9 : Hid (RdReq w9 r h) := (unhide Qrw8).mono hbw9
  have Qyw9 : Hid (Rd w9 a n us) := Rd.mono (unhide Qyw8) hbw9
  have Qzw9 : Hid (Rd2 w9 a2 n2 css) := Rd2.mono (unhide Qzw8) hbw9
  have Qgw9 : Hid (ErrT w9) := (unhide Qgw8).later hbw9
  have Qc7w9 : Hid (RdReq w9 r h7) := (unhide Qc7w8).mono hbw9
  clear Hw8 Kaw8 zaw8 Kxw8 zxw8 Qrw8 Qyw8 Qzw8 Qgw8 Qc7w8
  clear hbw9
  have Qtw9 : Hid (Rd w9 (some ⟨w8.heap.size, 0, none⟩) n us) := Rd.of_owns ho
  clear ho
  go_wp2_with fail
  refine (toIntSS_any a2 n2 c2 css _ (unhide Qzw9) hn2 (unhide HL)).mono ?_
  rintro e w10 ⟨xs2, rfl, hx2, hg2, ho2, hbw10⟩
  have Hw10 : Hid (Below w.heap.size w w10) := (unhide Hw9).trans (hbw10.mono (unhide Hw9).size)
  have Kaw10 := hide (Blk.below hbw10 zaw9 (unhide Kaw9))
  have zaw10 : w.heap.size < w10.heap.size := Nat.lt_of_lt_of_le zaw9 hbw10.size
  have Kxw10 := hide (Blk.below hbw10 zxw9 (unhide Kxw9))
  have zxw10 : w7.heap.size < w10.heap.size := Nat.lt_of_lt_of_le zxw9 hbw10.size
  have Qrw10 : Hid (RdReq w10 r h) := (unhide Qrw9).mono hbw10
  have Qyw10 : Hid (Rd w10 a n us) := Rd.mono (unhide Qyw9) hbw10
  have Qzw10 : Hid (Rd2 w10 a2 n2 css) := Rd2.mono (unhide Qzw9) hbw10
  have Qgw10 : Hid (ErrT w10) := (unhide Qgw9).later hbw10
  have Qc7w10 : Hid (RdReq w10 r h7) := (unhide Qc7w9).mono hbw10
  have Qtw10 : Hid (Rd w10 (some ⟨w8.heap.size, 0, none⟩) n us) := Rd.mono (unhide Qtw9) hbw10
  clear Hw9 Kaw9 zaw9 Kxw9 zxw9 Qrw9 Qyw9 Qzw9 Qgw9 Qc7w9 Qtw9
  clear hbw10
  have Qttw10 : Hid (Rd2 w10 (some ⟨w9.heap.size, 0, none⟩) n2 css) := by have := ho2.read; rw [hx2, hg2] at this; exact this
  clear ho2 hx2 hg2
  obtain ⟨aw10_0, aw10_1, aw10_2, aw10_3, aw10_4, aw10_5, aw10_6, aw10_7, aw10_8, aw10_9⟩ := Blk.cs10 (unhide Kaw10)
  obtain ⟨xw10_0, xw10_1, xw10_2, xw10_3, xw10_4, xw10_5, xw10_6, xw10_7, xw10_8, xw10_9⟩ := Blk.cs10 (unhide Kxw10)
  go_wp2_with fail
  refine (isPacking_any r h7 _ _ _ us _ _ _ css _ (unhide Qc7w10) hsm (unhide Qgw10) (unhide Qtw10) hn6 (unhide Qttw10) hn2 (unhide HL)).mono ?_
  rintro e w11 ⟨rfl, hbw11⟩
  clear aw10_0 aw10_1 aw10_2 aw10_3 aw10_4 aw10_5 aw10_6 aw10_7 aw10_8 aw10_9 xw10_0 xw10_1 xw10_2 xw10_3 xw10_4 xw10_5 xw10_6 xw10_7 xw10_8 xw10_9
  have Hw11 : Hid (Below w.heap.size w w11) := (unhide Hw10).trans (hbw11.mono (unhide Hw10).size)
  have Kaw11 := hide (Blk.below hbw11 zaw10 (unhide Kaw10))
  have zaw11 : w.heap.size < w11.heap.size := Nat.lt_of_lt_of_le zaw10 hbw11.size
  have Kxw11 := hide (Blk.below hbw11 zxw10 (unhide Kxw10))
  have zxw11 : w7.heap.size < w11.heap.size := Nat.lt_of_lt_of_le zxw10 hbw11.size
  have Qrw11 : Hid (RdReq w11 r h) := (unhide Qrw10).mono hbw11
  have Qyw11 : Hid (Rd w11 a n us) := Rd.mono (unhide Qyw10) hbw11
  have Qzw11 : Hid (Rd2 w11 a2 n2 css) := Rd2.mono (unhide Qzw10) hbw11
  have Qgw11 : Hid (ErrT w11) := (unhide Qgw10).later hbw11
  have Qc7w11 : Hid (RdReq w11 r h7) := (unhide Qc7w10).mono hbw11
  have Qtw11 : Hid (Rd w11 (some ⟨w8.heap.size, 0, none⟩) n us) := Rd.mono (unhide Qtw10) hbw11
  have Qttw11 : Hid (Rd2 w11 (some ⟨w9.heap.size, 0, none⟩) n2 css) := Rd2.mono (unhide Qttw10) hbw11
  clear Hw10 Kaw10 zaw10 Kxw10 zxw10 Qrw10 Qyw10 Qzw10 Qgw10 Qc7w10 Qtw10 Qttw10
  clear hbw11
  obtain ⟨aw11_0, aw11_1, aw11_2, aw11_3, aw11_4, aw11_5, aw11_6, aw11_7, aw11_8, aw11_9⟩ := Blk.cs10 (unhide Kaw11)
  obtain ⟨xw11_0, xw11_1, xw11_2, xw11_3, xw11_4, xw11_5, xw11_6, xw11_7, xw11_8, xw11_9⟩ := Blk.cs10 (unhide Kxw11)
  have DX : Hid (Blk w11.drew w7.heap.size [.int .i64 r.way, .int .i64 r.pal.wd, .int .i64 r.pal.dp, .int .i64 r.pal.ht, .int .i64 r.pal.gram, .int .i64 r.classes, .slice h7.ap r.pairs.length h7.cp, .slice h7.at' r.types.length h7.ct, .int .i64 r.master, .slice h7.ai r.items.length h7.ci]) := unhide Kxw11
  have DQ : Hid (RdReq w11.drew r h) := (unhide Qrw11).mono (Below.refl _ _).drew
  have DC : Hid (RdReq w11.drew r h7) := (unhide Qc7w11).mono (Below.refl _ _).drew
  have DB : Hid (Below w11.heap.size w11 w11.drew) := (Below.refl _ _).drew
  go_upto_region 17 with fail
  go_cut [50] (fun v wc => v = .bool false ∧ Below w11.heap.size w11 wc)
  case first =>
    go_region_with (first
      | (go_at_call 11; go_must (refine (toRequest_any r h _ (by exact unhide DQ) hsm).mono ?_; rintro e u1 ⟨y1, rfl, hq, hf, hb⟩; have Q1 := hide hq; have B1 := hide hb; have X1 := Blk.below hb (by exact zxw11) (unhide DX); have y0 : u1.cell? ⟨w7.heap.size, 0, none⟩ = some (.int .i64 r.way) := (X1 0 (by simp)).1; have yy1 : u1.cell? ⟨w7.heap.size, 1, none⟩ = some (.int .i64 r.pal.wd) := (X1 1 (by simp)).1; have y2 : u1.cell? ⟨w7.heap.size, 2, none⟩ = some (.int .i64 r.pal.dp) := (X1 2 (by simp)).1; have y3 : u1.cell? ⟨w7.heap.size, 3, none⟩ = some (.int .i64 r.pal.ht) := (X1 3 (by simp)).1; have y4 : u1.cell? ⟨w7.heap.size, 4, none⟩ = some (.int .i64 r.pal.gram) := (X1 4 (by simp)).1; have y5 : u1.cell? ⟨w7.heap.size, 5, none⟩ = some (.int .i64 r.classes) := (X1 5 (by simp)).1; have y6 : u1.cell? ⟨w7.heap.size, 6, none⟩ = some (.slice h7.ap r.pairs.length h7.cp) := (X1 6 (by simp)).1; have y7 : u1.cell? ⟨w7.heap.size, 7, none⟩ = some (.slice h7.at' r.types.length h7.ct) := (X1 7 (by simp)).1; have y8 : u1.cell? ⟨w7.heap.size, 8, none⟩ = some (.int .i64 r.master) := (X1 8 (by simp)).1; have y9 : u1.cell? ⟨w7.heap.size, 9, none⟩ = some (.slice h7.ai r.items.length h7.ci) := (X1 9 (by simp)).1; clear hq hf hb X1))
      | (go_at_call 14; go_must (refine (eqRequest_same r h7 y1 _ (by exact (unhide DC).mono (unhide B1)) (by exact unhide Q1) hsm).mono ?_; rintro e u2 ⟨rfl, hb⟩; have B2 := hide hb; clear hb)))
    all_goals
      go_wp2_with fail
      go_meet
      case rel => exact ⟨rfl, ((unhide DB).trans ((unhide B1).mono (unhide DB).size)).trans ((unhide B2).mono ((unhide DB).trans ((unhide B1).mono (unhide DB).size)).size)⟩
  case rest =>
    obtain ⟨rfl, hb0⟩ := hcut
    clear aw11_0 aw11_1 aw11_2 aw11_3 aw11_4 aw11_5 aw11_6 aw11_7 aw11_8 aw11_9 xw11_0 xw11_1 xw11_2 xw11_3 xw11_4 xw11_5 xw11_6 xw11_7 xw11_8 xw11_9
    clear DX DQ DC DB
    obtain ⟨w12, hw8⟩ : ∃ w8 : World, w8 = wc := ⟨_, rfl⟩
    subst wc
    have Hw12 : Hid (Below w.heap.size w w12) := (unhide Hw11).trans (hb0.mono (unhide Hw11).size)
    have Kaw12 := hide (Blk.below hb0 zaw11 (unhide Kaw11))
    have zaw12 : w.heap.size < w12.heap.size := Nat.lt_of_lt_of_le zaw11 hb0.size
    have Kxw12 := hide (Blk.below hb0 zxw11 (unhide Kxw11))
    have zxw12 : w7.heap.size < w12.heap.size := Nat.lt_of_lt_of_le zxw11 hb0.size
    have Qrw12 : Hid (RdReq w12 r h) := (unhide Qrw11).mono hb0
    have Qyw12 : Hid (Rd w12 a n us) := Rd.mono (unhide Qyw11) hb0
    have Qzw12 : Hid (Rd2 w12 a2 n2 css) := Rd2.mono (unhide Qzw11) hb0
    have Qgw12 : Hid (ErrT w12) := (unhide Qgw11).later hb0
    have Qc7w12 : Hid (RdReq w12 r h7) := (unhide Qc7w11).mono hb0
    have Qtw12 : Hid (Rd w12 (some ⟨w8.heap.size, 0, none⟩) n us) := Rd.mono (unhide Qtw11) hb0
    have Qttw12 : Hid (Rd2 w12 (some ⟨w9.heap.size, 0, none⟩) n2 css) := Rd2.mono (unhide Qttw11) hb0
    clear Hw11 Kaw11 zaw11 Kxw11 zxw11 Qrw11 Qyw11 Qzw11 Qgw11 Qc7w11 Qtw11 Qttw11
    clear hb0
    go_wp2_with fail
    refine (toIntS_any a n c us _ (unhide Qyw12) hn6).mono ?_
    rintro e w13 ⟨rfl, ho, hbw13⟩
    have Hw13 : Hid (Below w.heap.size w w13) := (unhide Hw12).trans (hbw13.mono (unhide Hw12).size)
    have Kaw13 := hide (Blk.below hbw13 zaw12 (unhide Kaw12))
    have zaw13 : w.heap.size < w13.heap.size := Nat.lt_of_lt_of_le zaw12 hbw13.size
    have Kxw13 := hide (Blk.below hbw13 zxw12 (unhide Kxw12))
    have zxw13 : w7.heap.size < w13.heap.size := Nat.lt_of_lt_of_le zxw12 hbw13.size
    have Qrw13 : Hid (RdReq w13 r h) := (unhide Qrw12).mono hbw13
    have Qyw13 : Hid (Rd w13 a n us) := Rd.mono (unhide Qyw12) hbw13
    have Qzw13 : Hid (Rd2 w13 a2 n2 css) := Rd2.mono (unhide Qzw12) hbw13
    have Qgw13 : Hid (ErrT w13) := (unhide Qgw12).later hbw13
    have Qc7w13 : Hid (RdReq w13 r h7) := (unhide Qc7w12).mono hbw13
    have Qtw13 : Hid (Rd w13 (some ⟨w8.heap.size, 0, none⟩) n us) := Rd.mono (unhide Qtw12) hbw13
    have Qttw13 : Hid (Rd2 w13 (some ⟨w9.heap.size, 0, none⟩) n2 css) := Rd2.mono (unhide Qttw12) hbw13
    clear Hw12 Kaw12 zaw12 Kxw12 zxw12 Qrw12 Qyw12 Qzw12 Qgw12 Qc7w12 Qtw12 Qttw12
    clear hbw13
    have Quw13 : Hid (Rd w13 (some ⟨w12.heap.size, 0, none⟩) n us) := Rd.of_owns ho
    clear ho
    go_wp2_with fail
    refine (eqIntS_same _ _ _ _ _ us _ (unhide Qtw13) (unhide Quw13) hn6).mono ?_
    rintro e w14 ⟨rfl, hbw14⟩
    have Hw14 : Hid (Below w.heap.size w w14) := (unhide Hw13).trans (hbw14.mono (unhide Hw13).size)
    have Kaw14 := hide (Blk.below hbw14 zaw13 (unhide Kaw13))
    have zaw14 : w.heap.size < w14.heap.size := Nat.lt_of_lt_of_le zaw13 hbw14.size
    have Kxw14 := hide (Blk.below hbw14 zxw13 (unhide Kxw13))
    have zxw14 : w7.heap.size < w14.heap.size := Nat.lt_of_lt_of_le zxw13 hbw14.size
    have Qrw14 : Hid (RdReq w14 r h) := (unhide Qrw13).mono hbw14
    have Qyw14 : Hid (Rd w14 a n us) := Rd.mono (unhide Qyw13) hbw14
    have Qzw14 : Hid (Rd2 w14 a2 n2 css) := Rd2.mono (unhide Qzw13) hbw14
    have Qgw14 : Hid (ErrT w14) := (unhide Qgw13).later hbw14
    have Qc7w14 : Hid (RdReq w14 r h7) := (unhide Qc7w13).mono hbw14
    have Qtw14 : Hid (Rd w14 (some ⟨w8.heap.size, 0, none⟩) n us) := Rd.mono (unhide Qtw13) hbw14
    have Qttw14 : Hid (Rd2 w14 (some ⟨w9.heap.size, 0, none⟩) n2 css) := Rd2.mono (unhide Qttw13) hbw14
    have Quw14 : Hid (Rd w14 (some ⟨w12.heap.size, 0, none⟩) n us) := Rd.mono (unhide Quw13) hbw14
    clear Hw13 Kaw13 zaw13 Kxw13 zxw13 Qrw13 Qyw13 Qzw13 Qgw13 Qc7w13 Qtw13 Qttw13 Quw13
    clear hbw14
    go_wp2_with fail
    refine (toIntSS_any a2 n2 c2 css _ (unhide Qzw14) hn2 (unhide HL)).mono ?_
    rintro e w15 ⟨xs3, rfl, hx3, hg3, ho3, hbw15⟩
    have Hw15 : Hid (Below w.heap.size w w15) := (unhide Hw14).trans (hbw15.mono (unhide Hw14).size)
    have Kaw15 := hide (Blk.below hbw15 zaw14 (unhide Kaw14))
    have zaw15 : w.heap.size < w15.heap.size := Nat.lt_of_lt_of_le zaw14 hbw15.size
    have Kxw15 := hide (Blk.below hbw15 zxw14 (unhide Kxw14))
    have zxw15 : w7.heap.size < w15.heap.size := Nat.lt_of_lt_of_le zxw14 hbw15.size
    have Qrw15 : Hid (RdReq w15 r h) := (unhide Qrw14).mono hbw15
    have Qyw15 : Hid (Rd w15 a n us) := Rd.mono (unhide Qyw14) hbw15
    have Qzw15 : Hid (Rd2 w15 a2 n2 css) := Rd2.mono (unhide Qzw14) hbw15
    have Qgw15 : Hid (ErrT w15) := (unhide Qgw14).later hbw15
    have Qc7w15 : Hid (RdReq w15 r h7) := (unhide Qc7w14).mono hbw15
    have Qtw15 : Hid (Rd w15 (some ⟨w8.heap.size, 0, none⟩) n us) := Rd.mono (unhide Qtw14) hbw15
    have Qttw15 : Hid (Rd2 w15 (some ⟨w9.heap.size, 0, none⟩) n2 css) := Rd2.mono (unhide Qttw14) hbw15
    have Quw15 : Hid (Rd w15 (some ⟨w12.heap.size, 0, none⟩) n us) := Rd.mono (unhide Quw14) hbw15
    clear Hw14 Kaw14 zaw14 Kxw14 zxw14 Qrw14 Qyw14 Qzw14 Qgw14 Qc7w14 Qtw14 Qttw14 Quw14
    clear hbw15
    have Qvvw15 : Hid (Rd2 w15 (some ⟨w14.heap.size, 0, none⟩) n2 css) := by have := ho3.read; rw [hx3, hg3] at this; exact this
    clear ho3 hx3 hg3
    go_wp2_with fail
    refine (eqIntSS_same _ _ _ _ _ css _ (unhide Qttw15) (unhide Qvvw15) hn2 (unhide HL)).mono ?_
    rintro e w16 ⟨rfl, hbw16⟩
    have Hw16 : Hid (Below w.heap.size w w16) := (unhide Hw15).trans (hbw16.mono (unhide Hw15).size)
    have Kaw16 := hide (Blk.below hbw16 zaw15 (unhide Kaw15))
    have zaw16 : w.heap.size < w16.heap.size := Nat.lt_of_lt_of_le zaw15 hbw16.size
    have Kxw16 := hide (Blk.below hbw16 zxw15 (unhide Kxw15))
    have zxw16 : w7.heap.size < w16.heap.size := Nat.lt_of_lt_of_le zxw15 hbw16.size
    have Qrw16 : Hid (RdReq w16 r h) := (unhide Qrw15).mono hbw16
    have Qyw16 : Hid (Rd w16 a n us) := Rd.mono (unhide Qyw15) hbw16
    have Qzw16 : Hid (Rd2 w16 a2 n2 css) := Rd2.mono (unhide Qzw15) hbw16
    have Qgw16 : Hid (ErrT w16) := (unhide Qgw15).later hbw16
    have Qc7w16 : Hid (RdReq w16 r h7) := (unhide Qc7w15).mono hbw16
    have Qtw16 : Hid (Rd w16 (some ⟨w8.heap.size, 0, none⟩) n us) := Rd.mono (unhide Qtw15) hbw16
    have Qttw16 : Hid (Rd2 w16 (some ⟨w9.heap.size, 0, none⟩) n2 css) := Rd2.mono (unhide Qttw15) hbw16
    have Quw16 : Hid (Rd w16 (some ⟨w12.heap.size, 0, none⟩) n us) := Rd.mono (unhide Quw15) hbw16
    have Qvvw16 : Hid (Rd2 w16 (some ⟨w14.heap.size, 0, none⟩) n2 css) := Rd2.mono (unhide Qvvw15) hbw16
    clear Hw15 Kaw15 zaw15 Kxw15 zxw15 Qrw15 Qyw15 Qzw15 Qgw15 Qc7w15 Qtw15 Qttw15 Quw15 Qvvw15
    clear hbw16
    go_wp2_with fail
    go_ret
    exact ⟨rfl, unhide Hw16⟩
end Go.Proofs.YtdmaldjnjffnlabGreatDoor
