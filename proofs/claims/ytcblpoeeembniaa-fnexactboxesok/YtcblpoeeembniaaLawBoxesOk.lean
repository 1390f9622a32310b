/- The law of BoxesOk, walked. -/
import Derived.Test.YtcblpoeeembniaaBoxes
import Derived.Test.YtcblpoeeembniaaTo
import Derived.Test.YtcblpoeeembniaaToS
import Derived.Test.YtcblpoeeembniaaEqS
import Derived.Deep.DeepMust
import Derived.Deep.DeepCutAuto
namespace Go.Proofs.Ytcblpoeeembniaa
open Go.RowKit
set_option linter.unusedVariables false
set_option linter.unusedSimpArgs false
set_option maxRecDepth 100000 in
set_option maxHeartbeats 4000000 in
theorem law_boxesOk (p : PalletV) (a : Option Addr) (n c : Nat) (xs : List BoxV) (w : World) (hr : RdR BoxV.cells 4 w a n xs) (hm : n ≤ maxLen) :
 Calls Try.prog 3 #[.agg #[.int .i64 p.wd, .int .i64 p.dp, .int .i64 p.ht, .int .i64 p.gram], .slice a n c] w fun e w' => e = .returned (.bool true) ∧ Below w.heap.size w w' := by
 have hne : (boxesB p xs != boxesB p xs) = false := by simp
 by_cases hs : (1048576 : Int) - n < 0
 · go_enter Try.func3, Try.ntmps3
   go_wp2_with fail
   refine (szBoxS_any a n c _ _ hm (by omega) (by omega)).mono ?_
   rintro e w1 ⟨rfl, hw⟩
   subst w1
   rw [if_pos hs]
   go_wp2_with fail
   go_ret
   exact ⟨rfl, (Below.refl _ _).alloc (Nat.le_refl _) _⟩
 have hn : n ≤ 1048576 := by omega
 go_enter Try.func3, Try.ntmps3
 go_wp2_with fail
 generalize hW : (w.alloc (.cells #[.int .i64 p.wd, .int .i64 p.dp, .int .i64 p.ht, .int .i64 p.gram] 23)) = w1 at *
 obtain ⟨hb, Kpw1, zpw1⟩ := en1 hW
 have hb := unhide hb
 have Hw1 : Hid (Below w.heap.size w w1) := hb
 clear hb hW
 have Qyw1 : Hid (RdR BoxV.cells 4 w1 a n xs) := hr.mono (by omega) BoxV.len Hw1.out
 refine (szBoxS_any a n c _ _ hm (by omega) (by omega)).mono ?_
 rintro e w1 ⟨rfl, hw⟩
 subst w1
 rw [if_neg (by omega)]
 have hl0 : ¬ (1048576 : Int) - n < 0 := by omega
 clear hs
 generalize (1048576 : Int) - n = l at hl0 ⊢
 obtain ⟨pw1_0, pw1_1, pw1_2, pw1_3⟩ := Blk.cs4 Kpw1.out
 go_wp2_with fail
 refine (toPallet_any p.wd p.dp p.ht p.gram _).mono ?_
 rintro e w2 ⟨rfl, hbw2⟩
 clear pw1_0 pw1_1 pw1_2 pw1_3
 have Hw2 : Hid (Below w.heap.size w w2) := Hw1.out.trans (hbw2.mono Hw1.out.size)
 have Kpw2 := hide (Blk.below hbw2 zpw1 Kpw1.out)
 have zpw2 : w.heap.size < w2.heap.size := Nat.lt_of_lt_of_le zpw1 hbw2.size
 have Qyw2 : Hid (RdR BoxV.cells 4 w2 a n xs) := RdR.mono (by omega) BoxV.len Qyw1.out hbw2
 clear Hw1 Kpw1 zpw1 Qyw1
 clear hbw2
 go_wp2_with fail
 refine (toBoxS_any a n c xs _ Qyw2.out hn).mono ?_
 rintro e w3 ⟨gs, rfl, hrs, hbw3, hg1, hg2⟩
 have Hw3 : Hid (Below w.heap.size w w3) := Hw2.out.trans (hbw3.mono Hw2.out.size)
 have Kpw3 := hide (Blk.below hbw3 zpw2 Kpw2.out)
 have zpw3 : w.heap.size < w3.heap.size := Nat.lt_of_lt_of_le zpw2 hbw3.size
 have Qyw3 : Hid (RdR BoxV.cells 4 w3 a n xs) := RdR.mono (by omega) BoxV.len Qyw2.out hbw3
 clear Hw2 Kpw2 zpw2 Qyw2
 have Qsw3 : Hid (RdR BoxV.cells 4 w3 (some ⟨gs, 0, none⟩) n xs) := hrs
 clear hbw3 hrs hg1 hg2
 go_wp2_with fail
 refine (specBoxesOk_any p _ n n xs _ Qsw3.out hn).mono ?_
 rintro e w4 ⟨rfl, hbw4⟩
 have Hw4 : Hid (Below w.heap.size w w4) := Hw3.out.trans (hbw4.mono Hw3.out.size)
 have Kpw4 := hide (Blk.below hbw4 zpw3 Kpw3.out)
 have zpw4 : w.heap.size < w4.heap.size := Nat.lt_of_lt_of_le zpw3 hbw4.size
 have Qyw4 : Hid (RdR BoxV.cells 4 w4 a n xs) := RdR.mono (by omega) BoxV.len Qyw3.out hbw4
 have Qsw4 : Hid (RdR BoxV.cells 4 w4 (some ⟨gs, 0, none⟩) n xs) := RdR.mono (by omega) BoxV.len Qsw3.out hbw4
 clear Hw3 Kpw3 zpw3 Qyw3 Qsw3
 clear hbw4
 clear Qsw4
 go_wp2_with fail
 refine (toBoxS_any a n c xs _ Qyw4.out hn).mono ?_
 rintro e w5 ⟨gt, rfl, hrt, hbw5, hg1, hg2⟩
 have Hw5 : Hid (Below w.heap.size w w5) := Hw4.out.trans (hbw5.mono Hw4.out.size)
 have Kpw5 := hide (Blk.below hbw5 zpw4 Kpw4.out)
 have zpw5 : w.heap.size < w5.heap.size := Nat.lt_of_lt_of_le zpw4 hbw5.size
 have Qyw5 : Hid (RdR BoxV.cells 4 w5 a n xs) := RdR.mono (by omega) BoxV.len Qyw4.out hbw5
 clear Hw4 Kpw4 zpw4 Qyw4
 have Qtw5 : Hid (RdR BoxV.cells 4 w5 (some ⟨gt, 0, none⟩) n xs) := hrt
 clear hbw5 hrt hg1 hg2
 obtain ⟨pw5_0, pw5_1, pw5_2, pw5_3⟩ := Blk.cs4 Kpw5.out
 go_wp2_with fail
 refine (toPallet_any p.wd p.dp p.ht p.gram _).mono ?_
 rintro e w6 ⟨rfl, hbw6⟩
 clear pw5_0 pw5_1 pw5_2 pw5_3
 have Hw6 : Hid (Below w.heap.size w w6) := Hw5.out.trans (hbw6.mono Hw5.out.size)
 have Kpw6 := hide (Blk.below hbw6 zpw5 Kpw5.out)
 have zpw6 : w.heap.size < w6.heap.size := Nat.lt_of_lt_of_le zpw5 hbw6.size
 have Qyw6 : Hid (RdR BoxV.cells 4 w6 a n xs) := RdR.mono (by omega) BoxV.len Qyw5.out hbw6
 have Qtw6 : Hid (RdR BoxV.cells 4 w6 (some ⟨gt, 0, none⟩) n xs) := RdR.mono (by omega) BoxV.len Qtw5.out hbw6
 clear Hw5 Kpw5 zpw5 Qyw5 Qtw5
 clear hbw6
 go_wp2_with fail
 refine (boxesOk_any p _ n n xs _ Qtw6.out hn).mono ?_
 rintro e w7 ⟨rfl, hbw7⟩
 have Hw7 : Hid (Below w.heap.size w w7) := Hw6.out.trans (hbw7.mono Hw6.out.size)
 have Kpw7 := hide (Blk.below hbw7 zpw6 Kpw6.out)
 have zpw7 : w.heap.size < w7.heap.size := Nat.lt_of_lt_of_le zpw6 hbw7.size
 have Qyw7 : Hid (RdR BoxV.cells 4 w7 a n xs) := RdR.mono (by omega) BoxV.len Qyw6.out hbw7
 have Qtw7 : Hid (RdR BoxV.cells 4 w7 (some ⟨gt, 0, none⟩) n xs) := RdR.mono (by omega) BoxV.len Qtw6.out hbw7
 clear Hw6 Kpw6 zpw6 Qyw6 Qtw6
 clear hbw7
 go_wp2_with fail
 refine (toBoxS_any a n c xs _ Qyw7.out hn).mono ?_
 rintro e w8 ⟨gs, rfl, hrs, hbw8, hg1, hg2⟩
 have Hw8 : Hid (Below w.heap.size w w8) := Hw7.out.trans (hbw8.mono Hw7.out.size)
 have Kpw8 := hide (Blk.below hbw8 zpw7 Kpw7.out)
 have zpw8 : w.heap.size < w8.heap.size := Nat.lt_of_lt_of_le zpw7 hbw8.size
 have Qyw8 : Hid (RdR BoxV.cells 4 w8 a n xs) := RdR.mono (by omega) BoxV.len Qyw7.out hbw8
 have Qtw8 : Hid (RdR BoxV.cells 4 w8 (some ⟨gt, 0, none⟩) n xs) := RdR.mono (by omega) BoxV.len Qtw7.out hbw8
 clear Hw7 Kpw7 zpw7 Qyw7 Qtw7
 have Qsw8 : Hid (RdR BoxV.cells 4 w8 (some ⟨gs, 0, none⟩) n xs) := hrs
 clear hbw8 hrs hg1 hg2
 go_wp2_with fail
 refine (eqBoxS_same _ n n _ n xs _ Qtw8.out Qsw8.out hn).mono ?_
 rintro e w9 ⟨rfl, hbw9⟩
 have Hw9 : Hid (Below w.heap.size w w9) := Hw8.out.trans (hbw9.mono Hw8.out.size)
 have Kpw9 := hide (Blk.below hbw9 zpw8 Kpw8.out)
 have zpw9 : w.heap.size < w9.heap.size := Nat.lt_of_lt_of_le zpw8 hbw9.size
 have Qyw9 : Hid (RdR BoxV.cells 4 w9 a n xs) := RdR.mono (by omega) BoxV.len Qyw8.out hbw9
 have Qtw9 : Hid (RdR BoxV.cells 4 w9 (some ⟨gt, 0, none⟩) n xs) := RdR.mono (by omega) BoxV.len Qtw8.out hbw9
 have Qsw9 : Hid (RdR BoxV.cells 4 w9 (some ⟨gs, 0, none⟩) n xs) := RdR.mono (by omega) BoxV.len Qsw8.out hbw9
 clear Hw8 Kpw8 zpw8 Qyw8 Qtw8 Qsw8
 clear hbw9
 go_wp2_with fail
 go_ret
 exact ⟨rfl, unhide Hw9⟩
end Go.Proofs.Ytcblpoeeembniaa
