/- The law of AreaOf, walked. -/
import Derived.Test.YtcblpoeeembniaaBoxes
import Derived.Test.YtcblpoeeembniaaTo
import Derived.Test.YtcblpoeeembniaaToS
import Derived.Test.YtcblpoeeembniaaEqS
import Derived.Deep.DeepMust
import Derived.Deep.DeepCutAuto
namespace Go.Proofs.Ytcblpoeeembniaa
open Go.RowKit
set_option linter.unusedVariables false
set_option linter.unusedSimpArgs false
set_option maxRecDepth 100000 in
set_option maxHeartbeats 4000000 in
theorem law_areaOf (a : Option Addr) (n c : Nat) (xs : List BoxV) (w : World) (hr : RdR BoxV.cells 4 w a n xs) (hm : n ≤ maxLen) :
 Calls Try.prog 5 #[.slice a n c] w fun e w' => e = .returned (.bool true) ∧ Below w.heap.size w w' := by
 have hne : (areaR xs != areaR xs) = false := by simp
 by_cases hs : (1048576 : Int) - n < 0
 · go_enter Try.func5, Try.ntmps5
   go_wp2_with fail
   refine (szBoxS_any a n c _ _ hm (by omega) (by omega)).mono ?_
   rintro e w1 ⟨rfl, hw⟩
   subst w1
   rw [if_pos hs]
   go_wp2_with fail
   go_ret
   exact ⟨rfl, Below.refl _ _⟩
 have hn : n ≤ 1048576 := by omega
 go_enter Try.func5, Try.ntmps5
 go_wp2_with fail
 have Qyw : Hid (RdR BoxV.cells 4 w a n xs) := hr
 refine (szBoxS_any a n c _ _ hm (by omega) (by omega)).mono ?_
 rintro e w1 ⟨rfl, hw⟩
 subst w1
 rw [if_neg (by omega)]
 have hl0 : ¬ (1048576 : Int) - n < 0 := by omega
 clear hs
 generalize (1048576 : Int) - n = l at hl0 ⊢
 go_wp2_with fail
 refine (toBoxS_any a n c xs _ Qyw.out hn).mono ?_
 rintro e w1 ⟨gs, rfl, hrs, hbw1, hg1, hg2⟩
 have Hw1 : Hid (Below w.heap.size w w1) := hbw1
 have Qyw1 : Hid (RdR BoxV.cells 4 w1 a n xs) := RdR.mono (by omega) BoxV.len Qyw.out hbw1
 clear Qyw
 have Qsw1 : Hid (RdR BoxV.cells 4 w1 (some ⟨gs, 0, none⟩) n xs) := hrs
 clear hbw1 hrs hg1 hg2
 go_wp2_with fail
 refine (specAreaOf_any _ n n xs _ Qsw1.out hn).mono ?_
 rintro e w2 ⟨rfl, hbw2⟩
 have Hw2 : Hid (Below w.heap.size w w2) := Hw1.out.trans (hbw2.mono Hw1.out.size)
 have Qyw2 : Hid (RdR BoxV.cells 4 w2 a n xs) := RdR.mono (by omega) BoxV.len Qyw1.out hbw2
 have Qsw2 : Hid (RdR BoxV.cells 4 w2 (some ⟨gs, 0, none⟩) n xs) := RdR.mono (by omega) BoxV.len Qsw1.out hbw2
 clear Hw1 Qyw1 Qsw1
 clear hbw2
 clear Qsw2
 go_wp2_with fail
 refine (toBoxS_any a n c xs _ Qyw2.out hn).mono ?_
 rintro e w3 ⟨gt, rfl, hrt, hbw3, hg1, hg2⟩
 have Hw3 : Hid (Below w.heap.size w w3) := Hw2.out.trans (hbw3.mono Hw2.out.size)
 have Qyw3 : Hid (RdR BoxV.cells 4 w3 a n xs) := RdR.mono (by omega) BoxV.len Qyw2.out hbw3
 clear Hw2 Qyw2
 have Qtw3 : Hid (RdR BoxV.cells 4 w3 (some ⟨gt, 0, none⟩) n xs) := hrt
 clear hbw3 hrt hg1 hg2
 go_wp2_with fail
 refine (areaOf_any _ n n xs _ Qtw3.out hn).mono ?_
 rintro e w4 ⟨rfl, hbw4⟩
 have Hw4 : Hid (Below w.heap.size w w4) := Hw3.out.trans (hbw4.mono Hw3.out.size)
 have Qyw4 : Hid (RdR BoxV.cells 4 w4 a n xs) := RdR.mono (by omega) BoxV.len Qyw3.out hbw4
 have Qtw4 : Hid (RdR BoxV.cells 4 w4 (some ⟨gt, 0, none⟩) n xs) := RdR.mono (by omega) BoxV.len Qtw3.out hbw4
 clear Hw3 Qyw3 Qtw3
 clear hbw4
 go_wp2_with fail
 refine (toBoxS_any a n c xs _ Qyw4.out hn).mono ?_
 rintro e w5 ⟨gs, rfl, hrs, hbw5, hg1, hg2⟩
 have Hw5 : Hid (Below w.heap.size w w5) := Hw4.out.trans (hbw5.mono Hw4.out.size)
 have Qyw5 : Hid (RdR BoxV.cells 4 w5 a n xs) := RdR.mono (by omega) BoxV.len Qyw4.out hbw5
 have Qtw5 : Hid (RdR BoxV.cells 4 w5 (some ⟨gt, 0, none⟩) n xs) := RdR.mono (by omega) BoxV.len Qtw4.out hbw5
 clear Hw4 Qyw4 Qtw4
 have Qsw5 : Hid (RdR BoxV.cells 4 w5 (some ⟨gs, 0, none⟩) n xs) := hrs
 clear hbw5 hrs hg1 hg2
 go_wp2_with fail
 refine (eqBoxS_same _ n n _ n xs _ Qtw5.out Qsw5.out hn).mono ?_
 rintro e w6 ⟨rfl, hbw6⟩
 have Hw6 : Hid (Below w.heap.size w w6) := Hw5.out.trans (hbw6.mono Hw5.out.size)
 have Qyw6 : Hid (RdR BoxV.cells 4 w6 a n xs) := RdR.mono (by omega) BoxV.len Qyw5.out hbw6
 have Qtw6 : Hid (RdR BoxV.cells 4 w6 (some ⟨gt, 0, none⟩) n xs) := RdR.mono (by omega) BoxV.len Qtw5.out hbw6
 have Qsw6 : Hid (RdR BoxV.cells 4 w6 (some ⟨gs, 0, none⟩) n xs) := RdR.mono (by omega) BoxV.len Qsw5.out hbw6
 clear Hw5 Qyw5 Qtw5 Qsw5
 clear hbw6
 go_wp2_with fail
 go_ret
 exact ⟨rfl, unhide Hw6⟩
end Go.Proofs.Ytcblpoeeembniaa
