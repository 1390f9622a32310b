/- The law of DepthOf, walked. -/
import Derived.Test.YtcblpoeeembniaaDepths
import Derived.Test.YtcblpoeeembniaaShelfs2
import Derived.Deep.DeepMust
import Derived.Deep.DeepCutAuto
namespace Go.Proofs.Ytcblpoeeembniaa
open Go.RowKit
set_option linter.unusedVariables false
set_option linter.unusedSimpArgs false
set_option maxRecDepth 100000 in
set_option maxHeartbeats 4000000 in
theorem law_depthOf (a : Option Addr) (n c : Nat) (xs : List ShelfV) (w : World) (hr : RdShelf w a n xs) (hm : n ≤ maxLen) (hmm : ∀ g ∈ xs, g.us.length ≤ maxLen) :
 Calls Try.prog 4 #[.slice a n c] w fun e w' => e = .returned (.bool true) ∧ Below w.heap.size w w' := by
 have hne : (depthR xs != depthR xs) = false := by simp
 have hxl := hr.1
 go_enter Try.func4, Try.ntmps4
 go_wp2_with fail
 have Qyw : Hid (RdShelf w a n xs) := hr
 clear hr
 refine (szShelfS_any a n c xs _ _ Qyw.out hm hmm (by omega) (by omega)).mono ?_
 rintro e w1 ⟨l2, rfl, hsz, hbw1⟩
 have Hw1 : Hid (Below w.heap.size w w1) := hbw1
 have Qyw1 : Hid (RdShelf w1 a n xs) := RdShelf.mono Qyw.out hbw1
 clear Qyw
 clear hbw1
 by_cases hl2 : l2 < 0
 · clear hsz
   go_wp2_with fail
   go_ret
   exact ⟨rfl, unhide Hw1⟩
 have hn : n ≤ 1048576 := by omega
 have HL : Hid (∀ i, i < n → (xs.getD i default).us.length ≤ 1048576) := fun i hi => by have h1 := totShelf_le xs i (by rw [hxl]; exact hi); omega
 clear hsz
 go_wp2_with fail
 refine (toShelfS_any a n c xs _ Qyw1.out hn HL.out).mono ?_
 rintro e w2 ⟨yss, rfl, hy1, hy2, ho, hbw2⟩
 have hr : RdShelf w2 (some ⟨w1.heap.size, 0, none⟩) n xs := by have := ho.read; rw [hy1, hy2] at this; exact this
 clear ho hy1 hy2
 have Hw2 : Hid (Below w.heap.size w w2) := Hw1.out.trans (hbw2.mono Hw1.out.size)
 have Qyw2 : Hid (RdShelf w2 a n xs) := RdShelf.mono Qyw1.out hbw2
 clear Hw1 Qyw1
 have Qsw2 : Hid (RdShelf w2 (some ⟨w1.heap.size, 0, none⟩) n xs) := hr
 clear hbw2 hr
 go_wp2_with fail
 refine (specDepthOf_any _ n n xs _ Qsw2.out hn).mono ?_
 rintro e w3 ⟨rfl, hbw3⟩
 have Hw3 : Hid (Below w.heap.size w w3) := Hw2.out.trans (hbw3.mono Hw2.out.size)
 have Qyw3 : Hid (RdShelf w3 a n xs) := RdShelf.mono Qyw2.out hbw3
 have Qsw3 : Hid (RdShelf w3 (some ⟨w1.heap.size, 0, none⟩) n xs) := RdShelf.mono Qsw2.out hbw3
 clear Hw2 Qyw2 Qsw2
 clear hbw3
 clear Qsw3
 go_wp2_with fail
 refine (toShelfS_any a n c xs _ Qyw3.out hn HL.out).mono ?_
 rintro e w4 ⟨yst, rfl, hy1, hy2, ho, hbw4⟩
 have hr : RdShelf w4 (some ⟨w3.heap.size, 0, none⟩) n xs := by have := ho.read; rw [hy1, hy2] at this; exact this
 clear ho hy1 hy2
 have Hw4 : Hid (Below w.heap.size w w4) := Hw3.out.trans (hbw4.mono Hw3.out.size)
 have Qyw4 : Hid (RdShelf w4 a n xs) := RdShelf.mono Qyw3.out hbw4
 clear Hw3 Qyw3
 have Qtw4 : Hid (RdShelf w4 (some ⟨w3.heap.size, 0, none⟩) n xs) := hr
 clear hbw4 hr
 go_wp2_with fail
 refine (depthOf_any _ n n xs _ Qtw4.out hn).mono ?_
 rintro e w5 ⟨rfl, hbw5⟩
 have Hw5 : Hid (Below w.heap.size w w5) := Hw4.out.trans (hbw5.mono Hw4.out.size)
 have Qyw5 : Hid (RdShelf w5 a n xs) := RdShelf.mono Qyw4.out hbw5
 have Qtw5 : Hid (RdShelf w5 (some ⟨w3.heap.size, 0, none⟩) n xs) := RdShelf.mono Qtw4.out hbw5
 clear Hw4 Qyw4 Qtw4
 clear hbw5
 go_wp2_with fail
 refine (toShelfS_any a n c xs _ Qyw5.out hn HL.out).mono ?_
 rintro e w6 ⟨yss, rfl, hy1, hy2, ho, hbw6⟩
 have hr : RdShelf w6 (some ⟨w5.heap.size, 0, none⟩) n xs := by have := ho.read; rw [hy1, hy2] at this; exact this
 clear ho hy1 hy2
 have Hw6 : Hid (Below w.heap.size w w6) := Hw5.out.trans (hbw6.mono Hw5.out.size)
 have Qyw6 : Hid (RdShelf w6 a n xs) := RdShelf.mono Qyw5.out hbw6
 have Qtw6 : Hid (RdShelf w6 (some ⟨w3.heap.size, 0, none⟩) n xs) := RdShelf.mono Qtw5.out hbw6
 clear Hw5 Qyw5 Qtw5
 have Qsw6 : Hid (RdShelf w6 (some ⟨w5.heap.size, 0, none⟩) n xs) := hr
 clear hbw6 hr
 go_wp2_with fail
 refine (eqShelfS_same _ n n _ n xs _ Qtw6.out Qsw6.out hn HL.out).mono ?_
 rintro e w7 ⟨rfl, hbw7⟩
 have Hw7 : Hid (Below w.heap.size w w7) := Hw6.out.trans (hbw7.mono Hw6.out.size)
 have Qyw7 : Hid (RdShelf w7 a n xs) := RdShelf.mono Qyw6.out hbw7
 have Qtw7 : Hid (RdShelf w7 (some ⟨w3.heap.size, 0, none⟩) n xs) := RdShelf.mono Qtw6.out hbw7
 have Qsw7 : Hid (RdShelf w7 (some ⟨w5.heap.size, 0, none⟩) n xs) := RdShelf.mono Qsw6.out hbw7
 clear Hw6 Qyw6 Qtw6 Qsw6
 clear hbw7
 go_wp2_with fail
 go_ret
 exact ⟨rfl, unhide Hw7⟩
end Go.Proofs.Ytcblpoeeembniaa
