/- laws.FnFits: whichever way a thing is turned it fits or not. -/
import Derived.Test.YtdkndgklokljnaaDrawFits
import Derived.Test.YtdkndgklokljnaaFitsLaws
import Derived.Test.YtdkndgklokljnaaFitsImpl
import Derived.Test.YtdkndgklokljnaaFitsSpec
import Derived.Test.YtdkndgklokljnaaItemOk
import Derived.Deep.RegionHeld3
import Derived.Deep.DeepMust
namespace Go.Proofs.Ytdkndgklokljnaa
open Go.RowKit
set_option linter.unusedVariables false
set_option linter.unusedSimpArgs false
set_option maxRecDepth 100000 in
set_option maxHeartbeats 4000000 in
theorem law_fitsG (a : Option Addr) (n c : Nat) (zs : List Int) (w : World) (hr : RdB w a n zs) (hm : n ≤ maxLen) :
    Calls Try.prog 3 #[.slice a n c] w fun e w' => e = .returned (.bool true) ∧ Below w.heap.size w w' := by
  unfold maxLen at hm
  by_cases hn : n ≤ 1048576
  case neg =>
    have hgt : (1048576 : Int) < (n : Int) := by omega
    go_enter Try.func3, Try.ntmps3
    go_wp2_with (first | (go_at_call 6; go_in) | fail)
    go_ret
    exact ⟨rfl, Below.refl _ _⟩
  have hgt : ¬ (1048576 : Int) < (n : Int) := by omega
  have HR := hide hr
  clear hr
  go_enter Try.func3, Try.ntmps3
  go_wp2_with (first | (go_at_call 6; go_in) | fail)
  refine (drawFits_any a n c zs w (unhide HR) hn).mono ?_
  rintro e w1 ⟨x, t, rfl, hbw1⟩
  clear HR
  have Hw1 : Hid (Below w.heap.size w w1) := hbw1
  clear hbw1
  have HT := hide (fits_turn x t)
  have HM := hide (fits_more x t)
  have HV := hide (vol_le x t)
  have HP := hide (type_plus t)
  have hne : (fitsB x t != fitsB x t) = false := by simp
  go_wp2_with fail
  have hb : Below w1.heap.size w1 ((w1.alloc (.cells #[.int .i64 x.id, .int .i64 x.wd, .int .i64 x.ht, .int .i64 x.dp, .int .i64 x.gram, .int .i64 x.cls, .int .i64 x.cnt] 25)).alloc (.cells #[.int .i64 t.id, .int .i64 t.wd, .int .i64 t.ht, .int .i64 t.dp, .int .i64 t.tare, .int .i64 t.gram, .int .i64 t.cost] 27)) := ((Below.refl _ _).alloc (Nat.le_refl _) _).alloc (by simp) _
  have Kxw2 : Hid (Blk ((w1.alloc (.cells #[.int .i64 x.id, .int .i64 x.wd, .int .i64 x.ht, .int .i64 x.dp, .int .i64 x.gram, .int .i64 x.cls, .int .i64 x.cnt] 25)).alloc (.cells #[.int .i64 t.id, .int .i64 t.wd, .int .i64 t.ht, .int .i64 t.dp, .int .i64 t.tare, .int .i64 t.gram, .int .i64 t.cost] 27)) w1.heap.size [.int .i64 x.id, .int .i64 x.wd, .int .i64 x.ht, .int .i64 x.dp, .int .i64 x.gram, .int .i64 x.cls, .int .i64 x.cnt]) := (Blk.allocAt [.int .i64 x.id, .int .i64 x.wd, .int .i64 x.ht, .int .i64 x.dp, .int .i64 x.gram, .int .i64 x.cls, .int .i64 x.cnt] rfl).allocOld (by simp) _
  have zxw2 : w1.heap.size < ((w1.alloc (.cells #[.int .i64 x.id, .int .i64 x.wd, .int .i64 x.ht, .int .i64 x.dp, .int .i64 x.gram, .int .i64 x.cls, .int .i64 x.cnt] 25)).alloc (.cells #[.int .i64 t.id, .int .i64 t.wd, .int .i64 t.ht, .int .i64 t.dp, .int .i64 t.tare, .int .i64 t.gram, .int .i64 t.cost] 27)).heap.size := by simp; omega
  have Ktw2 : Hid (Blk ((w1.alloc (.cells #[.int .i64 x.id, .int .i64 x.wd, .int .i64 x.ht, .int .i64 x.dp, .int .i64 x.gram, .int .i64 x.cls, .int .i64 x.cnt] 25)).alloc (.cells #[.int .i64 t.id, .int .i64 t.wd, .int .i64 t.ht, .int .i64 t.dp, .int .i64 t.tare, .int .i64 t.gram, .int .i64 t.cost] 27)) (w1.heap.size + 1) [.int .i64 t.id, .int .i64 t.wd, .int .i64 t.ht, .int .i64 t.dp, .int .i64 t.tare, .int .i64 t.gram, .int .i64 t.cost]) := Blk.allocAt [.int .i64 t.id, .int .i64 t.wd, .int .i64 t.ht, .int .i64 t.dp, .int .i64 t.tare, .int .i64 t.gram, .int .i64 t.cost] (by simp)
  have ztw2 : w1.heap.size + 1 < ((w1.alloc (.cells #[.int .i64 x.id, .int .i64 x.wd, .int .i64 x.ht, .int .i64 x.dp, .int .i64 x.gram, .int .i64 x.cls, .int .i64 x.cnt] 25)).alloc (.cells #[.int .i64 t.id, .int .i64 t.wd, .int .i64 t.ht, .int .i64 t.dp, .int .i64 t.tare, .int .i64 t.gram, .int .i64 t.cost] 27)).heap.size := by simp
  generalize ((w1.alloc (.cells #[.int .i64 x.id, .int .i64 x.wd, .int .i64 x.ht, .int .i64 x.dp, .int .i64 x.gram, .int .i64 x.cls, .int .i64 x.cnt] 25)).alloc (.cells #[.int .i64 t.id, .int .i64 t.wd, .int .i64 t.ht, .int .i64 t.dp, .int .i64 t.tare, .int .i64 t.gram, .int .i64 t.cost] 27)) = w2 at *
  have Hw2 : Hid (Below w.heap.size w w2) := (unhide Hw1).trans (hb.mono (unhide Hw1).size)
  clear Hw1
  clear hb
  refine (fits_any x t _).mono ?_
  rintro e w3 ⟨rfl, hbw3⟩
  have Hw3 : Hid (Below w.heap.size w w3) := (unhide Hw2).trans (hbw3.mono (unhide Hw2).size)
  have Kxw3 := hide (Blk.below hbw3 zxw2 (unhide Kxw2))
  have zxw3 : w1.heap.size < w3.heap.size := Nat.lt_of_lt_of_le zxw2 hbw3.size
  have Ktw3 := hide (Blk.below hbw3 ztw2 (unhide Ktw2))
  have ztw3 : w1.heap.size + 1 < w3.heap.size := Nat.lt_of_lt_of_le ztw2 hbw3.size
  clear Hw2 Kxw2 zxw2 Ktw2 ztw2
  clear hbw3
  have xw3_0 : w3.cell? ⟨w1.heap.size, 0, none⟩ = some (.int .i64 x.id) := ((unhide Kxw3) 0 (by simp)).1
  have xw3_1 : w3.cell? ⟨w1.heap.size, 1, none⟩ = some (.int .i64 x.wd) := ((unhide Kxw3) 1 (by simp)).1
  have xw3_2 : w3.cell? ⟨w1.heap.size, 2, none⟩ = some (.int .i64 x.ht) := ((unhide Kxw3) 2 (by simp)).1
  have xw3_3 : w3.cell? ⟨w1.heap.size, 3, none⟩ = some (.int .i64 x.dp) := ((unhide Kxw3) 3 (by simp)).1
  have xw3_4 : w3.cell? ⟨w1.heap.size, 4, none⟩ = some (.int .i64 x.gram) := ((unhide Kxw3) 4 (by simp)).1
  have xw3_5 : w3.cell? ⟨w1.heap.size, 5, none⟩ = some (.int .i64 x.cls) := ((unhide Kxw3) 5 (by simp)).1
  have xw3_6 : w3.cell? ⟨w1.heap.size, 6, none⟩ = some (.int .i64 x.cnt) := ((unhide Kxw3) 6 (by simp)).1
  have tw3_0 : w3.cell? ⟨w1.heap.size + 1, 0, none⟩ = some (.int .i64 t.id) := ((unhide Ktw3) 0 (by simp)).1
  have tw3_1 : w3.cell? ⟨w1.heap.size + 1, 1, none⟩ = some (.int .i64 t.wd) := ((unhide Ktw3) 1 (by simp)).1
  have tw3_2 : w3.cell? ⟨w1.heap.size + 1, 2, none⟩ = some (.int .i64 t.ht) := ((unhide Ktw3) 2 (by simp)).1
  have tw3_3 : w3.cell? ⟨w1.heap.size + 1, 3, none⟩ = some (.int .i64 t.dp) := ((unhide Ktw3) 3 (by simp)).1
  have tw3_4 : w3.cell? ⟨w1.heap.size + 1, 4, none⟩ = some (.int .i64 t.tare) := ((unhide Ktw3) 4 (by simp)).1
  have tw3_5 : w3.cell? ⟨w1.heap.size + 1, 5, none⟩ = some (.int .i64 t.gram) := ((unhide Ktw3) 5 (by simp)).1
  have tw3_6 : w3.cell? ⟨w1.heap.size + 1, 6, none⟩ = some (.int .i64 t.cost) := ((unhide Ktw3) 6 (by simp)).1
  go_wp2_with fail
  refine (specFits_any x t _).mono ?_
  rintro e w4 ⟨rfl, hbw4⟩
  clear xw3_0 xw3_1 xw3_2 xw3_3 xw3_4 xw3_5 xw3_6 tw3_0 tw3_1 tw3_2 tw3_3 tw3_4 tw3_5 tw3_6
  have Hw4 : Hid (Below w.heap.size w w4) := (unhide Hw3).trans (hbw4.mono (unhide Hw3).size)
  have Kxw4 := hide (Blk.below hbw4 zxw3 (unhide Kxw3))
  have zxw4 : w1.heap.size < w4.heap.size := Nat.lt_of_lt_of_le zxw3 hbw4.size
  have Ktw4 := hide (Blk.below hbw4 ztw3 (unhide Ktw3))
  have ztw4 : w1.heap.size + 1 < w4.heap.size := Nat.lt_of_lt_of_le ztw3 hbw4.size
  clear Hw3 Kxw3 zxw3 Ktw3 ztw3
  clear hbw4
  have xw4_0 : w4.cell? ⟨w1.heap.size, 0, none⟩ = some (.int .i64 x.id) := ((unhide Kxw4) 0 (by simp)).1
  have xw4_1 : w4.cell? ⟨w1.heap.size, 1, none⟩ = some (.int .i64 x.wd) := ((unhide Kxw4) 1 (by simp)).1
  have xw4_2 : w4.cell? ⟨w1.heap.size, 2, none⟩ = some (.int .i64 x.ht) := ((unhide Kxw4) 2 (by simp)).1
  have xw4_3 : w4.cell? ⟨w1.heap.size, 3, none⟩ = some (.int .i64 x.dp) := ((unhide Kxw4) 3 (by simp)).1
  have xw4_4 : w4.cell? ⟨w1.heap.size, 4, none⟩ = some (.int .i64 x.gram) := ((unhide Kxw4) 4 (by simp)).1
  have xw4_5 : w4.cell? ⟨w1.heap.size, 5, none⟩ = some (.int .i64 x.cls) := ((unhide Kxw4) 5 (by simp)).1
  have xw4_6 : w4.cell? ⟨w1.heap.size, 6, none⟩ = some (.int .i64 x.cnt) := ((unhide Kxw4) 6 (by simp)).1
  have tw4_0 : w4.cell? ⟨w1.heap.size + 1, 0, none⟩ = some (.int .i64 t.id) := ((unhide Ktw4) 0 (by simp)).1
  have tw4_1 : w4.cell? ⟨w1.heap.size + 1, 1, none⟩ = some (.int .i64 t.wd) := ((unhide Ktw4) 1 (by simp)).1
  have tw4_2 : w4.cell? ⟨w1.heap.size + 1, 2, none⟩ = some (.int .i64 t.ht) := ((unhide Ktw4) 2 (by simp)).1
  have tw4_3 : w4.cell? ⟨w1.heap.size + 1, 3, none⟩ = some (.int .i64 t.dp) := ((unhide Ktw4) 3 (by simp)).1
  have tw4_4 : w4.cell? ⟨w1.heap.size + 1, 4, none⟩ = some (.int .i64 t.tare) := ((unhide Ktw4) 4 (by simp)).1
  have tw4_5 : w4.cell? ⟨w1.heap.size + 1, 5, none⟩ = some (.int .i64 t.gram) := ((unhide Ktw4) 5 (by simp)).1
  have tw4_6 : w4.cell? ⟨w1.heap.size + 1, 6, none⟩ = some (.int .i64 t.cost) := ((unhide Ktw4) 6 (by simp)).1
  go_wp2_with fail
  clear xw4_0 xw4_1 xw4_2 xw4_3 xw4_4 xw4_5 xw4_6 tw4_0 tw4_1 tw4_2 tw4_3 tw4_4 tw4_5 tw4_6
  have hb : Below w4.heap.size w4 ((w4.alloc (.cells #[.int .i64 x.id, .int .i64 x.dp, .int .i64 x.wd, .int .i64 x.ht, .int .i64 x.gram, .int .i64 x.cls, .int .i64 x.cnt] 25)).alloc (.cells #[.int .i64 t.id, .int .i64 t.ht, .int .i64 t.wd, .int .i64 t.dp, .int .i64 t.tare, .int .i64 t.gram, .int .i64 t.cost] 27)) := ((Below.refl _ _).alloc (Nat.le_refl _) _).alloc (by simp) _
  have Kyw5 : Hid (Blk ((w4.alloc (.cells #[.int .i64 x.id, .int .i64 x.dp, .int .i64 x.wd, .int .i64 x.ht, .int .i64 x.gram, .int .i64 x.cls, .int .i64 x.cnt] 25)).alloc (.cells #[.int .i64 t.id, .int .i64 t.ht, .int .i64 t.wd, .int .i64 t.dp, .int .i64 t.tare, .int .i64 t.gram, .int .i64 t.cost] 27)) w4.heap.size [.int .i64 x.id, .int .i64 x.dp, .int .i64 x.wd, .int .i64 x.ht, .int .i64 x.gram, .int .i64 x.cls, .int .i64 x.cnt]) := (Blk.allocAt [.int .i64 x.id, .int .i64 x.dp, .int .i64 x.wd, .int .i64 x.ht, .int .i64 x.gram, .int .i64 x.cls, .int .i64 x.cnt] rfl).allocOld (by simp) _
  have zyw5 : w4.heap.size < ((w4.alloc (.cells #[.int .i64 x.id, .int .i64 x.dp, .int .i64 x.wd, .int .i64 x.ht, .int .i64 x.gram, .int .i64 x.cls, .int .i64 x.cnt] 25)).alloc (.cells #[.int .i64 t.id, .int .i64 t.ht, .int .i64 t.wd, .int .i64 t.dp, .int .i64 t.tare, .int .i64 t.gram, .int .i64 t.cost] 27)).heap.size := by simp; omega
  have Kuw5 : Hid (Blk ((w4.alloc (.cells #[.int .i64 x.id, .int .i64 x.dp, .int .i64 x.wd, .int .i64 x.ht, .int .i64 x.gram, .int .i64 x.cls, .int .i64 x.cnt] 25)).alloc (.cells #[.int .i64 t.id, .int .i64 t.ht, .int .i64 t.wd, .int .i64 t.dp, .int .i64 t.tare, .int .i64 t.gram, .int .i64 t.cost] 27)) (w4.heap.size + 1) [.int .i64 t.id, .int .i64 t.ht, .int .i64 t.wd, .int .i64 t.dp, .int .i64 t.tare, .int .i64 t.gram, .int .i64 t.cost]) := Blk.allocAt [.int .i64 t.id, .int .i64 t.ht, .int .i64 t.wd, .int .i64 t.dp, .int .i64 t.tare, .int .i64 t.gram, .int .i64 t.cost] (by simp)
  have zuw5 : w4.heap.size + 1 < ((w4.alloc (.cells #[.int .i64 x.id, .int .i64 x.dp, .int .i64 x.wd, .int .i64 x.ht, .int .i64 x.gram, .int .i64 x.cls, .int .i64 x.cnt] 25)).alloc (.cells #[.int .i64 t.id, .int .i64 t.ht, .int .i64 t.wd, .int .i64 t.dp, .int .i64 t.tare, .int .i64 t.gram, .int .i64 t.cost] 27)).heap.size := by simp
  generalize ((w4.alloc (.cells #[.int .i64 x.id, .int .i64 x.dp, .int .i64 x.wd, .int .i64 x.ht, .int .i64 x.gram, .int .i64 x.cls, .int .i64 x.cnt] 25)).alloc (.cells #[.int .i64 t.id, .int .i64 t.ht, .int .i64 t.wd, .int .i64 t.dp, .int .i64 t.tare, .int .i64 t.gram, .int .i64 t.cost] 27)) = w5 at *
  have Hw5 : Hid (Below w.heap.size w w5) := (unhide Hw4).trans (hb.mono (unhide Hw4).size)
  have Kxw5 := hide (Blk.below hb zxw4 (unhide Kxw4))
  have zxw5 : w1.heap.size < w5.heap.size := Nat.lt_of_lt_of_le zxw4 hb.size
  have Ktw5 := hide (Blk.below hb ztw4 (unhide Ktw4))
  have ztw5 : w1.heap.size + 1 < w5.heap.size := Nat.lt_of_lt_of_le ztw4 hb.size
  clear Hw4 Kxw4 zxw4 Ktw4 ztw4
  clear hb
  refine (fits_any ⟨x.id, x.dp, x.wd, x.ht, x.gram, x.cls, x.cnt⟩ ⟨t.id, t.ht, t.wd, t.dp, t.tare, t.gram, t.cost⟩ _).mono ?_
  rintro e w6 ⟨rfl, hbw6⟩
  rw [unhide HT]
  have Hw6 : Hid (Below w.heap.size w w6) := (unhide Hw5).trans (hbw6.mono (unhide Hw5).size)
  have Kxw6 := hide (Blk.below hbw6 zxw5 (unhide Kxw5))
  have zxw6 : w1.heap.size < w6.heap.size := Nat.lt_of_lt_of_le zxw5 hbw6.size
  have Ktw6 := hide (Blk.below hbw6 ztw5 (unhide Ktw5))
  have ztw6 : w1.heap.size + 1 < w6.heap.size := Nat.lt_of_lt_of_le ztw5 hbw6.size
  have Kyw6 := hide (Blk.below hbw6 zyw5 (unhide Kyw5))
  have zyw6 : w4.heap.size < w6.heap.size := Nat.lt_of_lt_of_le zyw5 hbw6.size
  have Kuw6 := hide (Blk.below hbw6 zuw5 (unhide Kuw5))
  have zuw6 : w4.heap.size + 1 < w6.heap.size := Nat.lt_of_lt_of_le zuw5 hbw6.size
  clear Hw5 Kxw5 zxw5 Ktw5 ztw5 Kyw5 zyw5 Kuw5 zuw5
  clear hbw6
  clear Kyw6 zyw6
  clear Kuw6 zuw6
  generalize hfb : fitsB x t = fb at *
  cases fb
  · have xw6_0 : w6.cell? ⟨w1.heap.size, 0, none⟩ = some (.int .i64 x.id) := ((unhide Kxw6) 0 (by simp)).1
    have xw6_1 : w6.cell? ⟨w1.heap.size, 1, none⟩ = some (.int .i64 x.wd) := ((unhide Kxw6) 1 (by simp)).1
    have xw6_2 : w6.cell? ⟨w1.heap.size, 2, none⟩ = some (.int .i64 x.ht) := ((unhide Kxw6) 2 (by simp)).1
    have xw6_3 : w6.cell? ⟨w1.heap.size, 3, none⟩ = some (.int .i64 x.dp) := ((unhide Kxw6) 3 (by simp)).1
    have xw6_4 : w6.cell? ⟨w1.heap.size, 4, none⟩ = some (.int .i64 x.gram) := ((unhide Kxw6) 4 (by simp)).1
    have xw6_5 : w6.cell? ⟨w1.heap.size, 5, none⟩ = some (.int .i64 x.cls) := ((unhide Kxw6) 5 (by simp)).1
    have xw6_6 : w6.cell? ⟨w1.heap.size, 6, none⟩ = some (.int .i64 x.cnt) := ((unhide Kxw6) 6 (by simp)).1
    have tw6_0 : w6.cell? ⟨w1.heap.size + 1, 0, none⟩ = some (.int .i64 t.id) := ((unhide Ktw6) 0 (by simp)).1
    have tw6_1 : w6.cell? ⟨w1.heap.size + 1, 1, none⟩ = some (.int .i64 t.wd) := ((unhide Ktw6) 1 (by simp)).1
    have tw6_2 : w6.cell? ⟨w1.heap.size + 1, 2, none⟩ = some (.int .i64 t.ht) := ((unhide Ktw6) 2 (by simp)).1
    have tw6_3 : w6.cell? ⟨w1.heap.size + 1, 3, none⟩ = some (.int .i64 t.dp) := ((unhide Ktw6) 3 (by simp)).1
    have tw6_4 : w6.cell? ⟨w1.heap.size + 1, 4, none⟩ = some (.int .i64 t.tare) := ((unhide Ktw6) 4 (by simp)).1
    have tw6_5 : w6.cell? ⟨w1.heap.size + 1, 5, none⟩ = some (.int .i64 t.gram) := ((unhide Ktw6) 5 (by simp)).1
    have tw6_6 : w6.cell? ⟨w1.heap.size + 1, 6, none⟩ = some (.int .i64 t.cost) := ((unhide Ktw6) 6 (by simp)).1
    go_wp2
    go_ret
    exact ⟨rfl, unhide Hw6⟩
  have HFB := hide hfb
  clear hfb hne
  have xw6_0 : w6.cell? ⟨w1.heap.size, 0, none⟩ = some (.int .i64 x.id) := ((unhide Kxw6) 0 (by simp)).1
  have xw6_1 : w6.cell? ⟨w1.heap.size, 1, none⟩ = some (.int .i64 x.wd) := ((unhide Kxw6) 1 (by simp)).1
  have xw6_2 : w6.cell? ⟨w1.heap.size, 2, none⟩ = some (.int .i64 x.ht) := ((unhide Kxw6) 2 (by simp)).1
  have xw6_3 : w6.cell? ⟨w1.heap.size, 3, none⟩ = some (.int .i64 x.dp) := ((unhide Kxw6) 3 (by simp)).1
  have xw6_4 : w6.cell? ⟨w1.heap.size, 4, none⟩ = some (.int .i64 x.gram) := ((unhide Kxw6) 4 (by simp)).1
  have xw6_5 : w6.cell? ⟨w1.heap.size, 5, none⟩ = some (.int .i64 x.cls) := ((unhide Kxw6) 5 (by simp)).1
  have xw6_6 : w6.cell? ⟨w1.heap.size, 6, none⟩ = some (.int .i64 x.cnt) := ((unhide Kxw6) 6 (by simp)).1
  have tw6_0 : w6.cell? ⟨w1.heap.size + 1, 0, none⟩ = some (.int .i64 t.id) := ((unhide Ktw6) 0 (by simp)).1
  have tw6_1 : w6.cell? ⟨w1.heap.size + 1, 1, none⟩ = some (.int .i64 t.wd) := ((unhide Ktw6) 1 (by simp)).1
  have tw6_2 : w6.cell? ⟨w1.heap.size + 1, 2, none⟩ = some (.int .i64 t.ht) := ((unhide Ktw6) 2 (by simp)).1
  have tw6_3 : w6.cell? ⟨w1.heap.size + 1, 3, none⟩ = some (.int .i64 t.dp) := ((unhide Ktw6) 3 (by simp)).1
  have tw6_4 : w6.cell? ⟨w1.heap.size + 1, 4, none⟩ = some (.int .i64 t.tare) := ((unhide Ktw6) 4 (by simp)).1
  have tw6_5 : w6.cell? ⟨w1.heap.size + 1, 5, none⟩ = some (.int .i64 t.gram) := ((unhide Ktw6) 5 (by simp)).1
  have tw6_6 : w6.cell? ⟨w1.heap.size + 1, 6, none⟩ = some (.int .i64 t.cost) := ((unhide Ktw6) 6 (by simp)).1
  go_wp2_with fail
  refine (specItemOk_any _ _ _ _ _ _ _ _).mono ?_
  rintro e w7 ⟨rfl, hbw7⟩
  clear xw6_0 xw6_1 xw6_2 xw6_3 xw6_4 xw6_5 xw6_6 tw6_0 tw6_1 tw6_2 tw6_3 tw6_4 tw6_5 tw6_6
  have Hw7 : Hid (Below w.heap.size w w7) := (unhide Hw6).trans (hbw7.mono (unhide Hw6).size)
  have Kxw7 := hide (Blk.below hbw7 zxw6 (unhide Kxw6))
  have zxw7 : w1.heap.size < w7.heap.size := Nat.lt_of_lt_of_le zxw6 hbw7.size
  have Ktw7 := hide (Blk.below hbw7 ztw6 (unhide Ktw6))
  have ztw7 : w1.heap.size + 1 < w7.heap.size := Nat.lt_of_lt_of_le ztw6 hbw7.size
  clear Hw6 Kxw6 zxw6 Ktw6 ztw6
  clear hbw7
  cases hi : itemB x.id x.wd x.ht x.dp x.gram x.cls x.cnt
  · have xw7_0 : w7.cell? ⟨w1.heap.size, 0, none⟩ = some (.int .i64 x.id) := ((unhide Kxw7) 0 (by simp)).1
    have xw7_1 : w7.cell? ⟨w1.heap.size, 1, none⟩ = some (.int .i64 x.wd) := ((unhide Kxw7) 1 (by simp)).1
    have xw7_2 : w7.cell? ⟨w1.heap.size, 2, none⟩ = some (.int .i64 x.ht) := ((unhide Kxw7) 2 (by simp)).1
    have xw7_3 : w7.cell? ⟨w1.heap.size, 3, none⟩ = some (.int .i64 x.dp) := ((unhide Kxw7) 3 (by simp)).1
    have xw7_4 : w7.cell? ⟨w1.heap.size, 4, none⟩ = some (.int .i64 x.gram) := ((unhide Kxw7) 4 (by simp)).1
    have xw7_5 : w7.cell? ⟨w1.heap.size, 5, none⟩ = some (.int .i64 x.cls) := ((unhide Kxw7) 5 (by simp)).1
    have xw7_6 : w7.cell? ⟨w1.heap.size, 6, none⟩ = some (.int .i64 x.cnt) := ((unhide Kxw7) 6 (by simp)).1
    have tw7_0 : w7.cell? ⟨w1.heap.size + 1, 0, none⟩ = some (.int .i64 t.id) := ((unhide Ktw7) 0 (by simp)).1
    have tw7_1 : w7.cell? ⟨w1.heap.size + 1, 1, none⟩ = some (.int .i64 t.wd) := ((unhide Ktw7) 1 (by simp)).1
    have tw7_2 : w7.cell? ⟨w1.heap.size + 1, 2, none⟩ = some (.int .i64 t.ht) := ((unhide Ktw7) 2 (by simp)).1
    have tw7_3 : w7.cell? ⟨w1.heap.size + 1, 3, none⟩ = some (.int .i64 t.dp) := ((unhide Ktw7) 3 (by simp)).1
    have tw7_4 : w7.cell? ⟨w1.heap.size + 1, 4, none⟩ = some (.int .i64 t.tare) := ((unhide Ktw7) 4 (by simp)).1
    have tw7_5 : w7.cell? ⟨w1.heap.size + 1, 5, none⟩ = some (.int .i64 t.gram) := ((unhide Ktw7) 5 (by simp)).1
    have tw7_6 : w7.cell? ⟨w1.heap.size + 1, 6, none⟩ = some (.int .i64 t.cost) := ((unhide Ktw7) 6 (by simp)).1
    go_wp2
    go_ret
    exact ⟨rfl, unhide Hw7⟩
  have HI : Hid (x.ok = true) := hi
  clear hi
  have xw7_0 : w7.cell? ⟨w1.heap.size, 0, none⟩ = some (.int .i64 x.id) := ((unhide Kxw7) 0 (by simp)).1
  have xw7_1 : w7.cell? ⟨w1.heap.size, 1, none⟩ = some (.int .i64 x.wd) := ((unhide Kxw7) 1 (by simp)).1
  have xw7_2 : w7.cell? ⟨w1.heap.size, 2, none⟩ = some (.int .i64 x.ht) := ((unhide Kxw7) 2 (by simp)).1
  have xw7_3 : w7.cell? ⟨w1.heap.size, 3, none⟩ = some (.int .i64 x.dp) := ((unhide Kxw7) 3 (by simp)).1
  have xw7_4 : w7.cell? ⟨w1.heap.size, 4, none⟩ = some (.int .i64 x.gram) := ((unhide Kxw7) 4 (by simp)).1
  have xw7_5 : w7.cell? ⟨w1.heap.size, 5, none⟩ = some (.int .i64 x.cls) := ((unhide Kxw7) 5 (by simp)).1
  have xw7_6 : w7.cell? ⟨w1.heap.size, 6, none⟩ = some (.int .i64 x.cnt) := ((unhide Kxw7) 6 (by simp)).1
  have tw7_0 : w7.cell? ⟨w1.heap.size + 1, 0, none⟩ = some (.int .i64 t.id) := ((unhide Ktw7) 0 (by simp)).1
  have tw7_1 : w7.cell? ⟨w1.heap.size + 1, 1, none⟩ = some (.int .i64 t.wd) := ((unhide Ktw7) 1 (by simp)).1
  have tw7_2 : w7.cell? ⟨w1.heap.size + 1, 2, none⟩ = some (.int .i64 t.ht) := ((unhide Ktw7) 2 (by simp)).1
  have tw7_3 : w7.cell? ⟨w1.heap.size + 1, 3, none⟩ = some (.int .i64 t.dp) := ((unhide Ktw7) 3 (by simp)).1
  have tw7_4 : w7.cell? ⟨w1.heap.size + 1, 4, none⟩ = some (.int .i64 t.tare) := ((unhide Ktw7) 4 (by simp)).1
  have tw7_5 : w7.cell? ⟨w1.heap.size + 1, 5, none⟩ = some (.int .i64 t.gram) := ((unhide Ktw7) 5 (by simp)).1
  have tw7_6 : w7.cell? ⟨w1.heap.size + 1, 6, none⟩ = some (.int .i64 t.cost) := ((unhide Ktw7) 6 (by simp)).1
  go_wp2_with fail
  refine (specTypeOk_any _ _ _ _ _ _ _ _).mono ?_
  rintro e w8 ⟨rfl, hbw8⟩
  clear xw7_0 xw7_1 xw7_2 xw7_3 xw7_4 xw7_5 xw7_6 tw7_0 tw7_1 tw7_2 tw7_3 tw7_4 tw7_5 tw7_6
  have Hw8 : Hid (Below w.heap.size w w8) := (unhide Hw7).trans (hbw8.mono (unhide Hw7).size)
  have Kxw8 := hide (Blk.below hbw8 zxw7 (unhide Kxw7))
  have zxw8 : w1.heap.size < w8.heap.size := Nat.lt_of_lt_of_le zxw7 hbw8.size
  have Ktw8 := hide (Blk.below hbw8 ztw7 (unhide Ktw7))
  have ztw8 : w1.heap.size + 1 < w8.heap.size := Nat.lt_of_lt_of_le ztw7 hbw8.size
  clear Hw7 Kxw7 zxw7 Ktw7 ztw7
  clear hbw8
  cases ht : typeB t.id t.wd t.ht t.dp t.tare t.gram t.cost
  · have xw8_0 : w8.cell? ⟨w1.heap.size, 0, none⟩ = some (.int .i64 x.id) := ((unhide Kxw8) 0 (by simp)).1
    have xw8_1 : w8.cell? ⟨w1.heap.size, 1, none⟩ = some (.int .i64 x.wd) := ((unhide Kxw8) 1 (by simp)).1
    have xw8_2 : w8.cell? ⟨w1.heap.size, 2, none⟩ = some (.int .i64 x.ht) := ((unhide Kxw8) 2 (by simp)).1
    have xw8_3 : w8.cell? ⟨w1.heap.size, 3, none⟩ = some (.int .i64 x.dp) := ((unhide Kxw8) 3 (by simp)).1
    have xw8_4 : w8.cell? ⟨w1.heap.size, 4, none⟩ = some (.int .i64 x.gram) := ((unhide Kxw8) 4 (by simp)).1
    have xw8_5 : w8.cell? ⟨w1.heap.size, 5, none⟩ = some (.int .i64 x.cls) := ((unhide Kxw8) 5 (by simp)).1
    have xw8_6 : w8.cell? ⟨w1.heap.size, 6, none⟩ = some (.int .i64 x.cnt) := ((unhide Kxw8) 6 (by simp)).1
    have tw8_0 : w8.cell? ⟨w1.heap.size + 1, 0, none⟩ = some (.int .i64 t.id) := ((unhide Ktw8) 0 (by simp)).1
    have tw8_1 : w8.cell? ⟨w1.heap.size + 1, 1, none⟩ = some (.int .i64 t.wd) := ((unhide Ktw8) 1 (by simp)).1
    have tw8_2 : w8.cell? ⟨w1.heap.size + 1, 2, none⟩ = some (.int .i64 t.ht) := ((unhide Ktw8) 2 (by simp)).1
    have tw8_3 : w8.cell? ⟨w1.heap.size + 1, 3, none⟩ = some (.int .i64 t.dp) := ((unhide Ktw8) 3 (by simp)).1
    have tw8_4 : w8.cell? ⟨w1.heap.size + 1, 4, none⟩ = some (.int .i64 t.tare) := ((unhide Ktw8) 4 (by simp)).1
    have tw8_5 : w8.cell? ⟨w1.heap.size + 1, 5, none⟩ = some (.int .i64 t.gram) := ((unhide Ktw8) 5 (by simp)).1
    have tw8_6 : w8.cell? ⟨w1.heap.size + 1, 6, none⟩ = some (.int .i64 t.cost) := ((unhide Ktw8) 6 (by simp)).1
    go_wp2
    go_ret
    exact ⟨rfl, unhide Hw8⟩
  have hto : t.ok = true := ht
  obtain ⟨p1, p2, p3, p4⟩ := (unhide HP) hto
  have HTO := hide hto
  clear ht hto HP HT
  have xw8_0 : w8.cell? ⟨w1.heap.size, 0, none⟩ = some (.int .i64 x.id) := ((unhide Kxw8) 0 (by simp)).1
  have xw8_1 : w8.cell? ⟨w1.heap.size, 1, none⟩ = some (.int .i64 x.wd) := ((unhide Kxw8) 1 (by simp)).1
  have xw8_2 : w8.cell? ⟨w1.heap.size, 2, none⟩ = some (.int .i64 x.ht) := ((unhide Kxw8) 2 (by simp)).1
  have xw8_3 : w8.cell? ⟨w1.heap.size, 3, none⟩ = some (.int .i64 x.dp) := ((unhide Kxw8) 3 (by simp)).1
  have xw8_4 : w8.cell? ⟨w1.heap.size, 4, none⟩ = some (.int .i64 x.gram) := ((unhide Kxw8) 4 (by simp)).1
  have xw8_5 : w8.cell? ⟨w1.heap.size, 5, none⟩ = some (.int .i64 x.cls) := ((unhide Kxw8) 5 (by simp)).1
  have xw8_6 : w8.cell? ⟨w1.heap.size, 6, none⟩ = some (.int .i64 x.cnt) := ((unhide Kxw8) 6 (by simp)).1
  have tw8_0 : w8.cell? ⟨w1.heap.size + 1, 0, none⟩ = some (.int .i64 t.id) := ((unhide Ktw8) 0 (by simp)).1
  have tw8_1 : w8.cell? ⟨w1.heap.size + 1, 1, none⟩ = some (.int .i64 t.wd) := ((unhide Ktw8) 1 (by simp)).1
  have tw8_2 : w8.cell? ⟨w1.heap.size + 1, 2, none⟩ = some (.int .i64 t.ht) := ((unhide Ktw8) 2 (by simp)).1
  have tw8_3 : w8.cell? ⟨w1.heap.size + 1, 3, none⟩ = some (.int .i64 t.dp) := ((unhide Ktw8) 3 (by simp)).1
  have tw8_4 : w8.cell? ⟨w1.heap.size + 1, 4, none⟩ = some (.int .i64 t.tare) := ((unhide Ktw8) 4 (by simp)).1
  have tw8_5 : w8.cell? ⟨w1.heap.size + 1, 5, none⟩ = some (.int .i64 t.gram) := ((unhide Ktw8) 5 (by simp)).1
  have tw8_6 : w8.cell? ⟨w1.heap.size + 1, 6, none⟩ = some (.int .i64 t.cost) := ((unhide Ktw8) 6 (by simp)).1
  go_wp2
  clear xw8_0 xw8_1 xw8_2 xw8_3 xw8_4 xw8_5 xw8_6 tw8_0 tw8_1 tw8_2 tw8_3 tw8_4 tw8_5 tw8_6
  have hb : Below w8.heap.size w8 (w8.alloc (.cells #[.int .i64 t.id, .int .i64 (t.wd + 1), .int .i64 t.ht, .int .i64 t.dp, .int .i64 t.tare, .int .i64 (t.gram + 1), .int .i64 t.cost] 27)) := (Below.refl _ _).alloc (Nat.le_refl _) _
  have Kvw9 : Hid (Blk (w8.alloc (.cells #[.int .i64 t.id, .int .i64 (t.wd + 1), .int .i64 t.ht, .int .i64 t.dp, .int .i64 t.tare, .int .i64 (t.gram + 1), .int .i64 t.cost] 27)) w8.heap.size [.int .i64 t.id, .int .i64 (t.wd + 1), .int .i64 t.ht, .int .i64 t.dp, .int .i64 t.tare, .int .i64 (t.gram + 1), .int .i64 t.cost]) := Blk.allocAt [.int .i64 t.id, .int .i64 (t.wd + 1), .int .i64 t.ht, .int .i64 t.dp, .int .i64 t.tare, .int .i64 (t.gram + 1), .int .i64 t.cost] rfl
  have zvw9 : w8.heap.size < (w8.alloc (.cells #[.int .i64 t.id, .int .i64 (t.wd + 1), .int .i64 t.ht, .int .i64 t.dp, .int .i64 t.tare, .int .i64 (t.gram + 1), .int .i64 t.cost] 27)).heap.size := by simp
  generalize (w8.alloc (.cells #[.int .i64 t.id, .int .i64 (t.wd + 1), .int .i64 t.ht, .int .i64 t.dp, .int .i64 t.tare, .int .i64 (t.gram + 1), .int .i64 t.cost] 27)) = w9 at *
  have Hw9 : Hid (Below w.heap.size w w9) := (unhide Hw8).trans (hb.mono (unhide Hw8).size)
  have Kxw9 := hide (Blk.below hb zxw8 (unhide Kxw8))
  have zxw9 : w1.heap.size < w9.heap.size := Nat.lt_of_lt_of_le zxw8 hb.size
  have Ktw9 := hide (Blk.below hb ztw8 (unhide Ktw8))
  have ztw9 : w1.heap.size + 1 < w9.heap.size := Nat.lt_of_lt_of_le ztw8 hb.size
  clear Hw8 Kxw8 zxw8 Ktw8 ztw8
  clear hb
  have KS : Hid (∀ w', Below w9.heap.size w9 w' → (w'.cell? ⟨w1.heap.size, 0, none⟩ = some (.int .i64 x.id) ∧ w'.cell? ⟨w1.heap.size, 1, none⟩ = some (.int .i64 x.wd) ∧ w'.cell? ⟨w1.heap.size, 2, none⟩ = some (.int .i64 x.ht) ∧ w'.cell? ⟨w1.heap.size, 3, none⟩ = some (.int .i64 x.dp) ∧ w'.cell? ⟨w1.heap.size, 4, none⟩ = some (.int .i64 x.gram) ∧ w'.cell? ⟨w1.heap.size, 5, none⟩ = some (.int .i64 x.cls) ∧ w'.cell? ⟨w1.heap.size, 6, none⟩ = some (.int .i64 x.cnt) ∧ w'.cell? ⟨w8.heap.size, 0, none⟩ = some (.int .i64 t.id) ∧ w'.cell? ⟨w8.heap.size, 1, none⟩ = some (.int .i64 (t.wd + 1)) ∧ w'.cell? ⟨w8.heap.size, 2, none⟩ = some (.int .i64 t.ht) ∧ w'.cell? ⟨w8.heap.size, 3, none⟩ = some (.int .i64 t.dp) ∧ w'.cell? ⟨w8.heap.size, 4, none⟩ = some (.int .i64 t.tare) ∧ w'.cell? ⟨w8.heap.size, 5, none⟩ = some (.int .i64 (t.gram + 1)) ∧ w'.cell? ⟨w8.heap.size, 6, none⟩ = some (.int .i64 t.cost) ∧ w'.cell? ⟨w1.heap.size + 1, 1, none⟩ = some (.int .i64 t.wd) ∧ w'.cell? ⟨w1.heap.size + 1, 2, none⟩ = some (.int .i64 t.ht) ∧ w'.cell? ⟨w1.heap.size + 1, 3, none⟩ = some (.int .i64 t.dp))) := by
    intro w' hb
    exact ⟨(hb.cell (p := ⟨w1.heap.size, 0, none⟩) zxw9).trans ((unhide Kxw9) 0 (by simp)).1, (hb.cell (p := ⟨w1.heap.size, 1, none⟩) zxw9).trans ((unhide Kxw9) 1 (by simp)).1, (hb.cell (p := ⟨w1.heap.size, 2, none⟩) zxw9).trans ((unhide Kxw9) 2 (by simp)).1, (hb.cell (p := ⟨w1.heap.size, 3, none⟩) zxw9).trans ((unhide Kxw9) 3 (by simp)).1, (hb.cell (p := ⟨w1.heap.size, 4, none⟩) zxw9).trans ((unhide Kxw9) 4 (by simp)).1, (hb.cell (p := ⟨w1.heap.size, 5, none⟩) zxw9).trans ((unhide Kxw9) 5 (by simp)).1, (hb.cell (p := ⟨w1.heap.size, 6, none⟩) zxw9).trans ((unhide Kxw9) 6 (by simp)).1, (hb.cell (p := ⟨w8.heap.size, 0, none⟩) zvw9).trans ((unhide Kvw9) 0 (by simp)).1, (hb.cell (p := ⟨w8.heap.size, 1, none⟩) zvw9).trans ((unhide Kvw9) 1 (by simp)).1, (hb.cell (p := ⟨w8.heap.size, 2, none⟩) zvw9).trans ((unhide Kvw9) 2 (by simp)).1, (hb.cell (p := ⟨w8.heap.size, 3, none⟩) zvw9).trans ((unhide Kvw9) 3 (by simp)).1, (hb.cell (p := ⟨w8.heap.size, 4, none⟩) zvw9).trans ((unhide Kvw9) 4 (by simp)).1, (hb.cell (p := ⟨w8.heap.size, 5, none⟩) zvw9).trans ((unhide Kvw9) 5 (by simp)).1, (hb.cell (p := ⟨w8.heap.size, 6, none⟩) zvw9).trans ((unhide Kvw9) 6 (by simp)).1, (hb.cell (p := ⟨w1.heap.size + 1, 1, none⟩) ztw9).trans ((unhide Ktw9) 1 (by simp)).1, (hb.cell (p := ⟨w1.heap.size + 1, 2, none⟩) ztw9).trans ((unhide Ktw9) 2 (by simp)).1, (hb.cell (p := ⟨w1.heap.size + 1, 3, none⟩) ztw9).trans ((unhide Ktw9) 3 (by simp)).1⟩
  have HFV := hide ((unhide HM) trivial)
  have HVO := hide ((unhide HV) trivial (unhide HI) (unhide HTO))
  clear HM HV HFB HI HTO
  have B1 : Hid (Below w9.heap.size w9 w9) := Below.refl _ _
  go_region_held3 (fun w' => w'.cell? ⟨w1.heap.size, 0, none⟩ = some (.int .i64 x.id) ∧ w'.cell? ⟨w1.heap.size, 1, none⟩ = some (.int .i64 x.wd) ∧ w'.cell? ⟨w1.heap.size, 2, none⟩ = some (.int .i64 x.ht) ∧ w'.cell? ⟨w1.heap.size, 3, none⟩ = some (.int .i64 x.dp) ∧ w'.cell? ⟨w1.heap.size, 4, none⟩ = some (.int .i64 x.gram) ∧ w'.cell? ⟨w1.heap.size, 5, none⟩ = some (.int .i64 x.cls) ∧ w'.cell? ⟨w1.heap.size, 6, none⟩ = some (.int .i64 x.cnt) ∧ w'.cell? ⟨w8.heap.size, 0, none⟩ = some (.int .i64 t.id) ∧ w'.cell? ⟨w8.heap.size, 1, none⟩ = some (.int .i64 (t.wd + 1)) ∧ w'.cell? ⟨w8.heap.size, 2, none⟩ = some (.int .i64 t.ht) ∧ w'.cell? ⟨w8.heap.size, 3, none⟩ = some (.int .i64 t.dp) ∧ w'.cell? ⟨w8.heap.size, 4, none⟩ = some (.int .i64 t.tare) ∧ w'.cell? ⟨w8.heap.size, 5, none⟩ = some (.int .i64 (t.gram + 1)) ∧ w'.cell? ⟨w8.heap.size, 6, none⟩ = some (.int .i64 t.cost) ∧ w'.cell? ⟨w1.heap.size + 1, 1, none⟩ = some (.int .i64 t.wd) ∧ w'.cell? ⟨w1.heap.size + 1, 2, none⟩ = some (.int .i64 t.ht) ∧ w'.cell? ⟨w1.heap.size + 1, 3, none⟩ = some (.int .i64 t.dp)) (exact (unhide KS) _ (by first | with_reducible exact unhide B1 | exact (unhide B1).drew))
    (first
      | (go_at_call 8; go_must (refine (fits_any x ⟨t.id, t.wd + 1, t.ht, t.dp, t.tare, t.gram + 1, t.cost⟩ _).mono ?_; rintro e u1 ⟨rfl, hb⟩; rw [unhide HFV]; have B1 := hide (bw_call (W := w9) (by first | with_reducible exact unhide B1 | exact (unhide B1).drew) hb); clear hb))
      | (go_at_call_of 12 (Value.int .i64 x.wd); go_must (refine (volume_any x.wd x.ht x.dp _).mono ?_; rintro e u2 ⟨rfl, hw⟩; subst u2))
      | (go_at_call 12; go_must (refine (volume_any t.wd t.ht t.dp _).mono ?_; rintro e u2 ⟨rfl, hw⟩; subst u2)))
  go_wp2
  go_ret
  exact ⟨ret_boolF (decide_eq_true (unhide HVO)), (unhide Hw9).trans ((unhide B1).mono (unhide Hw9).size)⟩
end Go.Proofs.Ytdkndgklokljnaa
