/- The law of Shelves, walked. -/
import Derived.Test.YtcblpoeeembniaaSpecShelves
import Derived.Test.YtcblpoeeembniaaShelvesImpl
import Derived.Test.YtcblpoeeembniaaMarksBox
import Derived.Test.YtcblpoeeembniaaShelfs3
import Derived.Test.YtcblpoeeembniaaTo
import Derived.Test.YtcblpoeeembniaaToS
import Derived.Test.YtcblpoeeembniaaEqS
import Derived.Deep.DeepMust
import Derived.Deep.DeepCutAuto
namespace Go.Proofs.Ytcblpoeeembniaa
open Go.RowKit
set_option linter.unusedVariables false
set_option linter.unusedSimpArgs false
theorem OwnShelf.kept {w w' : World} {B g cap b : Nat} {xs : List ShelfW} (h : OwnShelf w B g cap xs) (hg : w.grownBy w' (some b)) (hb : b < B) : OwnShelf w' B g cap xs :=
 ⟨h.out.kept hg (Or.inr (fun e => by have := own_base h.out; injection e with e; dsimp only at e; omega)), h.rws.kept hg (fun i hi e => by have h1 := (h.rws.row i hi).lt.1; injection e with e; omega)⟩
theorem totX_eq : ∀ xs : List ShelfW, totXShelf xs = totShelf (xs.map ShelfW.car) + 4 * xs.length
 | [] => rfl
 | r :: xs => by
  have h := totX_eq xs
  simp only [totXShelf, totShelf, List.map_cons, List.sum_cons, List.length_cons] at h ⊢
  have e : r.car.us.length = r.l.length := rfl
  omega
theorem shelvesR_size (p : PalletV) (bs : List BoxV) : totShelf (shelvesR p bs) ≤ bs.length ∧ (shelvesR p bs).length ≤ bs.length := by
 unfold shelvesR
 split
 · have h := shelves_size p bs (orderB bs) []
   rw [orderB_len] at h
   have e1 : totShelf (shelvesTo p bs (orderB bs)) = bs.length := by simpa [shelvesTo, totShelf] using h.1
   have e2 : (shelvesTo p bs (orderB bs)).length ≤ bs.length := by simpa [shelvesTo] using h.2
   omega
 · simp [totShelf]
set_option maxRecDepth 100000 in
set_option maxHeartbeats 4000000 in
theorem law_shelves (p : PalletV) (a : Option Addr) (n c : Nat) (bs : List BoxV) (w : World) (hr : RdR BoxV.cells 4 w a n bs) (hm : n ≤ maxLen) :
 Calls Try.prog 6 #[.agg #[.int .i64 p.wd, .int .i64 p.dp, .int .i64 p.ht, .int .i64 p.gram], .slice a n c] w fun e w' => e = .returned (.bool true) ∧ Below w.heap.size w w' := by
 have hbn := hr.1
 by_cases hs : (1048576 : Int) - n < 0
 · go_enter Try.func6, Try.ntmps6
   go_wp2_with fail
   refine (szBoxS_any a n c _ _ hm (by omega) (by omega)).mono ?_
   rintro e w1 ⟨rfl, hw⟩
   subst w1
   rw [if_pos hs]
   go_wp2_with fail
   go_ret
   exact ⟨rfl, (Below.refl _ _).alloc (Nat.le_refl _) _⟩
 have hn : n ≤ 1048576 := by omega
 obtain ⟨hst, hsl⟩ := shelvesR_size p bs
 have hmx : ∀ i, i < (shelvesR p bs).length → ((shelvesR p bs).getD i default).us.length ≤ 1048576 := fun i hi => by have := totShelf_le (shelvesR p bs) i hi; omega
 have HMX := hide hmx
 clear hmx
 obtain ⟨N, hN⟩ : ∃ N, N = (shelvesR p bs).length := ⟨_, rfl⟩
 have hNn : N ≤ n := by omega
 have HN := hide hN
 clear hN hst hsl
 go_enter Try.func6, Try.ntmps6
 go_wp2_with fail
 generalize hW : (w.alloc (.cells #[.int .i64 p.wd, .int .i64 p.dp, .int .i64 p.ht, .int .i64 p.gram] 23)) = w1 at *
 obtain ⟨hb, Kpw1, zpw1⟩ := en1 hW
 have hb := unhide hb
 have Hw1 : Hid (Below w.heap.size w w1) := hb
 clear hb hW
 have Qyw1 : Hid (RdR BoxV.cells 4 w1 a n bs) := hr.mono (by omega) BoxV.len Hw1.out
 refine (szBoxS_any a n c _ _ hm (by omega) (by omega)).mono ?_
 rintro e w1 ⟨rfl, hw⟩
 subst w1
 rw [if_neg (by omega)]
 have hl0 : ¬ (1048576 : Int) - n < 0 := by omega
 clear hs
 generalize (1048576 : Int) - n = l at hl0 ⊢
 obtain ⟨pw1_0, pw1_1, pw1_2, pw1_3⟩ := Blk.cs4 Kpw1.out
 go_wp2_with fail
 refine (toPallet_any p.wd p.dp p.ht p.gram _).mono ?_
 rintro e w2 ⟨rfl, hbw2⟩
 clear pw1_0 pw1_1 pw1_2 pw1_3
 have Hw2 : Hid (Below w.heap.size w w2) := Hw1.out.trans (hbw2.mono Hw1.out.size)
 have Kpw2 := hide (Blk.below hbw2 zpw1 Kpw1.out)
 have zpw2 : w.heap.size < w2.heap.size := Nat.lt_of_lt_of_le zpw1 hbw2.size
 have Qyw2 : Hid (RdR BoxV.cells 4 w2 a n bs) := RdR.mono (by omega) BoxV.len Qyw1.out hbw2
 clear Hw1 Kpw1 zpw1 Qyw1
 clear hbw2
 go_wp2_with fail
 refine (toBoxS_any a n c bs _ Qyw2.out hn).mono ?_
 rintro e w3 ⟨gs, rfl, hrs, hbw3, hg1, hg2⟩
 have Hw3 : Hid (Below w.heap.size w w3) := Hw2.out.trans (hbw3.mono Hw2.out.size)
 have Kpw3 := hide (Blk.below hbw3 zpw2 Kpw2.out)
 have zpw3 : w.heap.size < w3.heap.size := Nat.lt_of_lt_of_le zpw2 hbw3.size
 have Qyw3 : Hid (RdR BoxV.cells 4 w3 a n bs) := RdR.mono (by omega) BoxV.len Qyw2.out hbw3
 clear Hw2 Kpw2 zpw2 Qyw2
 have Qsw3 : Hid (RdR BoxV.cells 4 w3 (some ⟨gs, 0, none⟩) n bs) := hrs
 clear hbw3 hrs hg1 hg2
 go_wp2_with fail
 refine (specShelves_any p _ n n bs _ Qsw3.out hn).mono ?_
 rintro e w4 ⟨g4, cap4, xs4, rfl, ho4, hm4, hbw4⟩
 have hl4 : xs4.length = N := by rw [unhide HN, ← hm4, List.length_map]
 have hrd4 := ho4.read
 rw [hm4, hl4] at hrd4
 rw [hl4]
 have W4 := hide hrd4
 clear ho4 hm4 hl4 hrd4
 have Hw4 : Hid (Below w.heap.size w w4) := Hw3.out.trans (hbw4.mono Hw3.out.size)
 have Kpw4 := hide (Blk.below hbw4 zpw3 Kpw3.out)
 have zpw4 : w.heap.size < w4.heap.size := Nat.lt_of_lt_of_le zpw3 hbw4.size
 have Qyw4 : Hid (RdR BoxV.cells 4 w4 a n bs) := RdR.mono (by omega) BoxV.len Qyw3.out hbw4
 have Qsw4 : Hid (RdR BoxV.cells 4 w4 (some ⟨gs, 0, none⟩) n bs) := RdR.mono (by omega) BoxV.len Qsw3.out hbw4
 clear Hw3 Kpw3 zpw3 Qyw3 Qsw3
 clear hbw4
 have KP4 := Kpw4
 have zp4 := zpw4
 have Y4 := Qyw4
 clear Qsw4 Kpw4 Qyw4
 have Qbw4 : Hid (Below w4.heap.size w4 w4) := Below.refl _ _
 go_wp2_with fail
 have h45 : w4.heap.size ≤ w4.heap.size := Nat.le_refl _
 refine (toBoxS_own a n c bs _ (Y4.out.mono (by omega) BoxV.len Qbw4.out) hn).mono ?_
 rintro e w5 ⟨L5, rfl, ho5, hr5, hb5⟩
 have Hw5 : Hid (Below w.heap.size w w5) := Hw4.out.trans (hb5.mono Hw4.out.size)
 have Qbw5 : Hid (Below w4.heap.size w4 w5) := Qbw4.out.trans (hb5.mono Qbw4.out.size)
 clear Hw4 Qbw4
 have Qow5 : Hid (w5.ownsRow w4.heap.size 52 4 (.slice (some ⟨w4.heap.size, 0, none⟩) n n) n L5) := ho5
 have Qtw5 : Hid (RdR BoxV.cells 4 w5 (some ⟨w4.heap.size, 0, none⟩) n bs) := hr5
 have z5 : w4.heap.size < w5.heap.size := (ho5.lt _ rfl).2
 have z45 : w4.heap.size ≤ w4.heap.size := h45
 clear ho5 hr5 hb5
 have kp := Blk.below Qbw5.out zp4 KP4.out
 obtain ⟨pc0, pc1, pc2, pc3⟩ := Blk.cs4 kp
 clear kp
 go_wp2_with fail
 refine (toPallet_any p.wd p.dp p.ht p.gram _).mono ?_
 rintro e w6 ⟨rfl, hbw6⟩
 clear pc0 pc1 pc2 pc3
 have Hw6 : Hid (Below w.heap.size w w6) := Hw5.out.trans (hbw6.mono Hw5.out.size)
 have Qbw6 : Hid (Below w4.heap.size w4 w6) := Qbw5.out.trans (hbw6.mono Qbw5.out.size)
 have Qow6 : Hid (w6.ownsRow w4.heap.size 52 4 (.slice (some ⟨w4.heap.size, 0, none⟩) n n) n L5) := own_later Qow5.out hbw6
 have Qtw6 : Hid (RdR BoxV.cells 4 w6 (some ⟨w4.heap.size, 0, none⟩) n bs) := RdR.mono (by omega) BoxV.len Qtw5.out hbw6
 clear Hw5 Qbw5 Qow5 Qtw5
 clear hbw6
 go_wp2_with fail
 have z6 : w4.heap.size < w6.heap.size := by have := Qow6.out.lt _ rfl; omega
 refine (shelves_any p _ n n bs _ Qtw6.out hn).mono ?_
 rintro e w7 ⟨g7, cap7, xs7, rfl, ho7, hm7, hbw7⟩
 have hl7 : xs7.length = N := by rw [unhide HN, ← hm7, List.length_map]
 have HRD : Hid (∀ x, OwnShelf x w6.heap.size g7 cap7 xs7 → RdShelf x (some ⟨g7, 0, none⟩) N (shelvesR p bs)) := fun x hx => by have h := hx.read; rw [hm7, hl7] at h; exact h
 have htx : totXShelf xs7 ≤ 8000000 := by have := shelvesR_size p bs; rw [totX_eq, hm7]; omega
 have HLL : Hid (∀ i, i < xs7.length → (xs7.getD i default).l.length ≤ 1048577) := fun i hi => by have h9 := shelvesR_size p bs; have h := totShelf_le (xs7.map ShelfW.car) i (by simpa using hi); rw [ShelfW.getD_car xs7 i hi, hm7] at h; have e : (xs7.getD i default).car.us.length = (xs7.getD i default).l.length := rfl; omega
 have Hw7 : Hid (Below w.heap.size w w7) := Hw6.out.trans (hbw7.mono Hw6.out.size)
 have Qbw7 : Hid (Below w4.heap.size w4 w7) := Qbw6.out.trans (hbw7.mono Qbw6.out.size)
 have Qow7 : Hid (w7.ownsRow w4.heap.size 52 4 (.slice (some ⟨w4.heap.size, 0, none⟩) n n) n L5) := own_later Qow6.out hbw7
 have Qtw7 : Hid (RdR BoxV.cells 4 w7 (some ⟨w4.heap.size, 0, none⟩) n bs) := RdR.mono (by omega) BoxV.len Qtw6.out hbw7
 clear Hw6 Qbw6 Qow6 Qtw6
 clear hbw7
 have Quw7 : Hid (OwnShelf w7 w6.heap.size g7 cap7 xs7) := ho7
 clear ho7 hm7
 rw [hl7]
 have HL7 := hide hl7
 have hx7 : xs7.length ≤ n := by omega
 clear hl7
 go_wp2_with fail
 refine (eqShelfS_same _ N cap7 _ cap4 (shelvesR p bs) _ (HRD.out _ Quw7.out) (W4.out.mono Qbw7.out) (by omega) (by rw [unhide HN]; exact unhide HMX)).mono ?_
 rintro e w8 ⟨rfl, hbw8⟩
 have Hw8 : Hid (Below w.heap.size w w8) := Hw7.out.trans (hbw8.mono Hw7.out.size)
 have Qbw8 : Hid (Below w4.heap.size w4 w8) := Qbw7.out.trans (hbw8.mono Qbw7.out.size)
 have Qow8 : Hid (w8.ownsRow w4.heap.size 52 4 (.slice (some ⟨w4.heap.size, 0, none⟩) n n) n L5) := own_later Qow7.out hbw8
 have Qtw8 : Hid (RdR BoxV.cells 4 w8 (some ⟨w4.heap.size, 0, none⟩) n bs) := RdR.mono (by omega) BoxV.len Qtw7.out hbw8
 have Quw8 : Hid (OwnShelf w8 w6.heap.size g7 cap7 xs7) := OwnShelf.later Quw7.out hbw8
 clear Hw7 Qbw7 Qow7 Qtw7 Quw7
 clear hbw8
 go_wp2_with fail
 refine (toBoxS_any a n c bs _ (Y4.out.mono (by omega) BoxV.len Qbw8.out) hn).mono ?_
 rintro e w9 ⟨gs, rfl, hrs, hbw9, hg1, hg2⟩
 have Hw9 : Hid (Below w.heap.size w w9) := Hw8.out.trans (hbw9.mono Hw8.out.size)
 have Qbw9 : Hid (Below w4.heap.size w4 w9) := Qbw8.out.trans (hbw9.mono Qbw8.out.size)
 have Qow9 : Hid (w9.ownsRow w4.heap.size 52 4 (.slice (some ⟨w4.heap.size, 0, none⟩) n n) n L5) := own_later Qow8.out hbw9
 have Qtw9 : Hid (RdR BoxV.cells 4 w9 (some ⟨w4.heap.size, 0, none⟩) n bs) := RdR.mono (by omega) BoxV.len Qtw8.out hbw9
 have Quw9 : Hid (OwnShelf w9 w6.heap.size g7 cap7 xs7) := OwnShelf.later Quw8.out hbw9
 clear Hw8 Qbw8 Qow8 Qtw8 Quw8
 have Qsw9 : Hid (RdR BoxV.cells 4 w9 (some ⟨gs, 0, none⟩) n bs) := hrs
 clear hbw9 hrs hg1 hg2
 go_wp2_with fail
 refine (eqBoxS_same _ n n _ n bs _ Qtw9.out Qsw9.out hn).mono ?_
 rintro e w10 ⟨rfl, hbw10⟩
 have Hw10 : Hid (Below w.heap.size w w10) := Hw9.out.trans (hbw10.mono Hw9.out.size)
 have Qbw10 : Hid (Below w4.heap.size w4 w10) := Qbw9.out.trans (hbw10.mono Qbw9.out.size)
 have Qow10 : Hid (w10.ownsRow w4.heap.size 52 4 (.slice (some ⟨w4.heap.size, 0, none⟩) n n) n L5) := own_later Qow9.out hbw10
 have Qtw10 : Hid (RdR BoxV.cells 4 w10 (some ⟨w4.heap.size, 0, none⟩) n bs) := RdR.mono (by omega) BoxV.len Qtw9.out hbw10
 have Quw10 : Hid (OwnShelf w10 w6.heap.size g7 cap7 xs7) := OwnShelf.later Quw9.out hbw10
 have Qsw10 : Hid (RdR BoxV.cells 4 w10 (some ⟨gs, 0, none⟩) n bs) := RdR.mono (by omega) BoxV.len Qsw9.out hbw10
 clear Hw9 Qbw9 Qow9 Qtw9 Quw9 Qsw9
 clear hbw10
 clear Qsw10
 clear Qtw10
 go_wp2_with fail
 refine (markBoxS_any w4.heap.size w4.heap.size n n 1 L5 _ Qow10.out (by omega) (by omega)).mono ?_
 rintro e w11 ⟨rfl, hg8⟩
 have zc : w6.heap.size ≤ w10.heap.size := by have := Quw10.out.out.lt g7 rfl; omega
 have hwb : w.heap.size ≤ w4.heap.size := by omega
 have Hw11 := hide (Hw10.out.grown hg8 (by omega) (fun b hb => by injection hb with hb; omega))
 have Qbw11 := hide (Qbw10.out.grown hg8 (by omega) (fun b hb => by injection hb with hb; omega))
 have Quw11 := hide (Quw10.out.kept hg8 (by omega))
 clear hg8 Hw10 Qbw10 Quw10 Qow10
 have hneg2 : ¬ ((1 + 4 * n : Nat) : Int) < 0 := by omega
 generalize 1 + 4 * n = K2 at hneg2 ⊢
 go_wp2_with fail
 refine (eqShelfS_same _ N cap7 _ cap4 (shelvesR p bs) _ (HRD.out _ Quw11.out) (W4.out.mono Qbw11.out) (by omega) (by rw [unhide HN]; exact unhide HMX)).mono ?_
 rintro e w12 ⟨rfl, hbw12⟩
 have Hw12 : Hid (Below w.heap.size w w12) := Hw11.out.trans (hbw12.mono Hw11.out.size)
 have Qbw12 : Hid (Below w4.heap.size w4 w12) := Qbw11.out.trans (hbw12.mono Qbw11.out.size)
 have Quw12 : Hid (OwnShelf w12 w6.heap.size g7 cap7 xs7) := OwnShelf.later Quw11.out hbw12
 clear Hw11 Qbw11 Quw11
 clear hbw12
 go_wp2_with fail
 rw [← unhide HL7]
 refine (markShelfS_any w6.heap.size g7 cap7 1 xs7 _ Quw12.out (by omega) htx (by omega) (by have := Quw12.out.out.lt g7 rfl; omega) HLL.out).mono ?_
 rintro e w13 ⟨rfl, ho9, hb9⟩
 have zc2 : w6.heap.size ≤ w12.heap.size := by have := Quw12.out.out.lt g7 rfl; omega
 have Hw13 := hide (Hw12.out.trans (hb9.mono (by omega)))
 have Qbw13 := hide (Qbw12.out.trans (hb9.mono (by omega)))
 have Qmw13 := hide ho9
 clear ho9 hb9 Hw12 Qbw12 Quw12
 obtain ⟨TT, hTT⟩ : ∃ t, 1 + totXShelf xs7 = t := ⟨_, rfl⟩
 have HTT := hide hTT
 rw [hTT]
 clear hTT
 have hneg : ¬ ((TT : Nat) : Int) < 0 := by omega
 have hne : (((TT : Nat) : Int) != ((TT : Nat) : Int)) = false := by simp
 go_wp2_with fail
 refine (heldShelfS_any w6.heap.size g7 cap7 1 xs7 w13 Qmw13.out (by omega) htx (by omega) HLL.out).mono ?_
 rintro e w99 ⟨rfl, hw⟩
 subst w99
 rw [unhide HTT]
 rw [unhide HL7]
 have kp := Blk.below Qbw13.out zp4 KP4.out
 obtain ⟨pc0, pc1, pc2, pc3⟩ := Blk.cs4 kp
 clear kp
 go_wp2_with fail
 refine (toPallet_any p.wd p.dp p.ht p.gram _).mono ?_
 rintro e w14 ⟨rfl, hbw14⟩
 clear pc0 pc1 pc2 pc3
 have Hw14 : Hid (Below w.heap.size w w14) := Hw13.out.trans (hbw14.mono Hw13.out.size)
 have Qbw14 : Hid (Below w4.heap.size w4 w14) := Qbw13.out.trans (hbw14.mono Qbw13.out.size)
 have Qmw14 : Hid (OwnShelf w14 w6.heap.size g7 cap7 (markShelf 1 xs7)) := OwnShelf.later Qmw13.out hbw14
 clear Hw13 Qbw13 Qmw13
 clear hbw14
 go_wp2_with fail
 refine (toBoxS_any a n c bs _ (Y4.out.mono (by omega) BoxV.len Qbw14.out) hn).mono ?_
 rintro e w15 ⟨gs, rfl, hrs, hbw15, hg1, hg2⟩
 have Hw15 : Hid (Below w.heap.size w w15) := Hw14.out.trans (hbw15.mono Hw14.out.size)
 have Qbw15 : Hid (Below w4.heap.size w4 w15) := Qbw14.out.trans (hbw15.mono Qbw14.out.size)
 have Qmw15 : Hid (OwnShelf w15 w6.heap.size g7 cap7 (markShelf 1 xs7)) := OwnShelf.later Qmw14.out hbw15
 clear Hw14 Qbw14 Qmw14
 have Qsw15 : Hid (RdR BoxV.cells 4 w15 (some ⟨gs, 0, none⟩) n bs) := hrs
 clear hbw15 hrs hg1 hg2
 go_wp2_with fail
 refine (shelves_any p _ n n bs _ Qsw15.out hn).mono ?_
 rintro e w16 ⟨g8, cap8, xs8, rfl, ho8, hm8, hbw16⟩
 have hl8 : xs8.length = N := by rw [unhide HN, ← hm8, List.length_map]
 have hrd8 := ho8.read
 rw [hm8, hl8] at hrd8
 rw [hl8]
 have R8 := hide hrd8
 clear ho8 hm8 hl8 hrd8
 have Hw16 : Hid (Below w.heap.size w w16) := Hw15.out.trans (hbw16.mono Hw15.out.size)
 have Qbw16 : Hid (Below w4.heap.size w4 w16) := Qbw15.out.trans (hbw16.mono Qbw15.out.size)
 have Qmw16 : Hid (OwnShelf w16 w6.heap.size g7 cap7 (markShelf 1 xs7)) := OwnShelf.later Qmw15.out hbw16
 have Qsw16 : Hid (RdR BoxV.cells 4 w16 (some ⟨gs, 0, none⟩) n bs) := RdR.mono (by omega) BoxV.len Qsw15.out hbw16
 clear Hw15 Qbw15 Qmw15 Qsw15
 clear hbw16
 clear Qsw16
 go_wp2_with fail
 refine (eqShelfS_same _ N cap8 _ cap4 (shelvesR p bs) _ R8.out (W4.out.mono Qbw16.out) (by omega) (by rw [unhide HN]; exact unhide HMX)).mono ?_
 rintro e w17 ⟨rfl, hbw17⟩
 have Hw17 : Hid (Below w.heap.size w w17) := Hw16.out.trans (hbw17.mono Hw16.out.size)
 have Qbw17 : Hid (Below w4.heap.size w4 w17) := Qbw16.out.trans (hbw17.mono Qbw16.out.size)
 have Qmw17 : Hid (OwnShelf w17 w6.heap.size g7 cap7 (markShelf 1 xs7)) := OwnShelf.later Qmw16.out hbw17
 clear Hw16 Qbw16 Qmw16
 clear hbw17
 go_wp2_with fail
 rw [← unhide HL7]
 refine (heldShelfS_any w6.heap.size g7 cap7 1 xs7 w17 Qmw17.out (by omega) htx (by omega) HLL.out).mono ?_
 rintro e w99 ⟨rfl, hw⟩
 subst w99
 rw [unhide HTT]
 go_wp2_with fail
 go_ret
 exact ⟨rfl, unhide Hw17⟩
end Go.Proofs.Ytcblpoeeembniaa
