/- laws.FnGroupsFew: no more groups than kinds that are there, no more than units; each kind that is there has a unit in its group. -/
import Derived.Test.YtlakbnpinennnaaGreatDoorLawUnitsG
import Derived.Test.YtlakbnpinennnaaGreatDoorFewPlain2
import Derived.Test.YtlakbnpinennnaaGreatDoorGroupOf
import Derived.Test.YtlakbnpinennnaaGreatDoorPresImpl
import Derived.Test.YtlakbnpinennnaaGreatDoorSpecPres
namespace Go.Proofs.YtlakbnpinennnaaGreatDoor
open Go.RowKit
set_option linter.unusedVariables false
set_option linter.unusedSimpArgs false

theorem any_take (f : Int → Bool) (us : List Int) (j : Nat) (h : j < us.length) : (us.take (j + 1)).any f = ((us.take j).any f || f (us.getD j 0)) := by
  rw [List.take_succ_eq_append_getElem h, List.any_append]
  simp [List.getD_eq_getElem?_getD, h]
theorem cell_below {w w' : World} (hb : Below w.heap.size w w') {b off : Nat} {v : Value} (hc : w.cell? ⟨b, off, none⟩ = some v) : w'.cell? ⟨b, off, none⟩ = some v := (hb.cell (World.block_lt_of_cell? w _ hc)).trans hc
theorem Rd.at0 {w : World} {g n : Nat} {zs : List Int} (h : Rd w (some ⟨g, 0, none⟩) n zs) (k : Nat) (hk : k < n) : w.cell? ⟨g, k, none⟩ = some (.int .i64 (zs.getD k 0)) := by
  obtain ⟨b, off, e, hc⟩ := h.2 k hk
  injection e with e
  injection e with e1 e2
  subst e1 e2
  simpa using hc
theorem item_cls {w : World} {r : ReqV} {h : ReqH} (hr : RdReq w r h) (i : Nat) (hi : i < r.items.length) : ∃ b off, h.ai = some ⟨b, off, none⟩ ∧ w.cell? ⟨b, off + i * 7 + 5, none⟩ = some (.int .i64 (r.items.getD i default).cls) := by
  obtain ⟨b, off, e, hc⟩ := hr.2.2.2 i hi
  exact ⟨b, off, e, hc 5 (by omega)⟩
def clsAt (r : ReqV) (u : Int) : Int := ((itemsR r).getD ((unitsR r).getD u.toNat 0).toNat default).cls
theorem present_class {r : ReqV} {k : Nat} (h : k < (presentR r).length) : classI r = 0 := by
  by_cases e : classI r = 0
  · exact e
  · rw [presentR, itemsR_not e] at h
    have : presentL [] = [] := rfl
    rw [this] at h
    simp at h
theorem unit_item {r : ReqV} (h0 : classI r = 0) (u : Nat) (hu : u < (unitsR r).length) : ∃ i : Nat, (unitsR r).getD u 0 = (i : Int) ∧ i < r.items.length ∧ clsAt r (u : Int) = (r.items.getD i default).cls := by
  obtain ⟨i, e, hi⟩ := unitsL_lt (itemsR r) u hu
  refine ⟨i, e, by rw [← itemsR_zero h0]; exact hi, ?_⟩
  have e' : (unitsR r).getD u 0 = (i : Int) := e
  rw [clsAt, Int.toNat_natCast, e', Int.toNat_natCast, itemsR_zero h0]
theorem kind_hit (r : ReqV) (c : Int) (hc : c ∈ presentR r) : ∃ k : Nat, groupOfI (groupsR r) c = k ∧ (unitsOfR r (k : Int)).any (fun u => clsAt r u == c) = true := by
  obtain ⟨k, u, e, _, hm, hcl⟩ := kind_unit r c hc
  refine ⟨k, e, List.any_eq_true.2 ⟨(u : Int), hm, ?_⟩⟩
  rw [clsAt, Int.toNat_natCast, hcl]
  simp
set_option maxRecDepth 100000 in
set_option maxHeartbeats 8000000 in
theorem law_few (a : Option Addr) (n c : Nat) (zs : List Int) (w : World) (hr : RdB w a n zs) (hm : n ≤ maxLen) (hg : ErrT w) :
    Calls Tryz.prog 4 #[.slice a n c] w fun e w' => e = .returned (.bool true) ∧ Below w.heap.size w w' := by
  unfold maxLen at hm
  by_cases hn : n ≤ 1048576
  case neg =>
    have hgt : (1048576 : Int) < (n : Int) := by omega
    go_enter Tryz.func4, Tryz.ntmps4
    go_wp2_with (first | (go_at_call 9; go_in) | fail)
    go_ret
    exact ⟨rfl, Below.refl _ _⟩
  have hgt : ¬ (1048576 : Int) < (n : Int) := by omega
  obtain ⟨i0, hi, hz0, hz1, hz2⟩ := info_parts Tryz.infoInt
  have HR := hide hr
  clear hr
  go_enter Tryz.func4, Tryz.ntmps4
  go_wp2_with (first | (go_at_call 9; go_in) | fail)
  refine (drawGroupsOf_any a n c zs w (unhide HR) hn).mono ?_
  rintro e w1 ⟨r, h, rfl, hlo, hq1, hf1, hb1⟩
  have hsm : r.small := hlo.small
  have hN12 : (unitsR r).length ≤ 12 := unitsR_len r
  clear hlo HR
  have Hw1 : Hid (Below w.heap.size w w1) := hb1
  have Qrw1 : Hid (RdReq w1 r h) := hq1
  have Qgw1 : Hid (ErrT w1) := hg.later hb1
  clear hb1 hq1 hf1
  unfold reqVal
  go_wp2_with fail
  have hb : Below w1.heap.size w1 (w1.alloc (.cells #[.int .i64 r.way, .int .i64 r.pal.wd, .int .i64 r.pal.dp, .int .i64 r.pal.ht, .int .i64 r.pal.gram, .int .i64 r.classes, .slice h.ap r.pairs.length h.cp, .slice h.at' r.types.length h.ct, .int .i64 r.master, .slice h.ai r.items.length h.ci] 30)) := (Below.refl _ _).alloc (Nat.le_refl _) _
  have Kxw2 : Hid (Blk (w1.alloc (.cells #[.int .i64 r.way, .int .i64 r.pal.wd, .int .i64 r.pal.dp, .int .i64 r.pal.ht, .int .i64 r.pal.gram, .int .i64 r.classes, .slice h.ap r.pairs.length h.cp, .slice h.at' r.types.length h.ct, .int .i64 r.master, .slice h.ai r.items.length h.ci] 30)) w1.heap.size [.int .i64 r.way, .int .i64 r.pal.wd, .int .i64 r.pal.dp, .int .i64 r.pal.ht, .int .i64 r.pal.gram, .int .i64 r.classes, .slice h.ap r.pairs.length h.cp, .slice h.at' r.types.length h.ct, .int .i64 r.master, .slice h.ai r.items.length h.ci]) := Blk.allocAt [.int .i64 r.way, .int .i64 r.pal.wd, .int .i64 r.pal.dp, .int .i64 r.pal.ht, .int .i64 r.pal.gram, .int .i64 r.classes, .slice h.ap r.pairs.length h.cp, .slice h.at' r.types.length h.ct, .int .i64 r.master, .slice h.ai r.items.length h.ci] rfl
  have zxw2 : w1.heap.size < (w1.alloc (.cells #[.int .i64 r.way, .int .i64 r.pal.wd, .int .i64 r.pal.dp, .int .i64 r.pal.ht, .int .i64 r.pal.gram, .int .i64 r.classes, .slice h.ap r.pairs.length h.cp, .slice h.at' r.types.length h.ct, .int .i64 r.master, .slice h.ai r.items.length h.ci] 30)).heap.size := by simp
  generalize (w1.alloc (.cells #[.int .i64 r.way, .int .i64 r.pal.wd, .int .i64 r.pal.dp, .int .i64 r.pal.ht, .int .i64 r.pal.gram, .int .i64 r.classes, .slice h.ap r.pairs.length h.cp, .slice h.at' r.types.length h.ct, .int .i64 r.master, .slice h.ai r.items.length h.ci] 30)) = w2 at *
  have Hw2 : Hid (Below w.heap.size w w2) := (unhide Hw1).trans (hb.mono (unhide Hw1).size)
  have Qrw2 : Hid (RdReq w2 r h) := (unhide Qrw1).mono hb
  have Qgw2 : Hid (ErrT w2) := (unhide Qgw1).later hb
  clear Hw1 Qrw1 Qgw1
  clear hb
  refine (groupsOf_any r h _ (unhide Qrw2) hsm (unhide Qgw2)).mono ?_
  rintro e w3 ⟨g3, cap3, rows, rfl, ho3, hx3, hbw3⟩
  have Hw3 : Hid (Below w.heap.size w w3) := (unhide Hw2).trans (hbw3.mono (unhide Hw2).size)
  have Kxw3 := hide (Blk.below hbw3 zxw2 (unhide Kxw2))
  have zxw3 : w1.heap.size < w3.heap.size := Nat.lt_of_lt_of_le zxw2 hbw3.size
  have Qrw3 : Hid (RdReq w3 r h) := (unhide Qrw2).mono hbw3
  have Qgw3 : Hid (ErrT w3) := (unhide Qgw2).later hbw3
  clear Hw2 Kxw2 zxw2 Qrw2 Qgw2
  clear hbw3
  have hl3 : rows.length = (groupsR r).length := by rw [← hx3, List.length_map]
  have hm4 : (groupsR r).length ≤ 4 := groupsR_len r
  have hrd3 := ho3.read
  rw [hx3] at hrd3
  rw [hl3] at hrd3 ⊢
  clear ho3 hx3 hl3
  have Qww3 : Hid (Rd2 w3 (some ⟨g3, 0, none⟩) (groupsR r).length (groupsR r)) := hrd3
  clear hrd3
  have xw3_0 : w3.cell? ⟨w1.heap.size, 0, none⟩ = some (.int .i64 r.way) := ((unhide Kxw3) 0 (by simp)).1
  have xw3_1 : w3.cell? ⟨w1.heap.size, 1, none⟩ = some (.int .i64 r.pal.wd) := ((unhide Kxw3) 1 (by simp)).1
  have xw3_2 : w3.cell? ⟨w1.heap.size, 2, none⟩ = some (.int .i64 r.pal.dp) := ((unhide Kxw3) 2 (by simp)).1
  have xw3_3 : w3.cell? ⟨w1.heap.size, 3, none⟩ = some (.int .i64 r.pal.ht) := ((unhide Kxw3) 3 (by simp)).1
  have xw3_4 : w3.cell? ⟨w1.heap.size, 4, none⟩ = some (.int .i64 r.pal.gram) := ((unhide Kxw3) 4 (by simp)).1
  have xw3_5 : w3.cell? ⟨w1.heap.size, 5, none⟩ = some (.int .i64 r.classes) := ((unhide Kxw3) 5 (by simp)).1
  have xw3_6 : w3.cell? ⟨w1.heap.size, 6, none⟩ = some (.slice h.ap r.pairs.length h.cp) := ((unhide Kxw3) 6 (by simp)).1
  have xw3_7 : w3.cell? ⟨w1.heap.size, 7, none⟩ = some (.slice h.at' r.types.length h.ct) := ((unhide Kxw3) 7 (by simp)).1
  have xw3_8 : w3.cell? ⟨w1.heap.size, 8, none⟩ = some (.int .i64 r.master) := ((unhide Kxw3) 8 (by simp)).1
  have xw3_9 : w3.cell? ⟨w1.heap.size, 9, none⟩ = some (.slice h.ai r.items.length h.ci) := ((unhide Kxw3) 9 (by simp)).1
  go_wp2_with fail
  refine (present_any r h _ (unhide Qrw3) hsm (unhide Qgw3)).mono ?_
  rintro e w4 ⟨g1, cap1p, rfl, ho1, hbw4⟩
  clear xw3_0 xw3_1 xw3_2 xw3_3 xw3_4 xw3_5 xw3_6 xw3_7 xw3_8 xw3_9
  have Hw4 : Hid (Below w.heap.size w w4) := (unhide Hw3).trans (hbw4.mono (unhide Hw3).size)
  have Kxw4 := hide (Blk.below hbw4 zxw3 (unhide Kxw3))
  have zxw4 : w1.heap.size < w4.heap.size := Nat.lt_of_lt_of_le zxw3 hbw4.size
  have Qrw4 : Hid (RdReq w4 r h) := (unhide Qrw3).mono hbw4
  have Qgw4 : Hid (ErrT w4) := (unhide Qgw3).later hbw4
  have Qww4 : Hid (Rd2 w4 (some ⟨g3, 0, none⟩) (groupsR r).length (groupsR r)) := Rd2.mono (unhide Qww3) hbw4
  clear Hw3 Kxw3 zxw3 Qrw3 Qgw3 Qww3
  clear hbw4
  have Qpw4 : Hid (Rd w4 (some ⟨g1, 0, none⟩) (presentR r).length (presentR r)) := Rd.of_owns ho1
  clear ho1
  have xw4_0 : w4.cell? ⟨w1.heap.size, 0, none⟩ = some (.int .i64 r.way) := ((unhide Kxw4) 0 (by simp)).1
  have xw4_1 : w4.cell? ⟨w1.heap.size, 1, none⟩ = some (.int .i64 r.pal.wd) := ((unhide Kxw4) 1 (by simp)).1
  have xw4_2 : w4.cell? ⟨w1.heap.size, 2, none⟩ = some (.int .i64 r.pal.dp) := ((unhide Kxw4) 2 (by simp)).1
  have xw4_3 : w4.cell? ⟨w1.heap.size, 3, none⟩ = some (.int .i64 r.pal.ht) := ((unhide Kxw4) 3 (by simp)).1
  have xw4_4 : w4.cell? ⟨w1.heap.size, 4, none⟩ = some (.int .i64 r.pal.gram) := ((unhide Kxw4) 4 (by simp)).1
  have xw4_5 : w4.cell? ⟨w1.heap.size, 5, none⟩ = some (.int .i64 r.classes) := ((unhide Kxw4) 5 (by simp)).1
  have xw4_6 : w4.cell? ⟨w1.heap.size, 6, none⟩ = some (.slice h.ap r.pairs.length h.cp) := ((unhide Kxw4) 6 (by simp)).1
  have xw4_7 : w4.cell? ⟨w1.heap.size, 7, none⟩ = some (.slice h.at' r.types.length h.ct) := ((unhide Kxw4) 7 (by simp)).1
  have xw4_8 : w4.cell? ⟨w1.heap.size, 8, none⟩ = some (.int .i64 r.master) := ((unhide Kxw4) 8 (by simp)).1
  have xw4_9 : w4.cell? ⟨w1.heap.size, 9, none⟩ = some (.slice h.ai r.items.length h.ci) := ((unhide Kxw4) 9 (by simp)).1
  go_wp2_with fail
  refine (specGroupsOf_any r h _ (unhide Qrw4) hsm).mono ?_
  rintro e w5 ⟨g4, cap4, rows4, rfl, ho4, hx4, hbw5⟩
  clear xw4_0 xw4_1 xw4_2 xw4_3 xw4_4 xw4_5 xw4_6 xw4_7 xw4_8 xw4_9
  have Hw5 : Hid (Below w.heap.size w w5) := (unhide Hw4).trans (hbw5.mono (unhide Hw4).size)
  have Kxw5 := hide (Blk.below hbw5 zxw4 (unhide Kxw4))
  have zxw5 : w1.heap.size < w5.heap.size := Nat.lt_of_lt_of_le zxw4 hbw5.size
  have Qrw5 : Hid (RdReq w5 r h) := (unhide Qrw4).mono hbw5
  have Qgw5 : Hid (ErrT w5) := (unhide Qgw4).later hbw5
  have Qww5 : Hid (Rd2 w5 (some ⟨g3, 0, none⟩) (groupsR r).length (groupsR r)) := Rd2.mono (unhide Qww4) hbw5
  have Qpw5 : Hid (Rd w5 (some ⟨g1, 0, none⟩) (presentR r).length (presentR r)) := Rd.mono (unhide Qpw4) hbw5
  clear Hw4 Kxw4 zxw4 Qrw4 Qgw4 Qww4 Qpw4
  clear hbw5
  have hl4 : rows4.length = (groupsR r).length := by rw [← hx4, List.length_map]
  rw [hl4]
  clear ho4 hx4 hl4
  have hp4 : (presentR r).length ≤ 4 := presentL_len _
  have hne : (((groupsR r).length : Int) != ((groupsR r).length : Int)) = false := by simp
  have xw5_0 : w5.cell? ⟨w1.heap.size, 0, none⟩ = some (.int .i64 r.way) := ((unhide Kxw5) 0 (by simp)).1
  have xw5_1 : w5.cell? ⟨w1.heap.size, 1, none⟩ = some (.int .i64 r.pal.wd) := ((unhide Kxw5) 1 (by simp)).1
  have xw5_2 : w5.cell? ⟨w1.heap.size, 2, none⟩ = some (.int .i64 r.pal.dp) := ((unhide Kxw5) 2 (by simp)).1
  have xw5_3 : w5.cell? ⟨w1.heap.size, 3, none⟩ = some (.int .i64 r.pal.ht) := ((unhide Kxw5) 3 (by simp)).1
  have xw5_4 : w5.cell? ⟨w1.heap.size, 4, none⟩ = some (.int .i64 r.pal.gram) := ((unhide Kxw5) 4 (by simp)).1
  have xw5_5 : w5.cell? ⟨w1.heap.size, 5, none⟩ = some (.int .i64 r.classes) := ((unhide Kxw5) 5 (by simp)).1
  have xw5_6 : w5.cell? ⟨w1.heap.size, 6, none⟩ = some (.slice h.ap r.pairs.length h.cp) := ((unhide Kxw5) 6 (by simp)).1
  have xw5_7 : w5.cell? ⟨w1.heap.size, 7, none⟩ = some (.slice h.at' r.types.length h.ct) := ((unhide Kxw5) 7 (by simp)).1
  have xw5_8 : w5.cell? ⟨w1.heap.size, 8, none⟩ = some (.int .i64 r.master) := ((unhide Kxw5) 8 (by simp)).1
  have xw5_9 : w5.cell? ⟨w1.heap.size, 9, none⟩ = some (.slice h.ai r.items.length h.ci) := ((unhide Kxw5) 9 (by simp)).1
  go_wp2_with fail
  refine (specPresent_any r h _ (unhide Qrw5) hsm).mono ?_
  rintro e w6 ⟨g2, cap2, rfl, ho2, hbw6⟩
  clear xw5_0 xw5_1 xw5_2 xw5_3 xw5_4 xw5_5 xw5_6 xw5_7 xw5_8 xw5_9
  have Hw6 : Hid (Below w.heap.size w w6) := (unhide Hw5).trans (hbw6.mono (unhide Hw5).size)
  have Kxw6 := hide (Blk.below hbw6 zxw5 (unhide Kxw5))
  have zxw6 : w1.heap.size < w6.heap.size := Nat.lt_of_lt_of_le zxw5 hbw6.size
  have Qrw6 : Hid (RdReq w6 r h) := (unhide Qrw5).mono hbw6
  have Qgw6 : Hid (ErrT w6) := (unhide Qgw5).later hbw6
  have Qww6 : Hid (Rd2 w6 (some ⟨g3, 0, none⟩) (groupsR r).length (groupsR r)) := Rd2.mono (unhide Qww5) hbw6
  have Qpw6 : Hid (Rd w6 (some ⟨g1, 0, none⟩) (presentR r).length (presentR r)) := Rd.mono (unhide Qpw5) hbw6
  clear Hw5 Kxw5 zxw5 Qrw5 Qgw5 Qww5 Qpw5
  clear hbw6
  have Qvw6 : Hid (Rd w6 (some ⟨g2, 0, none⟩) (presentR r).length (presentR r)) := Rd.of_owns ho2
  clear ho2
  have xw6_0 : w6.cell? ⟨w1.heap.size, 0, none⟩ = some (.int .i64 r.way) := ((unhide Kxw6) 0 (by simp)).1
  have xw6_1 : w6.cell? ⟨w1.heap.size, 1, none⟩ = some (.int .i64 r.pal.wd) := ((unhide Kxw6) 1 (by simp)).1
  have xw6_2 : w6.cell? ⟨w1.heap.size, 2, none⟩ = some (.int .i64 r.pal.dp) := ((unhide Kxw6) 2 (by simp)).1
  have xw6_3 : w6.cell? ⟨w1.heap.size, 3, none⟩ = some (.int .i64 r.pal.ht) := ((unhide Kxw6) 3 (by simp)).1
  have xw6_4 : w6.cell? ⟨w1.heap.size, 4, none⟩ = some (.int .i64 r.pal.gram) := ((unhide Kxw6) 4 (by simp)).1
  have xw6_5 : w6.cell? ⟨w1.heap.size, 5, none⟩ = some (.int .i64 r.classes) := ((unhide Kxw6) 5 (by simp)).1
  have xw6_6 : w6.cell? ⟨w1.heap.size, 6, none⟩ = some (.slice h.ap r.pairs.length h.cp) := ((unhide Kxw6) 6 (by simp)).1
  have xw6_7 : w6.cell? ⟨w1.heap.size, 7, none⟩ = some (.slice h.at' r.types.length h.ct) := ((unhide Kxw6) 7 (by simp)).1
  have xw6_8 : w6.cell? ⟨w1.heap.size, 8, none⟩ = some (.int .i64 r.master) := ((unhide Kxw6) 8 (by simp)).1
  have xw6_9 : w6.cell? ⟨w1.heap.size, 9, none⟩ = some (.slice h.ai r.items.length h.ci) := ((unhide Kxw6) 9 (by simp)).1
  go_wp2_with fail
  refine (sameInts_same _ _ _ _ _ (presentR r) _ (unhide Qpw6) (unhide Qvw6) (by omega)).mono ?_
  rintro e w7 ⟨rfl, hbw7⟩
  clear xw6_0 xw6_1 xw6_2 xw6_3 xw6_4 xw6_5 xw6_6 xw6_7 xw6_8 xw6_9
  have Hw7 : Hid (Below w.heap.size w w7) := (unhide Hw6).trans (hbw7.mono (unhide Hw6).size)
  have Kxw7 := hide (Blk.below hbw7 zxw6 (unhide Kxw6))
  have zxw7 : w1.heap.size < w7.heap.size := Nat.lt_of_lt_of_le zxw6 hbw7.size
  have Qrw7 : Hid (RdReq w7 r h) := (unhide Qrw6).mono hbw7
  have Qgw7 : Hid (ErrT w7) := (unhide Qgw6).later hbw7
  have Qww7 : Hid (Rd2 w7 (some ⟨g3, 0, none⟩) (groupsR r).length (groupsR r)) := Rd2.mono (unhide Qww6) hbw7
  have Qpw7 : Hid (Rd w7 (some ⟨g1, 0, none⟩) (presentR r).length (presentR r)) := Rd.mono (unhide Qpw6) hbw7
  have Qvw7 : Hid (Rd w7 (some ⟨g2, 0, none⟩) (presentR r).length (presentR r)) := Rd.mono (unhide Qvw6) hbw7
  clear Hw6 Kxw6 zxw6 Qrw6 Qgw6 Qww6 Qpw6 Qvw6
  clear hbw7
  clear Qvw7
  have n1 : ¬ ((presentR r).length : Int) < ((groupsR r).length : Int) := by have := groups_le_present r; omega
  have n3 : ¬ ((unitsR r).length : Int) < ((groupsR r).length : Int) := by have := groups_le_units r; omega
  have HPC := hide (fun e => present_classes (r := r) e)
  clear hne
  by_cases n2 : r.classes < ((presentR r).length : Int)
  case pos =>
    have xw7_0 : w7.cell? ⟨w1.heap.size, 0, none⟩ = some (.int .i64 r.way) := ((unhide Kxw7) 0 (by simp)).1
    have xw7_1 : w7.cell? ⟨w1.heap.size, 1, none⟩ = some (.int .i64 r.pal.wd) := ((unhide Kxw7) 1 (by simp)).1
    have xw7_2 : w7.cell? ⟨w1.heap.size, 2, none⟩ = some (.int .i64 r.pal.dp) := ((unhide Kxw7) 2 (by simp)).1
    have xw7_3 : w7.cell? ⟨w1.heap.size, 3, none⟩ = some (.int .i64 r.pal.ht) := ((unhide Kxw7) 3 (by simp)).1
    have xw7_4 : w7.cell? ⟨w1.heap.size, 4, none⟩ = some (.int .i64 r.pal.gram) := ((unhide Kxw7) 4 (by simp)).1
    have xw7_5 : w7.cell? ⟨w1.heap.size, 5, none⟩ = some (.int .i64 r.classes) := ((unhide Kxw7) 5 (by simp)).1
    have xw7_6 : w7.cell? ⟨w1.heap.size, 6, none⟩ = some (.slice h.ap r.pairs.length h.cp) := ((unhide Kxw7) 6 (by simp)).1
    have xw7_7 : w7.cell? ⟨w1.heap.size, 7, none⟩ = some (.slice h.at' r.types.length h.ct) := ((unhide Kxw7) 7 (by simp)).1
    have xw7_8 : w7.cell? ⟨w1.heap.size, 8, none⟩ = some (.int .i64 r.master) := ((unhide Kxw7) 8 (by simp)).1
    have xw7_9 : w7.cell? ⟨w1.heap.size, 9, none⟩ = some (.slice h.ai r.items.length h.ci) := ((unhide Kxw7) 9 (by simp)).1
    have hc0 : (classI r == 0) = false := by rw [beq_eq_false_iff_ne]; intro e; have := (unhide HPC) e; omega
    clear HPC
    go_wp2_with fail
    refine (specClass_any r h _ (unhide Qrw7) hsm).mono ?_
    rintro e w8 ⟨rfl, hbw8⟩
    clear xw7_0 xw7_1 xw7_2 xw7_3 xw7_4 xw7_5 xw7_6 xw7_7 xw7_8 xw7_9
    have Hw8 : Hid (Below w.heap.size w w8) := (unhide Hw7).trans (hbw8.mono (unhide Hw7).size)
    have Kxw8 := hide (Blk.below hbw8 zxw7 (unhide Kxw7))
    have zxw8 : w1.heap.size < w8.heap.size := Nat.lt_of_lt_of_le zxw7 hbw8.size
    have Qrw8 : Hid (RdReq w8 r h) := (unhide Qrw7).mono hbw8
    have Qgw8 : Hid (ErrT w8) := (unhide Qgw7).later hbw8
    have Qww8 : Hid (Rd2 w8 (some ⟨g3, 0, none⟩) (groupsR r).length (groupsR r)) := Rd2.mono (unhide Qww7) hbw8
    have Qpw8 : Hid (Rd w8 (some ⟨g1, 0, none⟩) (presentR r).length (presentR r)) := Rd.mono (unhide Qpw7) hbw8
    clear Hw7 Kxw7 zxw7 Qrw7 Qgw7 Qww7 Qpw7
    clear hbw8
    have xw8_0 : w8.cell? ⟨w1.heap.size, 0, none⟩ = some (.int .i64 r.way) := ((unhide Kxw8) 0 (by simp)).1
    have xw8_1 : w8.cell? ⟨w1.heap.size, 1, none⟩ = some (.int .i64 r.pal.wd) := ((unhide Kxw8) 1 (by simp)).1
    have xw8_2 : w8.cell? ⟨w1.heap.size, 2, none⟩ = some (.int .i64 r.pal.dp) := ((unhide Kxw8) 2 (by simp)).1
    have xw8_3 : w8.cell? ⟨w1.heap.size, 3, none⟩ = some (.int .i64 r.pal.ht) := ((unhide Kxw8) 3 (by simp)).1
    have xw8_4 : w8.cell? ⟨w1.heap.size, 4, none⟩ = some (.int .i64 r.pal.gram) := ((unhide Kxw8) 4 (by simp)).1
    have xw8_5 : w8.cell? ⟨w1.heap.size, 5, none⟩ = some (.int .i64 r.classes) := ((unhide Kxw8) 5 (by simp)).1
    have xw8_6 : w8.cell? ⟨w1.heap.size, 6, none⟩ = some (.slice h.ap r.pairs.length h.cp) := ((unhide Kxw8) 6 (by simp)).1
    have xw8_7 : w8.cell? ⟨w1.heap.size, 7, none⟩ = some (.slice h.at' r.types.length h.ct) := ((unhide Kxw8) 7 (by simp)).1
    have xw8_8 : w8.cell? ⟨w1.heap.size, 8, none⟩ = some (.int .i64 r.master) := ((unhide Kxw8) 8 (by simp)).1
    have xw8_9 : w8.cell? ⟨w1.heap.size, 9, none⟩ = some (.slice h.ai r.items.length h.ci) := ((unhide Kxw8) 9 (by simp)).1
    go_wp2_with fail
    refine (units_any r h _ (unhide Qrw8) hsm (unhide Qgw8)).mono ?_
    rintro e w9 ⟨gz, capz, rfl, hoz, hbw9⟩
    clear xw8_0 xw8_1 xw8_2 xw8_3 xw8_4 xw8_5 xw8_6 xw8_7 xw8_8 xw8_9
    have Hw9 : Hid (Below w.heap.size w w9) := (unhide Hw8).trans (hbw9.mono (unhide Hw8).size)
    have Kxw9 := hide (Blk.below hbw9 zxw8 (unhide Kxw8))
    have zxw9 : w1.heap.size < w9.heap.size := Nat.lt_of_lt_of_le zxw8 hbw9.size
    have Qrw9 : Hid (RdReq w9 r h) := (unhide Qrw8).mono hbw9
    have Qgw9 : Hid (ErrT w9) := (unhide Qgw8).later hbw9
    have Qww9 : Hid (Rd2 w9 (some ⟨g3, 0, none⟩) (groupsR r).length (groupsR r)) := Rd2.mono (unhide Qww8) hbw9
    have Qpw9 : Hid (Rd w9 (some ⟨g1, 0, none⟩) (presentR r).length (presentR r)) := Rd.mono (unhide Qpw8) hbw9
    clear Hw8 Kxw8 zxw8 Qrw8 Qgw8 Qww8 Qpw8
    clear hbw9
    clear hoz
    have xw9_0 : w9.cell? ⟨w1.heap.size, 0, none⟩ = some (.int .i64 r.way) := ((unhide Kxw9) 0 (by simp)).1
    have xw9_1 : w9.cell? ⟨w1.heap.size, 1, none⟩ = some (.int .i64 r.pal.wd) := ((unhide Kxw9) 1 (by simp)).1
    have xw9_2 : w9.cell? ⟨w1.heap.size, 2, none⟩ = some (.int .i64 r.pal.dp) := ((unhide Kxw9) 2 (by simp)).1
    have xw9_3 : w9.cell? ⟨w1.heap.size, 3, none⟩ = some (.int .i64 r.pal.ht) := ((unhide Kxw9) 3 (by simp)).1
    have xw9_4 : w9.cell? ⟨w1.heap.size, 4, none⟩ = some (.int .i64 r.pal.gram) := ((unhide Kxw9) 4 (by simp)).1
    have xw9_5 : w9.cell? ⟨w1.heap.size, 5, none⟩ = some (.int .i64 r.classes) := ((unhide Kxw9) 5 (by simp)).1
    have xw9_6 : w9.cell? ⟨w1.heap.size, 6, none⟩ = some (.slice h.ap r.pairs.length h.cp) := ((unhide Kxw9) 6 (by simp)).1
    have xw9_7 : w9.cell? ⟨w1.heap.size, 7, none⟩ = some (.slice h.at' r.types.length h.ct) := ((unhide Kxw9) 7 (by simp)).1
    have xw9_8 : w9.cell? ⟨w1.heap.size, 8, none⟩ = some (.int .i64 r.master) := ((unhide Kxw9) 8 (by simp)).1
    have xw9_9 : w9.cell? ⟨w1.heap.size, 9, none⟩ = some (.slice h.ai r.items.length h.ci) := ((unhide Kxw9) 9 (by simp)).1
    go_wp2_with fail
    refine (units_any r h _ (unhide Qrw9) hsm (unhide Qgw9)).mono ?_
    rintro e w10 ⟨g7, cap7, rfl, ho7, hbw10⟩
    clear xw9_0 xw9_1 xw9_2 xw9_3 xw9_4 xw9_5 xw9_6 xw9_7 xw9_8 xw9_9
    have Hw10 : Hid (Below w.heap.size w w10) := (unhide Hw9).trans (hbw10.mono (unhide Hw9).size)
    have Kxw10 := hide (Blk.below hbw10 zxw9 (unhide Kxw9))
    have zxw10 : w1.heap.size < w10.heap.size := Nat.lt_of_lt_of_le zxw9 hbw10.size
    have Qrw10 : Hid (RdReq w10 r h) := (unhide Qrw9).mono hbw10
    have Qgw10 : Hid (ErrT w10) := (unhide Qgw9).later hbw10
    have Qww10 : Hid (Rd2 w10 (some ⟨g3, 0, none⟩) (groupsR r).length (groupsR r)) := Rd2.mono (unhide Qww9) hbw10
    have Qpw10 : Hid (Rd w10 (some ⟨g1, 0, none⟩) (presentR r).length (presentR r)) := Rd.mono (unhide Qpw9) hbw10
    clear Hw9 Kxw9 zxw9 Qrw9 Qgw9 Qww9 Qpw9
    clear hbw10
    have Quw10 : Hid (Rd w10 (some ⟨g7, 0, none⟩) (unitsR r).length (unitsR r)) := Rd.of_owns ho7
    clear ho7
    go_wp2
    go_loopw [7] (fun i wr => ∃ k : Nat, k ≤ (presentR r).length ∧ i = .int .i64 k ∧ Below w10.heap.size w10 wr) (fun i _ => (presentR r).length - (intOf i).toNat)
    case atStart => exact ⟨0, Nat.zero_le _, rfl, Below.refl _ _⟩
    case round =>
      obtain ⟨k, hk, rfl, hbel⟩ := hrel
      have HB := hide hbel
      have hsz := hbel.size
      clear hbel
      by_cases hlk : k < (presentR r).length
      · have HC0 := hide (present_class hlk)
        have hp0 := ((unhide Qpw10).mono (unhide HB)).at0 k hlk
        have HPC := hide (((unhide Qpw10).mono (unhide HB)).at0 k hlk)
        obtain ⟨kk, hk1, hk2⟩ := kind_hit r ((presentR r).getD k 0) (getD_in hlk)
        obtain ⟨cv, hcv⟩ : ∃ cv, (presentR r).getD k 0 = cv := ⟨_, rfl⟩
        rw [hcv] at hp0 HPC hk1 hk2
        have HK1 := hide hk1
        have HK2 := hide hk2
        clear hk1 hk2 hcv
        go_wp2_with fail
        refine (groupOf_any _ _ cap3 (groupsR r) cv wr ((unhide Qww10).mono (unhide HB)) (by omega) (fun i hi => by have := groupsR_row r i hi; omega)).mono ?_
        rintro e wk ⟨rfl, rfl⟩
        rw [unhide HK1]
        clear hp0
        have KXx := hide (Blk.below (unhide HB) zxw10 (unhide Kxw10))
        have x0 : wk.cell? ⟨w1.heap.size, 0, none⟩ = some (.int .i64 r.way) := ((unhide KXx) 0 (by simp)).1
        have x1 : wk.cell? ⟨w1.heap.size, 1, none⟩ = some (.int .i64 r.pal.wd) := ((unhide KXx) 1 (by simp)).1
        have x2 : wk.cell? ⟨w1.heap.size, 2, none⟩ = some (.int .i64 r.pal.dp) := ((unhide KXx) 2 (by simp)).1
        have x3 : wk.cell? ⟨w1.heap.size, 3, none⟩ = some (.int .i64 r.pal.ht) := ((unhide KXx) 3 (by simp)).1
        have x4 : wk.cell? ⟨w1.heap.size, 4, none⟩ = some (.int .i64 r.pal.gram) := ((unhide KXx) 4 (by simp)).1
        have x5 : wk.cell? ⟨w1.heap.size, 5, none⟩ = some (.int .i64 r.classes) := ((unhide KXx) 5 (by simp)).1
        have x6 : wk.cell? ⟨w1.heap.size, 6, none⟩ = some (.slice h.ap r.pairs.length h.cp) := ((unhide KXx) 6 (by simp)).1
        have x7 : wk.cell? ⟨w1.heap.size, 7, none⟩ = some (.slice h.at' r.types.length h.ct) := ((unhide KXx) 7 (by simp)).1
        have x8 : wk.cell? ⟨w1.heap.size, 8, none⟩ = some (.int .i64 r.master) := ((unhide KXx) 8 (by simp)).1
        have x9 : wk.cell? ⟨w1.heap.size, 9, none⟩ = some (.slice h.ai r.items.length h.ci) := ((unhide KXx) 9 (by simp)).1
        go_wp2_with fail
        refine (unitsOf_opt r h (kk : Int) wk ((unhide Qrw10).mono (unhide HB)) hsm ((unhide Qgw10).later (unhide HB))).mono ?_
        rintro e wo ⟨a1, cap1, rfl, hou, hbu⟩
        clear x0 x1 x2 x3 x4 x5 x6 x7 x8 x9
        have HBo := hide ((unhide HB).trans (hbu.mono hsz))
        have hszo : w10.heap.size ≤ wo.heap.size := (unhide HBo).size
        have HUS := hide hou.read
        have HPo := hide (cell_below hbu (unhide HPC))
        have HAT := hide (unitsOf_at r kk)
        obtain ⟨us, hus⟩ : ∃ us, unitsOfR r (kk : Int) = us := ⟨_, rfl⟩
        have hN := unitsOfR_len r (kk : Int)
        rw [hus] at HK2 HUS HAT hN ⊢
        clear hou hbu hus HPC HK1
        go_wp2
        go_loopw [9, 11] (fun ht ui wr => ∃ j : Nat, j ≤ us.length ∧ ui = .int .i64 j ∧ ht = .bool ((us.take j).any fun u => clsAt r u == cv) ∧ Below wo.heap.size wo wr) (fun _ ui _ => us.length - (intOf ui).toNat)
        case atStart => exact ⟨0, Nat.zero_le _, rfl, rfl, Below.refl _ _⟩
        case round =>
          obtain ⟨j, hj, rfl, rfl, hbq⟩ := hrel
          have HQ := hide hbq
          clear hbq
          by_cases hlj : j < us.length
          · have HST := hide (any_take (fun u => clsAt r u == cv) us j hlj)
            cases hb : (us.take j).any fun u => clsAt r u == cv
            · obtain ⟨u, hu, hul⟩ := (unhide HAT) j hlj
              obtain ⟨ii, hie, hil, hic⟩ := unit_item (unhide HC0) u hul
              have HBr := hide ((unhide HBo).trans ((unhide HQ).mono hszo))
              obtain ⟨bu, ou, hau, hcu⟩ := (unhide HUS).2 j hlj
              have hcu' : wr.cell? ⟨bu, ou + j, none⟩ = some (.int .i64 (u : Int)) := by rw [← hu]; exact cell_below (unhide HQ) hcu
              have hcp : wr.cell? ⟨g1, k, none⟩ = some (.int .i64 cv) := cell_below (unhide HQ) (unhide HPo)
              have hcz : wr.cell? ⟨g7, u, none⟩ = some (.int .i64 (ii : Int)) := by rw [← hie]; exact ((unhide Quw10).mono (unhide HBr)).at0 u hul
              obtain ⟨bi, oi, hai, hcc⟩ := item_cls ((unhide Qrw10).mono (unhide HBr)) ii hil
              have KX9 := hide (Blk.below (unhide HBr) zxw10 (unhide Kxw10))
              have x9 : wr.cell? ⟨w1.heap.size, 9, none⟩ = some (.slice (some ⟨bi, oi, none⟩) r.items.length h.ci) := by rw [← hai]; exact ((unhide KX9) 9 (by simp)).1
              have HR : Hid ((us.take (j + 1)).any (fun u => clsAt r u == cv) = ((r.items.getD ii default).cls == cv)) := by
                rw [unhide HST, hb, hu, hic]; rfl
              obtain ⟨y, hy⟩ : ∃ y, (r.items.getD ii default).cls = y := ⟨_, rfl⟩
              rw [hy] at hcc HR
              have d1 : decide ((0 : Int) ≤ (u : Int)) = true := by simp
              have d2 : decide ((u : Int) < ((unitsR r).length : Int)) = true := by simpa using hul
              have d3 : (0 : Int) ≤ (u : Int) := by omega
              have d4 : (u : Int) < ((unitsR r).length : Int) := by omega
              subst hau
              clear hcu hai hu hie hic hy HST KX9
              go_wp2
              go_quiet (fail)
              go_wp2
              go_roundw
              case rel => exact ⟨j + 1, by omega, by go_num, by rw [unhide HR], below_drewN (unhide HQ) _⟩
              case measure => simp [intOf]; omega
            · have HR : Hid ((us.take (j + 1)).any (fun u => clsAt r u == cv) = true) := by rw [unhide HST, hb]; rfl
              clear HST
              go_wp2
              go_quiet (fail)
              go_wp2
              go_roundw
              case rel => exact ⟨j + 1, by omega, by go_num, by rw [unhide HR], below_drewN (unhide HQ) _⟩
              case measure => simp [intOf]; omega
          · have hje : (us.take j).any (fun u => clsAt r u == cv) = true := by rw [List.take_of_length_le (by omega)]; exact unhide HK2
            rw [hje]
            go_wp2
            go_roundw
            case rel => exact ⟨k + 1, by omega, by go_num, (unhide HBo).trans ((unhide HQ).mono hszo)⟩
            case measure => simp [intOf]; omega
      · go_wp2
        go_ret
        exact ⟨rfl, (unhide Hw10).trans ((unhide HB).mono (unhide Hw10).size)⟩
  case neg =>
    have xw7_0 : w7.cell? ⟨w1.heap.size, 0, none⟩ = some (.int .i64 r.way) := ((unhide Kxw7) 0 (by simp)).1
    have xw7_1 : w7.cell? ⟨w1.heap.size, 1, none⟩ = some (.int .i64 r.pal.wd) := ((unhide Kxw7) 1 (by simp)).1
    have xw7_2 : w7.cell? ⟨w1.heap.size, 2, none⟩ = some (.int .i64 r.pal.dp) := ((unhide Kxw7) 2 (by simp)).1
    have xw7_3 : w7.cell? ⟨w1.heap.size, 3, none⟩ = some (.int .i64 r.pal.ht) := ((unhide Kxw7) 3 (by simp)).1
    have xw7_4 : w7.cell? ⟨w1.heap.size, 4, none⟩ = some (.int .i64 r.pal.gram) := ((unhide Kxw7) 4 (by simp)).1
    have xw7_5 : w7.cell? ⟨w1.heap.size, 5, none⟩ = some (.int .i64 r.classes) := ((unhide Kxw7) 5 (by simp)).1
    have xw7_6 : w7.cell? ⟨w1.heap.size, 6, none⟩ = some (.slice h.ap r.pairs.length h.cp) := ((unhide Kxw7) 6 (by simp)).1
    have xw7_7 : w7.cell? ⟨w1.heap.size, 7, none⟩ = some (.slice h.at' r.types.length h.ct) := ((unhide Kxw7) 7 (by simp)).1
    have xw7_8 : w7.cell? ⟨w1.heap.size, 8, none⟩ = some (.int .i64 r.master) := ((unhide Kxw7) 8 (by simp)).1
    have xw7_9 : w7.cell? ⟨w1.heap.size, 9, none⟩ = some (.slice h.ai r.items.length h.ci) := ((unhide Kxw7) 9 (by simp)).1
    clear HPC
    go_wp2_with fail
    refine (units_any r h _ (unhide Qrw7) hsm (unhide Qgw7)).mono ?_
    rintro e w8 ⟨gz, capz, rfl, hoz, hbw8⟩
    clear xw7_0 xw7_1 xw7_2 xw7_3 xw7_4 xw7_5 xw7_6 xw7_7 xw7_8 xw7_9
    have Hw8 : Hid (Below w.heap.size w w8) := (unhide Hw7).trans (hbw8.mono (unhide Hw7).size)
    have Kxw8 := hide (Blk.below hbw8 zxw7 (unhide Kxw7))
    have zxw8 : w1.heap.size < w8.heap.size := Nat.lt_of_lt_of_le zxw7 hbw8.size
    have Qrw8 : Hid (RdReq w8 r h) := (unhide Qrw7).mono hbw8
    have Qgw8 : Hid (ErrT w8) := (unhide Qgw7).later hbw8
    have Qww8 : Hid (Rd2 w8 (some ⟨g3, 0, none⟩) (groupsR r).length (groupsR r)) := Rd2.mono (unhide Qww7) hbw8
    have Qpw8 : Hid (Rd w8 (some ⟨g1, 0, none⟩) (presentR r).length (presentR r)) := Rd.mono (unhide Qpw7) hbw8
    clear Hw7 Kxw7 zxw7 Qrw7 Qgw7 Qww7 Qpw7
    clear hbw8
    clear hoz
    have xw8_0 : w8.cell? ⟨w1.heap.size, 0, none⟩ = some (.int .i64 r.way) := ((unhide Kxw8) 0 (by simp)).1
    have xw8_1 : w8.cell? ⟨w1.heap.size, 1, none⟩ = some (.int .i64 r.pal.wd) := ((unhide Kxw8) 1 (by simp)).1
    have xw8_2 : w8.cell? ⟨w1.heap.size, 2, none⟩ = some (.int .i64 r.pal.dp) := ((unhide Kxw8) 2 (by simp)).1
    have xw8_3 : w8.cell? ⟨w1.heap.size, 3, none⟩ = some (.int .i64 r.pal.ht) := ((unhide Kxw8) 3 (by simp)).1
    have xw8_4 : w8.cell? ⟨w1.heap.size, 4, none⟩ = some (.int .i64 r.pal.gram) := ((unhide Kxw8) 4 (by simp)).1
    have xw8_5 : w8.cell? ⟨w1.heap.size, 5, none⟩ = some (.int .i64 r.classes) := ((unhide Kxw8) 5 (by simp)).1
    have xw8_6 : w8.cell? ⟨w1.heap.size, 6, none⟩ = some (.slice h.ap r.pairs.length h.cp) := ((unhide Kxw8) 6 (by simp)).1
    have xw8_7 : w8.cell? ⟨w1.heap.size, 7, none⟩ = some (.slice h.at' r.types.length h.ct) := ((unhide Kxw8) 7 (by simp)).1
    have xw8_8 : w8.cell? ⟨w1.heap.size, 8, none⟩ = some (.int .i64 r.master) := ((unhide Kxw8) 8 (by simp)).1
    have xw8_9 : w8.cell? ⟨w1.heap.size, 9, none⟩ = some (.slice h.ai r.items.length h.ci) := ((unhide Kxw8) 9 (by simp)).1
    go_wp2_with fail
    refine (units_any r h _ (unhide Qrw8) hsm (unhide Qgw8)).mono ?_
    rintro e w9 ⟨g7, cap7, rfl, ho7, hbw9⟩
    clear xw8_0 xw8_1 xw8_2 xw8_3 xw8_4 xw8_5 xw8_6 xw8_7 xw8_8 xw8_9
    have Hw9 : Hid (Below w.heap.size w w9) := (unhide Hw8).trans (hbw9.mono (unhide Hw8).size)
    have Kxw9 := hide (Blk.below hbw9 zxw8 (unhide Kxw8))
    have zxw9 : w1.heap.size < w9.heap.size := Nat.lt_of_lt_of_le zxw8 hbw9.size
    have Qrw9 : Hid (RdReq w9 r h) := (unhide Qrw8).mono hbw9
    have Qgw9 : Hid (ErrT w9) := (unhide Qgw8).later hbw9
    have Qww9 : Hid (Rd2 w9 (some ⟨g3, 0, none⟩) (groupsR r).length (groupsR r)) := Rd2.mono (unhide Qww8) hbw9
    have Qpw9 : Hid (Rd w9 (some ⟨g1, 0, none⟩) (presentR r).length (presentR r)) := Rd.mono (unhide Qpw8) hbw9
    clear Hw8 Kxw8 zxw8 Qrw8 Qgw8 Qww8 Qpw8
    clear hbw9
    have Quw9 : Hid (Rd w9 (some ⟨g7, 0, none⟩) (unitsR r).length (unitsR r)) := Rd.of_owns ho7
    clear ho7
    go_wp2
    go_loopw [7] (fun i wr => ∃ k : Nat, k ≤ (presentR r).length ∧ i = .int .i64 k ∧ Below w9.heap.size w9 wr) (fun i _ => (presentR r).length - (intOf i).toNat)
    case atStart => exact ⟨0, Nat.zero_le _, rfl, Below.refl _ _⟩
    case round =>
      obtain ⟨k, hk, rfl, hbel⟩ := hrel
      have HB := hide hbel
      have hsz := hbel.size
      clear hbel
      by_cases hlk : k < (presentR r).length
      · have HC0 := hide (present_class hlk)
        have hp0 := ((unhide Qpw9).mono (unhide HB)).at0 k hlk
        have HPC := hide (((unhide Qpw9).mono (unhide HB)).at0 k hlk)
        obtain ⟨kk, hk1, hk2⟩ := kind_hit r ((presentR r).getD k 0) (getD_in hlk)
        obtain ⟨cv, hcv⟩ : ∃ cv, (presentR r).getD k 0 = cv := ⟨_, rfl⟩
        rw [hcv] at hp0 HPC hk1 hk2
        have HK1 := hide hk1
        have HK2 := hide hk2
        clear hk1 hk2 hcv
        go_wp2_with fail
        refine (groupOf_any _ _ cap3 (groupsR r) cv wr ((unhide Qww9).mono (unhide HB)) (by omega) (fun i hi => by have := groupsR_row r i hi; omega)).mono ?_
        rintro e wk ⟨rfl, rfl⟩
        rw [unhide HK1]
        clear hp0
        have KXx := hide (Blk.below (unhide HB) zxw9 (unhide Kxw9))
        have x0 : wk.cell? ⟨w1.heap.size, 0, none⟩ = some (.int .i64 r.way) := ((unhide KXx) 0 (by simp)).1
        have x1 : wk.cell? ⟨w1.heap.size, 1, none⟩ = some (.int .i64 r.pal.wd) := ((unhide KXx) 1 (by simp)).1
        have x2 : wk.cell? ⟨w1.heap.size, 2, none⟩ = some (.int .i64 r.pal.dp) := ((unhide KXx) 2 (by simp)).1
        have x3 : wk.cell? ⟨w1.heap.size, 3, none⟩ = some (.int .i64 r.pal.ht) := ((unhide KXx) 3 (by simp)).1
        have x4 : wk.cell? ⟨w1.heap.size, 4, none⟩ = some (.int .i64 r.pal.gram) := ((unhide KXx) 4 (by simp)).1
        have x5 : wk.cell? ⟨w1.heap.size, 5, none⟩ = some (.int .i64 r.classes) := ((unhide KXx) 5 (by simp)).1
        have x6 : wk.cell? ⟨w1.heap.size, 6, none⟩ = some (.slice h.ap r.pairs.length h.cp) := ((unhide KXx) 6 (by simp)).1
        have x7 : wk.cell? ⟨w1.heap.size, 7, none⟩ = some (.slice h.at' r.types.length h.ct) := ((unhide KXx) 7 (by simp)).1
        have x8 : wk.cell? ⟨w1.heap.size, 8, none⟩ = some (.int .i64 r.master) := ((unhide KXx) 8 (by simp)).1
        have x9 : wk.cell? ⟨w1.heap.size, 9, none⟩ = some (.slice h.ai r.items.length h.ci) := ((unhide KXx) 9 (by simp)).1
        go_wp2_with fail
        refine (unitsOf_opt r h (kk : Int) wk ((unhide Qrw9).mono (unhide HB)) hsm ((unhide Qgw9).later (unhide HB))).mono ?_
        rintro e wo ⟨a1, cap1, rfl, hou, hbu⟩
        clear x0 x1 x2 x3 x4 x5 x6 x7 x8 x9
        have HBo := hide ((unhide HB).trans (hbu.mono hsz))
        have hszo : w9.heap.size ≤ wo.heap.size := (unhide HBo).size
        have HUS := hide hou.read
        have HPo := hide (cell_below hbu (unhide HPC))
        have HAT := hide (unitsOf_at r kk)
        obtain ⟨us, hus⟩ : ∃ us, unitsOfR r (kk : Int) = us := ⟨_, rfl⟩
        have hN := unitsOfR_len r (kk : Int)
        rw [hus] at HK2 HUS HAT hN ⊢
        clear hou hbu hus HPC HK1
        go_wp2
        go_loopw [9, 11] (fun ht ui wr => ∃ j : Nat, j ≤ us.length ∧ ui = .int .i64 j ∧ ht = .bool ((us.take j).any fun u => clsAt r u == cv) ∧ Below wo.heap.size wo wr) (fun _ ui _ => us.length - (intOf ui).toNat)
        case atStart => exact ⟨0, Nat.zero_le _, rfl, rfl, Below.refl _ _⟩
        case round =>
          obtain ⟨j, hj, rfl, rfl, hbq⟩ := hrel
          have HQ := hide hbq
          clear hbq
          by_cases hlj : j < us.length
          · have HST := hide (any_take (fun u => clsAt r u == cv) us j hlj)
            cases hb : (us.take j).any fun u => clsAt r u == cv
            · obtain ⟨u, hu, hul⟩ := (unhide HAT) j hlj
              obtain ⟨ii, hie, hil, hic⟩ := unit_item (unhide HC0) u hul
              have HBr := hide ((unhide HBo).trans ((unhide HQ).mono hszo))
              obtain ⟨bu, ou, hau, hcu⟩ := (unhide HUS).2 j hlj
              have hcu' : wr.cell? ⟨bu, ou + j, none⟩ = some (.int .i64 (u : Int)) := by rw [← hu]; exact cell_below (unhide HQ) hcu
              have hcp : wr.cell? ⟨g1, k, none⟩ = some (.int .i64 cv) := cell_below (unhide HQ) (unhide HPo)
              have hcz : wr.cell? ⟨g7, u, none⟩ = some (.int .i64 (ii : Int)) := by rw [← hie]; exact ((unhide Quw9).mono (unhide HBr)).at0 u hul
              obtain ⟨bi, oi, hai, hcc⟩ := item_cls ((unhide Qrw9).mono (unhide HBr)) ii hil
              have KX9 := hide (Blk.below (unhide HBr) zxw9 (unhide Kxw9))
              have x9 : wr.cell? ⟨w1.heap.size, 9, none⟩ = some (.slice (some ⟨bi, oi, none⟩) r.items.length h.ci) := by rw [← hai]; exact ((unhide KX9) 9 (by simp)).1
              have HR : Hid ((us.take (j + 1)).any (fun u => clsAt r u == cv) = ((r.items.getD ii default).cls == cv)) := by
                rw [unhide HST, hb, hu, hic]; rfl
              obtain ⟨y, hy⟩ : ∃ y, (r.items.getD ii default).cls = y := ⟨_, rfl⟩
              rw [hy] at hcc HR
              have d1 : decide ((0 : Int) ≤ (u : Int)) = true := by simp
              have d2 : decide ((u : Int) < ((unitsR r).length : Int)) = true := by simpa using hul
              have d3 : (0 : Int) ≤ (u : Int) := by omega
              have d4 : (u : Int) < ((unitsR r).length : Int) := by omega
              subst hau
              clear hcu hai hu hie hic hy HST KX9
              go_wp2
              go_quiet (fail)
              go_wp2
              go_roundw
              case rel => exact ⟨j + 1, by omega, by go_num, by rw [unhide HR], below_drewN (unhide HQ) _⟩
              case measure => simp [intOf]; omega
            · have HR : Hid ((us.take (j + 1)).any (fun u => clsAt r u == cv) = true) := by rw [unhide HST, hb]; rfl
              clear HST
              go_wp2
              go_quiet (fail)
              go_wp2
              go_roundw
              case rel => exact ⟨j + 1, by omega, by go_num, by rw [unhide HR], below_drewN (unhide HQ) _⟩
              case measure => simp [intOf]; omega
          · have hje : (us.take j).any (fun u => clsAt r u == cv) = true := by rw [List.take_of_length_le (by omega)]; exact unhide HK2
            rw [hje]
            go_wp2
            go_roundw
            case rel => exact ⟨k + 1, by omega, by go_num, (unhide HBo).trans ((unhide HQ).mono hszo)⟩
            case measure => simp [intOf]; omega
      · go_wp2
        go_ret
        exact ⟨rfl, (unhide Hw9).trans ((unhide HB).mono (unhide Hw9).size)⟩
end Go.Proofs.YtlakbnpinennnaaGreatDoor
