/- VolumeOf and GramOf of the model. -/
import Derived.Test.YtcblpoeeembniabGreatDoorVolOf
import Derived.Test.YtcblpoeeembniabGreatDoorSpecUnits
import Derived.Deep.DeepMust
import Derived.Deep.DeepCutAuto
namespace Go.Proofs.YtcblpoeeembniabGreatDoor
open Go.RowKit
set_option linter.unusedVariables false
set_option linter.unusedSimpArgs false

set_option maxRecDepth 100000 in
set_option maxHeartbeats 1000000 in
theorem l6Item_in (r : ReqV) (h : ReqH) (a : Option Addr) (n c : Nat) (u : Int) (w : World) (hr : RdReq w r h) (hu : Rd w a n (unitsR r)) :
 Calls Tryz.prog 69 #[reqVal r h, .slice a n c, .int .i64 u] w fun e w' => ∃ b, e = .returned (.tuple #[itemVal (itemAt (itemsR r) u), .bool b]) ∧ b = inB u 0 ((n : Int) - 1) ∧ Below w.heap.size w w' := by
 have hn12 : n ≤ 12 := by rw [← hu.1]; exact unitsR_len r
 have HR := hide hr
 have HU := hide hu
 have HLT := hide (rdr_lt7 ItemV.len hr.2.2)
 clear hr hu
 unfold reqVal
 go_enter Tryz.func69, Tryz.ntmps69
 go_wp2_with fail
 have KA : Hid (Blk ((w.alloc (.cells #[.int .i64 r.way, .int .i64 r.pal.wd, .int .i64 r.pal.dp, .int .i64 r.pal.ht, .int .i64 r.pal.gram, .int .i64 r.classes, .slice h.ap r.pairs.length h.cp, .slice h.at' r.types.length h.ct, .int .i64 r.master, .slice h.ai r.items.length h.ci] 41)).alloc (.cells #[.int .i64 0, .int .i64 0, .int .i64 0, .int .i64 0, .int .i64 0, .int .i64 0, .int .i64 0] 89)) w.heap.size [.int .i64 r.way, .int .i64 r.pal.wd, .int .i64 r.pal.dp, .int .i64 r.pal.ht, .int .i64 r.pal.gram, .int .i64 r.classes, .slice h.ap r.pairs.length h.cp, .slice h.at' r.types.length h.ct, .int .i64 r.master, .slice h.ai r.items.length h.ci]) := (Blk.allocAt [.int .i64 r.way, .int .i64 r.pal.wd, .int .i64 r.pal.dp, .int .i64 r.pal.ht, .int .i64 r.pal.gram, .int .i64 r.classes, .slice h.ap r.pairs.length h.cp, .slice h.at' r.types.length h.ct, .int .i64 r.master, .slice h.ai r.items.length h.ci] rfl).allocOld (by simp) _
 have KR : Hid (Blk ((w.alloc (.cells #[.int .i64 r.way, .int .i64 r.pal.wd, .int .i64 r.pal.dp, .int .i64 r.pal.ht, .int .i64 r.pal.gram, .int .i64 r.classes, .slice h.ap r.pairs.length h.cp, .slice h.at' r.types.length h.ct, .int .i64 r.master, .slice h.ai r.items.length h.ci] 41)).alloc (.cells #[.int .i64 0, .int .i64 0, .int .i64 0, .int .i64 0, .int .i64 0, .int .i64 0, .int .i64 0] 89)) (w.heap.size + 1) [.int .i64 0, .int .i64 0, .int .i64 0, .int .i64 0, .int .i64 0, .int .i64 0, .int .i64 0]) := Blk.allocAt [.int .i64 0, .int .i64 0, .int .i64 0, .int .i64 0, .int .i64 0, .int .i64 0, .int .i64 0] (by simp)
 have HB : Hid (Below w.heap.size w ((w.alloc (.cells #[.int .i64 r.way, .int .i64 r.pal.wd, .int .i64 r.pal.dp, .int .i64 r.pal.ht, .int .i64 r.pal.gram, .int .i64 r.classes, .slice h.ap r.pairs.length h.cp, .slice h.at' r.types.length h.ct, .int .i64 r.master, .slice h.ai r.items.length h.ci] 41)).alloc (.cells #[.int .i64 0, .int .i64 0, .int .i64 0, .int .i64 0, .int .i64 0, .int .i64 0, .int .i64 0] 89))) := ((Below.refl _ _).alloc (Nat.le_refl _) _).alloc (by simp) _
 have z1 : w.heap.size + 1 < ((w.alloc (.cells #[.int .i64 r.way, .int .i64 r.pal.wd, .int .i64 r.pal.dp, .int .i64 r.pal.ht, .int .i64 r.pal.gram, .int .i64 r.classes, .slice h.ap r.pairs.length h.cp, .slice h.at' r.types.length h.ct, .int .i64 r.master, .slice h.ai r.items.length h.ci] 41)).alloc (.cells #[.int .i64 0, .int .i64 0, .int .i64 0, .int .i64 0, .int .i64 0, .int .i64 0, .int .i64 0] 89)).heap.size := by simp
 generalize ((w.alloc (.cells #[.int .i64 r.way, .int .i64 r.pal.wd, .int .i64 r.pal.dp, .int .i64 r.pal.ht, .int .i64 r.pal.gram, .int .i64 r.classes, .slice h.ap r.pairs.length h.cp, .slice h.at' r.types.length h.ct, .int .i64 r.master, .slice h.ai r.items.length h.ci] 41)).alloc (.cells #[.int .i64 0, .int .i64 0, .int .i64 0, .int .i64 0, .int .i64 0, .int .i64 0, .int .i64 0] 89)) = w1 at *
 refine (l1In_any _ _ _ _).mono ?_
 rintro e w2 ⟨rfl, hw⟩
 subst w2
 obtain ⟨r0, rf0, r1, rf1, r2, rf2, r3, rf3, r4, rf4, r5, rf5, r6, rf6⟩ := Blk.cf7 KR.out
 cases hin : inB u 0 ((n : Int) - 1)
 · have HIT : Hid (itemAt (itemsR r) u = zeroItem) := itemAt_out (by rw [show (unitsL (itemsR r)).length = n from HU.out.1]; exact hin)
   go_wp2
   have hk := Blk.fill7 (b0 := .int .i64 0) (b1 := .int .i64 0) (b2 := .int .i64 0) (b3 := .int .i64 0) (b4 := .int .i64 0) (b5 := .int .i64 0) (b6 := .int .i64 0) KR.out
   have k0 := (hk 0 (by simp)).1
   have k1 := (hk 1 (by simp)).1
   have k2 := (hk 2 (by simp)).1
   have k3 := (hk 3 (by simp)).1
   have k4 := (hk 4 (by simp)).1
   have k5 := (hk 5 (by simp)).1
   have k6 := (hk 6 (by simp)).1
   refine bodyPost_ret (v := .tuple #[itemVal zeroItem, .bool false]) (by simp [results, Tryz.results69, go_sem, k0, k1, k2, k3, k4, k5, k6, itemVal, zeroItem]) rfl ?_
   exact ⟨false, by rw [unhide HIT], hin.symm, below7 HB.out (by omega) _ _ _ _ _ _ _⟩
 obtain ⟨v, rfl⟩ : ∃ v : Nat, u = (v : Int) := ⟨u.toNat, by rw [inB_iff] at hin; omega⟩
 have hvn : v < n := by rw [inB_iff] at hin; omega
 have hun : v < (unitsL (itemsR r)).length := by rw [show (unitsL (itemsR r)).length = n from HU.out.1]; exact hvn
 obtain ⟨p, hp, hpl⟩ := unitsL_lt (itemsR r) v hun
 have hcl : classI r = 0 := by
  by_cases e : classI r = 0
  · exact e
  · rw [itemsR_not e] at hpl
    simp at hpl
 have HIT : Hid (itemAt (itemsR r) (v : Int) = r.items.getD p default) := by rw [Hid, itemAt_in hun hp, itemsR_zero hcl]
 rw [itemsR_zero hcl] at hpl
 obtain ⟨ub, uoff, hua, huc⟩ := (HU.out.mono HB.out).2 v hvn
 rw [show (unitsR r).getD v 0 = (p : Int) from hp] at huc
 obtain ⟨b, off, ha, hc⟩ := (HR.out.mono HB.out).2.2.2 p hpl
 have a9 : w1.cell? ⟨w.heap.size, 9, none⟩ = some (.slice h.ai r.items.length h.ci) := (KA.out 9 (by simp)).1
 rw [ha] at a9
 subst hua
 generalize r.items.getD p default = q at hc HIT
 have d0 : w1.cell? ⟨b, off + p * 7, none⟩ = some (.int .i64 q.id) := hc 0 (by omega)
 have d1 : w1.cell? ⟨b, off + p * 7 + 1, none⟩ = some (.int .i64 q.wd) := hc 1 (by omega)
 have d2 : w1.cell? ⟨b, off + p * 7 + 2, none⟩ = some (.int .i64 q.ht) := hc 2 (by omega)
 have d3 : w1.cell? ⟨b, off + p * 7 + 3, none⟩ = some (.int .i64 q.dp) := hc 3 (by omega)
 have d4 : w1.cell? ⟨b, off + p * 7 + 4, none⟩ = some (.int .i64 q.gram) := hc 4 (by omega)
 have d5 : w1.cell? ⟨b, off + p * 7 + 5, none⟩ = some (.int .i64 q.cls) := hc 5 (by omega)
 have d6 : w1.cell? ⟨b, off + p * 7 + 6, none⟩ = some (.int .i64 q.cnt) := hc 6 (by omega)
 clear hc ha hp hcl hun HU HR
 go_wp2
 go_region
 all_goals
  go_wp2
  have hk := Blk.fill7 (b0 := .int .i64 q.id) (b1 := .int .i64 q.wd) (b2 := .int .i64 q.ht) (b3 := .int .i64 q.dp) (b4 := .int .i64 q.gram) (b5 := .int .i64 q.cls) (b6 := .int .i64 q.cnt) KR.out
  have hB7 := below7 HB.out (show w.heap.size ≤ w.heap.size + 1 by omega) (.int .i64 q.id) (.int .i64 q.wd) (.int .i64 q.ht) (.int .i64 q.dp) (.int .i64 q.gram) (.int .i64 q.cls) (.int .i64 q.cnt)
  generalize (((((((w1.setCell ⟨w.heap.size + 1, 0, none⟩ (.int .i64 q.id)).setCell ⟨w.heap.size + 1, 1, none⟩ (.int .i64 q.wd)).setCell ⟨w.heap.size + 1, 2, none⟩ (.int .i64 q.ht)).setCell ⟨w.heap.size + 1, 3, none⟩ (.int .i64 q.dp)).setCell ⟨w.heap.size + 1, 4, none⟩ (.int .i64 q.gram)).setCell ⟨w.heap.size + 1, 5, none⟩ (.int .i64 q.cls)).setCell ⟨w.heap.size + 1, 6, none⟩ (.int .i64 q.cnt)) = X at *
  obtain ⟨k0, k1, k2, k3, k4, k5, k6⟩ := Blk.cs7 hk
  refine bodyPost_ret (v := .tuple #[itemVal q, .bool true]) (by simp [results, Tryz.results69, go_sem, k0, k1, k2, k3, k4, k5, k6, itemVal]) rfl ?_
  exact ⟨true, by rw [unhide HIT], hin.symm, hB7.drew⟩
theorem l6Item_any (r : ReqV) (h : ReqH) (a : Option Addr) (n c : Nat) (u : Int) (w : World) (hr : RdReq w r h) (hu : Rd w a n (unitsR r)) :
 Calls Tryz.prog 69 #[reqVal r h, .slice a n c, .int .i64 u] w fun e w' => ∃ b, e = .returned (.tuple #[itemVal (itemAt (itemsR r) u), .bool b]) ∧ Below w.heap.size w w' :=
 (l6Item_in r h a n c u w hr hu).mono fun e w' ⟨b, h1, _, h2⟩ => ⟨b, h1, h2⟩


set_option maxRecDepth 100000 in
set_option maxHeartbeats 3000000 in
theorem specGramOf_any (r : ReqV) (h : ReqH) (a : Option Addr) (n c : Nat) (us : List Int) (w : World) (hr : RdReq w r h) (hs : r.small) (hu : Rd w a n us) (hn : n ≤ 1048600) :
 Calls Tryz.prog 53 #[reqVal r h, .slice a n c] w fun e w' => e = .returned (.int .i64 (gramOf (itemsR r) us)) ∧ Below w.heap.size w w' := by
 have HR := hide hr
 have HU := hide hu
 clear hr hu
 unfold reqVal
 go_enter Tryz.func53, Tryz.ntmps53
 go_wp2_with fail
 have KA : Hid (Blk (w.alloc (.cells #[.int .i64 r.way, .int .i64 r.pal.wd, .int .i64 r.pal.dp, .int .i64 r.pal.ht, .int .i64 r.pal.gram, .int .i64 r.classes, .slice h.ap r.pairs.length h.cp, .slice h.at' r.types.length h.ct, .int .i64 r.master, .slice h.ai r.items.length h.ci] 41)) w.heap.size [.int .i64 r.way, .int .i64 r.pal.wd, .int .i64 r.pal.dp, .int .i64 r.pal.ht, .int .i64 r.pal.gram, .int .i64 r.classes, .slice h.ap r.pairs.length h.cp, .slice h.at' r.types.length h.ct, .int .i64 r.master, .slice h.ai r.items.length h.ci]) := Blk.allocAt [.int .i64 r.way, .int .i64 r.pal.wd, .int .i64 r.pal.dp, .int .i64 r.pal.ht, .int .i64 r.pal.gram, .int .i64 r.classes, .slice h.ap r.pairs.length h.cp, .slice h.at' r.types.length h.ct, .int .i64 r.master, .slice h.ai r.items.length h.ci] rfl
 have HB : Hid (Below w.heap.size w (w.alloc (.cells #[.int .i64 r.way, .int .i64 r.pal.wd, .int .i64 r.pal.dp, .int .i64 r.pal.ht, .int .i64 r.pal.gram, .int .i64 r.classes, .slice h.ap r.pairs.length h.cp, .slice h.at' r.types.length h.ct, .int .i64 r.master, .slice h.ai r.items.length h.ci] 41))) := (Below.refl _ _).alloc (Nat.le_refl _) _
 have z1 : w.heap.size < (w.alloc (.cells #[.int .i64 r.way, .int .i64 r.pal.wd, .int .i64 r.pal.dp, .int .i64 r.pal.ht, .int .i64 r.pal.gram, .int .i64 r.classes, .slice h.ap r.pairs.length h.cp, .slice h.at' r.types.length h.ct, .int .i64 r.master, .slice h.ai r.items.length h.ci] 41)).heap.size := by simp
 generalize (w.alloc (.cells #[.int .i64 r.way, .int .i64 r.pal.wd, .int .i64 r.pal.dp, .int .i64 r.pal.ht, .int .i64 r.pal.gram, .int .i64 r.classes, .slice h.ap r.pairs.length h.cp, .slice h.at' r.types.length h.ct, .int .i64 r.master, .slice h.ai r.items.length h.ci] 41)) = w1 at *
 refine (specUnits_any r h w1 (HR.out.mono HB.out) hs).mono ?_
 rintro e w2 ⟨ug, uc, rfl, hu2, hb2⟩
 have UR := hide (Rd.of_owns hu2)
 have H2 := hide (HB.out.trans (hb2.mono HB.out.size))
 have K2 := hide (Blk.below hb2 z1 KA.out)
 have R2 := hide (HR.out.mono H2.out)
 have U2 := hide (HU.out.mono H2.out)
 have z2 : w.heap.size < w2.heap.size := Nat.lt_of_lt_of_le z1 hb2.size
 have hN12 := unitsR_len r
 clear hb2 hu2 HB KA HR HU z1
 generalize hN : (unitsR r).length = N at *
 clear hN
 go_wp2
 go_loopw [6, 7] (fun s i wr => ∃ (k : Nat) (t : Int), k ≤ n ∧ i = .int .i64 k ∧ s = .int .i64 t ∧ t = ((us.take k).map (gramAt (itemsR r))).sum ∧ Below w2.heap.size w2 wr) (fun _ i _ => n - (intOf i).toNat)
 case atStart => exact ⟨0, 0, Nat.zero_le _, rfl, rfl, by simp, Below.refl _ _⟩
 case round =>
  obtain ⟨k, t, hk, rfl, rfl, ht, hbel⟩ := hrel
  have HT := hide ht
  have HBR := hide hbel
  by_cases hlk : k < n
  case neg =>
   have HE : Hid (t = gramOf (itemsR r) us) := by rw [unhide HT, List.take_of_length_le (by rw [U2.out.1]; omega)]; rfl
   clear ht hbel
   go_wp2
   go_ret
   exact ⟨ret_num HE.out, H2.out.trans (HBR.out.mono H2.out.size)⟩
  obtain ⟨b, off, ha, hc⟩ := (U2.out.mono hbel).2 k hlk
  have htb := sumTo_bd (gramAt (itemsR r)) 100000 (by omega) (gramAt_bd (itemsR r) (itemsR_good r).gram) us k (by omega)
  rw [← ht] at htb
  have HST := hide (sumTo_step (gramAt (itemsR r)) us k (by rw [U2.out.1]; exact hlk))
  generalize us.getD k 0 = x at hc HST
  subst ha
  have htb0 := htb.1
  have htb1 : t ≤ 8388800000000000 := by have := htb.2; omega
  have hxb := (gramAt_bd (itemsR r) (itemsR_good r).gram) x
  have HVQ := hide (show gramAt (itemsR r) x = (itemAt (itemsR r) x).gram from rfl)
  rw [unhide HVQ] at hxb
  have HXB := hide hxb
  have KW := hide (Blk.below hbel z2 K2.out)
  have RW := hide (R2.out.mono hbel)
  have UW := hide (UR.out.mono hbel)
  obtain ⟨a0, a1, a2, a3, a4, a5, a6, a7, a8, a9⟩ := Blk.cs10 KW.out
  have DK : Hid (RdReq wr.drew r h) := RW.out.mono (Below.refl _ _).drew
  have DU : Hid (Rd wr.drew (some ⟨ug, 0, none⟩) N (unitsR r)) := UW.out.mono (Below.refl _ _).drew
  have hz : w2.heap.size ≤ wr.heap.size := hbel.size
  have hAl : Below wr.drew.heap.size wr.drew (wr.drew.alloc (.cells #[.int .i64 0, .int .i64 0, .int .i64 0, .int .i64 0, .int .i64 0, .int .i64 0, .int .i64 0] 89)) := (Below.refl _ _).alloc (Nat.le_refl _) _
  have DK2 := hide (DK.out.mono hAl)
  have DU2 := hide (DU.out.mono hAl)
  have HD1 : Hid (Below wr.heap.size wr wr.drew) := (Below.refl _ _).drew
  have HALW : Hid (Below wr.heap.size wr (wr.drew.alloc (.cells #[.int .i64 0, .int .i64 0, .int .i64 0, .int .i64 0, .int .i64 0, .int .i64 0, .int .i64 0] 89))) := HD1.out.trans (hAl.mono (Nat.le_refl _))
  have DZ : Hid (Blk (wr.drew.alloc (.cells #[.int .i64 0, .int .i64 0, .int .i64 0, .int .i64 0, .int .i64 0, .int .i64 0, .int .i64 0] 89)) wr.heap.size [.int .i64 0, .int .i64 0, .int .i64 0, .int .i64 0, .int .i64 0, .int .i64 0, .int .i64 0]) := Blk.allocAt [.int .i64 0, .int .i64 0, .int .i64 0, .int .i64 0, .int .i64 0, .int .i64 0, .int .i64 0] rfl
  have e0 : (wr.drew.alloc (.cells #[.int .i64 0, .int .i64 0, .int .i64 0, .int .i64 0, .int .i64 0, .int .i64 0, .int .i64 0] 89)).cell? ⟨w.heap.size, 0, none⟩ = some (.int .i64 r.way) := (hAl.cell (p := ⟨w.heap.size, 0, none⟩) (by show w.heap.size < wr.heap.size; omega)).trans a0
  have e1 : (wr.drew.alloc (.cells #[.int .i64 0, .int .i64 0, .int .i64 0, .int .i64 0, .int .i64 0, .int .i64 0, .int .i64 0] 89)).cell? ⟨w.heap.size, 1, none⟩ = some (.int .i64 r.pal.wd) := (hAl.cell (p := ⟨w.heap.size, 1, none⟩) (by show w.heap.size < wr.heap.size; omega)).trans a1
  have e2 : (wr.drew.alloc (.cells #[.int .i64 0, .int .i64 0, .int .i64 0, .int .i64 0, .int .i64 0, .int .i64 0, .int .i64 0] 89)).cell? ⟨w.heap.size, 2, none⟩ = some (.int .i64 r.pal.dp) := (hAl.cell (p := ⟨w.heap.size, 2, none⟩) (by show w.heap.size < wr.heap.size; omega)).trans a2
  have e3 : (wr.drew.alloc (.cells #[.int .i64 0, .int .i64 0, .int .i64 0, .int .i64 0, .int .i64 0, .int .i64 0, .int .i64 0] 89)).cell? ⟨w.heap.size, 3, none⟩ = some (.int .i64 r.pal.ht) := (hAl.cell (p := ⟨w.heap.size, 3, none⟩) (by show w.heap.size < wr.heap.size; omega)).trans a3
  have e4 : (wr.drew.alloc (.cells #[.int .i64 0, .int .i64 0, .int .i64 0, .int .i64 0, .int .i64 0, .int .i64 0, .int .i64 0] 89)).cell? ⟨w.heap.size, 4, none⟩ = some (.int .i64 r.pal.gram) := (hAl.cell (p := ⟨w.heap.size, 4, none⟩) (by show w.heap.size < wr.heap.size; omega)).trans a4
  have e5 : (wr.drew.alloc (.cells #[.int .i64 0, .int .i64 0, .int .i64 0, .int .i64 0, .int .i64 0, .int .i64 0, .int .i64 0] 89)).cell? ⟨w.heap.size, 5, none⟩ = some (.int .i64 r.classes) := (hAl.cell (p := ⟨w.heap.size, 5, none⟩) (by show w.heap.size < wr.heap.size; omega)).trans a5
  have e6 : (wr.drew.alloc (.cells #[.int .i64 0, .int .i64 0, .int .i64 0, .int .i64 0, .int .i64 0, .int .i64 0, .int .i64 0] 89)).cell? ⟨w.heap.size, 6, none⟩ = some (.slice h.ap r.pairs.length h.cp) := (hAl.cell (p := ⟨w.heap.size, 6, none⟩) (by show w.heap.size < wr.heap.size; omega)).trans a6
  have e7 : (wr.drew.alloc (.cells #[.int .i64 0, .int .i64 0, .int .i64 0, .int .i64 0, .int .i64 0, .int .i64 0, .int .i64 0] 89)).cell? ⟨w.heap.size, 7, none⟩ = some (.slice h.at' r.types.length h.ct) := (hAl.cell (p := ⟨w.heap.size, 7, none⟩) (by show w.heap.size < wr.heap.size; omega)).trans a7
  have e8 : (wr.drew.alloc (.cells #[.int .i64 0, .int .i64 0, .int .i64 0, .int .i64 0, .int .i64 0, .int .i64 0, .int .i64 0] 89)).cell? ⟨w.heap.size, 8, none⟩ = some (.int .i64 r.master) := (hAl.cell (p := ⟨w.heap.size, 8, none⟩) (by show w.heap.size < wr.heap.size; omega)).trans a8
  have e9 : (wr.drew.alloc (.cells #[.int .i64 0, .int .i64 0, .int .i64 0, .int .i64 0, .int .i64 0, .int .i64 0, .int .i64 0] 89)).cell? ⟨w.heap.size, 9, none⟩ = some (.slice h.ai r.items.length h.ci) := (hAl.cell (p := ⟨w.heap.size, 9, none⟩) (by show w.heap.size < wr.heap.size; omega)).trans a9
  have hc2 : (wr.drew.alloc (.cells #[.int .i64 0, .int .i64 0, .int .i64 0, .int .i64 0, .int .i64 0, .int .i64 0, .int .i64 0] 89)).cell? ⟨b, off + k, none⟩ = some (.int .i64 x) := (hAl.cell (p := ⟨b, off + k, none⟩) (World.block_lt_of_cell? wr _ hc)).trans hc
  have hbl : b < wr.heap.size := World.block_lt_of_cell? wr _ hc
  have hal : w.heap.size < wr.heap.size := by omega
  clear hAl
  have HIT := hide (show itemAt (itemsR r) x = itemAt (itemsR r) x from rfl)
  clear ht hbel htb hxb
  go_upto_region 6 with fail
  go_cut [8] (fun v wc => ∃ g, v = .pointer (some ⟨g, 0, none⟩) ∧ Blk wc g (ItemV.cells (itemAt (itemsR r) x)) ∧ Below wr.heap.size wr wc)
  case first =>
   go_region_with (first
    | (go_at_call 69; refine (l6Item_any r h _ _ _ x wr.drew DK.out DU.out).mono ?_; rintro e u1 ⟨bb, rfl, hb⟩; have BB := hide (HD1.out.trans (hb.mono HD1.out.size)); clear hb; unfold itemVal)
    | (go_at_call 69; go_must (refine (l6Item_any r h _ _ _ x (wr.drew.alloc (.cells #[.int .i64 0, .int .i64 0, .int .i64 0, .int .i64 0, .int .i64 0, .int .i64 0, .int .i64 0] 89)) DK2.out DU2.out).mono ?_; rintro e u1 ⟨bb, rfl, hb⟩; have BB := hide (HALW.out.trans (hb.mono HALW.out.size)); have X1 := Blk.below hb (by simp) DZ.out; have XZ := hide X1; have s0 : u1.cell? ⟨wr.heap.size, 0, none⟩ = some (.int .i64 0) := (X1 0 (by simp)).1; have sf0 : u1.frozen? ⟨wr.heap.size, 0, none⟩ = false := (X1 0 (by simp)).2; have s1 : u1.cell? ⟨wr.heap.size, 1, none⟩ = some (.int .i64 0) := (X1 1 (by simp)).1; have sf1 : u1.frozen? ⟨wr.heap.size, 1, none⟩ = false := (X1 1 (by simp)).2; have s2 : u1.cell? ⟨wr.heap.size, 2, none⟩ = some (.int .i64 0) := (X1 2 (by simp)).1; have sf2 : u1.frozen? ⟨wr.heap.size, 2, none⟩ = false := (X1 2 (by simp)).2; have s3 : u1.cell? ⟨wr.heap.size, 3, none⟩ = some (.int .i64 0) := (X1 3 (by simp)).1; have sf3 : u1.frozen? ⟨wr.heap.size, 3, none⟩ = false := (X1 3 (by simp)).2; have s4 : u1.cell? ⟨wr.heap.size, 4, none⟩ = some (.int .i64 0) := (X1 4 (by simp)).1; have sf4 : u1.frozen? ⟨wr.heap.size, 4, none⟩ = false := (X1 4 (by simp)).2; have s5 : u1.cell? ⟨wr.heap.size, 5, none⟩ = some (.int .i64 0) := (X1 5 (by simp)).1; have sf5 : u1.frozen? ⟨wr.heap.size, 5, none⟩ = false := (X1 5 (by simp)).2; have s6 : u1.cell? ⟨wr.heap.size, 6, none⟩ = some (.int .i64 0) := (X1 6 (by simp)).1; have sf6 : u1.frozen? ⟨wr.heap.size, 6, none⟩ = false := (X1 6 (by simp)).2; clear hb X1; unfold itemVal)))
   all_goals
    go_wp2_with fail
    go_meet
    case rel => first
     | (have hx := unhide XZ; exact ⟨_, rfl, Blk.fill7 hx, below7 BB.out (Nat.le_refl _) _ _ _ _ _ _ _⟩)
     | exact ⟨_, rfl, Blk.allocAt (ItemV.cells (itemAt (itemsR r) x)) rfl, bw_alloc BB.out _⟩
  case rest =>
   obtain ⟨g, rfl, hk, hbc⟩ := hcut
   have HB2 := hide (HBR.out.trans (hbc.mono hz))
   clear HIT
   generalize itemAt (itemsR r) x = q at HVQ HXB hk
   obtain ⟨hx0, hx1⟩ := unhide HXB
   have k0 : wc.cell? ⟨g, 0, none⟩ = some (.int .i64 q.id) := (hk 0 (by simp [ItemV.cells])).1
   have k1 : wc.cell? ⟨g, 1, none⟩ = some (.int .i64 q.wd) := (hk 1 (by simp [ItemV.cells])).1
   have k2 : wc.cell? ⟨g, 2, none⟩ = some (.int .i64 q.ht) := (hk 2 (by simp [ItemV.cells])).1
   have k3 : wc.cell? ⟨g, 3, none⟩ = some (.int .i64 q.dp) := (hk 3 (by simp [ItemV.cells])).1
   have k4 : wc.cell? ⟨g, 4, none⟩ = some (.int .i64 q.gram) := (hk 4 (by simp [ItemV.cells])).1
   have k5 : wc.cell? ⟨g, 5, none⟩ = some (.int .i64 q.cls) := (hk 5 (by simp [ItemV.cells])).1
   have k6 : wc.cell? ⟨g, 6, none⟩ = some (.int .i64 q.cnt) := (hk 6 (by simp [ItemV.cells])).1
   clear hk hbc hc hc2 a0 e0 a1 e1 a2 e2 a3 e3 a4 e4 a5 e5 a6 e6 a7 e7 a8 e8 a9 e9
   go_wp2
   go_roundw
   case rel => exact ⟨k + 1, _, by omega, by go_num, rfl, by rw [unhide HST, ← unhide HT, unhide HVQ], unhide HB2⟩
   case measure => simp [intOf]; omega
end Go.Proofs.YtcblpoeeembniabGreatDoor
