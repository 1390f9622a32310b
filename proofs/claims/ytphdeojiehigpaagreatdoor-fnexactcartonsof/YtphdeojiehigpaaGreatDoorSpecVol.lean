/- VolumeOf and GramOf of the model. -/
import Derived.Test.YtphdeojiehigpaaGreatDoorVolOf
import Derived.Test.YtphdeojiehigpaaGreatDoorSpecUnits
import Derived.Deep.DeepMust
import Derived.Deep.DeepCutAuto
namespace Go.Proofs.YtphdeojiehigpaaGreatDoor
open Go.RowKit
set_option linter.unusedVariables false
set_option linter.unusedSimpArgs false

set_option maxRecDepth 100000 in
set_option maxHeartbeats 1000000 in
theorem l6Item_in (r : ReqV) (h : ReqH) (a : Option Addr) (n c : Nat) (u : Int) (w : World) (hr : RdReq w r h) (hu : Rd w a n (unitsR r)) :
    Calls Tryz.prog 78 #[reqVal r h, .slice a n c, .int .i64 u] w fun e w' => ∃ b, e = .returned (.tuple #[itemVal (itemAt (itemsR r) u), .bool b]) ∧ b = inB u 0 ((n : Int) - 1) ∧ Below w.heap.size w w' := by
  have hn12 : n ≤ 12 := by rw [← hu.1]; exact unitsR_len r
  have HR := hide hr
  have HU := hide hu
  have HLT := hide (rdr_lt7 ItemV.len hr.2.2)
  clear hr hu
  unfold reqVal
  go_enter Tryz.func78, Tryz.ntmps78
  go_wp2_with fail
  have KA : Hid (Blk ((w.alloc (.cells #[.int .i64 r.way, .int .i64 r.pal.wd, .int .i64 r.pal.dp, .int .i64 r.pal.ht, .int .i64 r.pal.gram, .int .i64 r.classes, .slice h.ap r.pairs.length h.cp, .slice h.at' r.types.length h.ct, .int .i64 r.master, .slice h.ai r.items.length h.ci] 40)).alloc (.cells #[.int .i64 0, .int .i64 0, .int .i64 0, .int .i64 0, .int .i64 0, .int .i64 0, .int .i64 0] 101)) w.heap.size [.int .i64 r.way, .int .i64 r.pal.wd, .int .i64 r.pal.dp, .int .i64 r.pal.ht, .int .i64 r.pal.gram, .int .i64 r.classes, .slice h.ap r.pairs.length h.cp, .slice h.at' r.types.length h.ct, .int .i64 r.master, .slice h.ai r.items.length h.ci]) := (Blk.allocAt [.int .i64 r.way, .int .i64 r.pal.wd, .int .i64 r.pal.dp, .int .i64 r.pal.ht, .int .i64 r.pal.gram, .int .i64 r.classes, .slice h.ap r.pairs.length h.cp, .slice h.at' r.types.length h.ct, .int .i64 r.master, .slice h.ai r.items.length h.ci] rfl).allocOld (by simp) _
  have KR : Hid (Blk ((w.alloc (.cells #[.int .i64 r.way, .int .i64 r.pal.wd, .int .i64 r.pal.dp, .int .i64 r.pal.ht, .int .i64 r.pal.gram, .int .i64 r.classes, .slice h.ap r.pairs.length h.cp, .slice h.at' r.types.length h.ct, .int .i64 r.master, .slice h.ai r.items.length h.ci] 40)).alloc (.cells #[.int .i64 0, .int .i64 0, .int .i64 0, .int .i64 0, .int .i64 0, .int .i64 0, .int .i64 0] 101)) (w.heap.size + 1) [.int .i64 0, .int .i64 0, .int .i64 0, .int .i64 0, .int .i64 0, .int .i64 0, .int .i64 0]) := Blk.allocAt [.int .i64 0, .int .i64 0, .int .i64 0, .int .i64 0, .int .i64 0, .int .i64 0, .int .i64 0] (by simp)
  have HB : Hid (Below w.heap.size w ((w.alloc (.cells #[.int .i64 r.way, .int .i64 r.pal.wd, .int .i64 r.pal.dp, .int .i64 r.pal.ht, .int .i64 r.pal.gram, .int .i64 r.classes, .slice h.ap r.pairs.length h.cp, .slice h.at' r.types.length h.ct, .int .i64 r.master, .slice h.ai r.items.length h.ci] 40)).alloc (.cells #[.int .i64 0, .int .i64 0, .int .i64 0, .int .i64 0, .int .i64 0, .int .i64 0, .int .i64 0] 101))) := ((Below.refl _ _).alloc (Nat.le_refl _) _).alloc (by simp) _
  have z1 : w.heap.size + 1 < ((w.alloc (.cells #[.int .i64 r.way, .int .i64 r.pal.wd, .int .i64 r.pal.dp, .int .i64 r.pal.ht, .int .i64 r.pal.gram, .int .i64 r.classes, .slice h.ap r.pairs.length h.cp, .slice h.at' r.types.length h.ct, .int .i64 r.master, .slice h.ai r.items.length h.ci] 40)).alloc (.cells #[.int .i64 0, .int .i64 0, .int .i64 0, .int .i64 0, .int .i64 0, .int .i64 0, .int .i64 0] 101)).heap.size := by simp
  generalize ((w.alloc (.cells #[.int .i64 r.way, .int .i64 r.pal.wd, .int .i64 r.pal.dp, .int .i64 r.pal.ht, .int .i64 r.pal.gram, .int .i64 r.classes, .slice h.ap r.pairs.length h.cp, .slice h.at' r.types.length h.ct, .int .i64 r.master, .slice h.ai r.items.length h.ci] 40)).alloc (.cells #[.int .i64 0, .int .i64 0, .int .i64 0, .int .i64 0, .int .i64 0, .int .i64 0, .int .i64 0] 101)) = w1 at *
  refine (l1In_any _ _ _ _).mono ?_
  rintro e w2 ⟨rfl, hw⟩
  subst w2
  obtain ⟨r0, rf0, r1, rf1, r2, rf2, r3, rf3, r4, rf4, r5, rf5, r6, rf6⟩ := Blk.cf7 KR.out
  cases hin : inB u 0 ((n : Int) - 1)
  · have HIT : Hid (itemAt (itemsR r) u = zeroItem) := itemAt_out (by rw [show (unitsL (itemsR r)).length = n from HU.out.1]; exact hin)
    go_wp2
    have hk := Blk.fill7 (b0 := .int .i64 0) (b1 := .int .i64 0) (b2 := .int .i64 0) (b3 := .int .i64 0) (b4 := .int .i64 0) (b5 := .int .i64 0) (b6 := .int .i64 0) KR.out
    have k0 := (hk 0 (by simp)).1
    have k1 := (hk 1 (by simp)).1
    have k2 := (hk 2 (by simp)).1
    have k3 := (hk 3 (by simp)).1
    have k4 := (hk 4 (by simp)).1
    have k5 := (hk 5 (by simp)).1
    have k6 := (hk 6 (by simp)).1
    refine bodyPost_ret (v := .tuple #[itemVal zeroItem, .bool false]) (by simp [results, Tryz.results78, go_sem, k0, k1, k2, k3, k4, k5, k6, itemVal, zeroItem]) rfl ?_
    exact ⟨false, by rw [unhide HIT], hin.symm, below7 HB.out (by omega) _ _ _ _ _ _ _⟩
  obtain ⟨v, rfl⟩ : ∃ v : Nat, u = (v : Int) := ⟨u.toNat, by rw [inB_iff] at hin; omega⟩
  have hvn : v < n := by rw [inB_iff] at hin; omega
  have hun : v < (unitsL (itemsR r)).length := by rw [show (unitsL (itemsR r)).length = n from HU.out.1]; exact hvn
  obtain ⟨p, hp, hpl⟩ := unitsL_lt (itemsR r) v hun
  have hcl : classI r = 0 := by
    by_cases e : classI r = 0
    · exact e
    · rw [itemsR_not e] at hpl
      simp at hpl
  have HIT : Hid (itemAt (itemsR r) (v : Int) = r.items.getD p default) := by rw [Hid, itemAt_in hun hp, itemsR_zero hcl]
  rw [itemsR_zero hcl] at hpl
  obtain ⟨ub, uoff, hua, huc⟩ := (HU.out.mono HB.out).2 v hvn
  rw [show (unitsR r).getD v 0 = (p : Int) from hp] at huc
  obtain ⟨b, off, ha, hc⟩ := (HR.out.mono HB.out).2.2.2 p hpl
  have a9 : w1.cell? ⟨w.heap.size, 9, none⟩ = some (.slice h.ai r.items.length h.ci) := (KA.out 9 (by simp)).1
  rw [ha] at a9
  subst hua
  generalize r.items.getD p default = q at hc HIT
  have d0 : w1.cell? ⟨b, off + p * 7, none⟩ = some (.int .i64 q.id) := hc 0 (by omega)
  have d1 : w1.cell? ⟨b, off + p * 7 + 1, none⟩ = some (.int .i64 q.wd) := hc 1 (by omega)
  have d2 : w1.cell? ⟨b, off + p * 7 + 2, none⟩ = some (.int .i64 q.ht) := hc 2 (by omega)
  have d3 : w1.cell? ⟨b, off + p * 7 + 3, none⟩ = some (.int .i64 q.dp) := hc 3 (by omega)
  have d4 : w1.cell? ⟨b, off + p * 7 + 4, none⟩ = some (.int .i64 q.gram) := hc 4 (by omega)
  have d5 : w1.cell? ⟨b, off + p * 7 + 5, none⟩ = some (.int .i64 q.cls) := hc 5 (by omega)
  have d6 : w1.cell? ⟨b, off + p * 7 + 6, none⟩ = some (.int .i64 q.cnt) := hc 6 (by omega)
  clear hc ha hp hcl hun HU HR
  go_wp2
  go_region
  all_goals
    go_wp2
    have hk := Blk.fill7 (b0 := .int .i64 q.id) (b1 := .int .i64 q.wd) (b2 := .int .i64 q.ht) (b3 := .int .i64 q.dp) (b4 := .int .i64 q.gram) (b5 := .int .i64 q.cls) (b6 := .int .i64 q.cnt) KR.out
    have hB7 := below7 HB.out (show w.heap.size ≤ w.heap.size + 1 by omega) (.int .i64 q.id) (.int .i64 q.wd) (.int .i64 q.ht) (.int .i64 q.dp) (.int .i64 q.gram) (.int .i64 q.cls) (.int .i64 q.cnt)
    generalize (((((((w1.setCell ⟨w.heap.size + 1, 0, none⟩ (.int .i64 q.id)).setCell ⟨w.heap.size + 1, 1, none⟩ (.int .i64 q.wd)).setCell ⟨w.heap.size + 1, 2, none⟩ (.int .i64 q.ht)).setCell ⟨w.heap.size + 1, 3, none⟩ (.int .i64 q.dp)).setCell ⟨w.heap.size + 1, 4, none⟩ (.int .i64 q.gram)).setCell ⟨w.heap.size + 1, 5, none⟩ (.int .i64 q.cls)).setCell ⟨w.heap.size + 1, 6, none⟩ (.int .i64 q.cnt)) = X at *
    obtain ⟨k0, k1, k2, k3, k4, k5, k6⟩ := Blk.cs7 hk
    refine bodyPost_ret (v := .tuple #[itemVal q, .bool true]) (by simp [results, Tryz.results78, go_sem, k0, k1, k2, k3, k4, k5, k6, itemVal]) rfl ?_
    exact ⟨true, by rw [unhide HIT], hin.symm, hB7.drew⟩
theorem l6Item_any (r : ReqV) (h : ReqH) (a : Option Addr) (n c : Nat) (u : Int) (w : World) (hr : RdReq w r h) (hu : Rd w a n (unitsR r)) :
    Calls Tryz.prog 78 #[reqVal r h, .slice a n c, .int .i64 u] w fun e w' => ∃ b, e = .returned (.tuple #[itemVal (itemAt (itemsR r) u), .bool b]) ∧ Below w.heap.size w w' :=
  (l6Item_in r h a n c u w hr hu).mono fun e w' ⟨b, h1, _, h2⟩ => ⟨b, h1, h2⟩

end Go.Proofs.YtphdeojiehigpaaGreatDoor
