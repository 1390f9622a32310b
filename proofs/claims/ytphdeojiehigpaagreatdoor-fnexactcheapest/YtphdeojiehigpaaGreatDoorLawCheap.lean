/- The law of Cheapest, walked. -/
import Derived.Test.YtphdeojiehigpaaGreatDoorCheapSpec
import Derived.Test.YtphdeojiehigpaaGreatDoorCheapImpl
import Derived.Test.YtphdeojiehigpaaGreatDoorPkA
import Derived.Test.YtphdeojiehigpaaGreatDoorPkE
import Derived.Deep.DeepMust
import Derived.Deep.DeepCutAuto
namespace Go.Proofs.YtphdeojiehigpaaGreatDoor
open Go.RowKit
set_option linter.unusedVariables false
set_option linter.unusedSimpArgs false
set_option maxRecDepth 100000 in
set_option maxHeartbeats 4000000 in
theorem law_cheapest (r : ReqV) (h : ReqH) (a : Option Addr) (n c : Nat) (us : List Int) (w : World) (hr : RdReq w r h) (hp : r.pairs.length ≤ maxLen) (ht : r.types.length ≤ maxLen) (hi : r.items.length ≤ maxLen) (hg : ErrT w) (hu : Rd w a n us) (hm : n ≤ maxLen) :
    Calls Tryz.prog 5 #[reqVal r h, .slice a n c] w fun e w' => e = .returned (.bool true) ∧ Below w.heap.size w w' := by
  have hne : (cheapB r us != cheapB r us) = false := by simp
  by_cases hn6 : n ≤ 1048576
  case neg =>
    have hgt : (1048576 : Int) < (n : Int) := by omega
    unfold maxLen at hm
    unfold reqVal
    go_enter Tryz.func5, Tryz.ntmps5
    go_wp2_with fail
    go_ret
    exact ⟨rfl, (Below.refl _ _).alloc (Nat.le_refl _) _⟩
  have hgt : ¬ (1048576 : Int) < (n : Int) := by omega
  have hn7 : n ≤ 1048600 := by omega
  by_cases hs : (1048576 : Int) - r.pairs.length - r.types.length - r.items.length < 0
  · unfold reqVal
    go_enter Tryz.func5, Tryz.ntmps5
    go_wp2_with fail
    refine (szRequest_any r h _ _ (by omega) (by omega) hp ht hi).mono ?_
    rintro e w1 ⟨rfl, hb1⟩
    rw [if_pos (by omega)]
    have H1 : Hid (Below w.heap.size w w1) := ((Below.refl w.heap.size w).alloc (Nat.le_refl _) _).trans (hb1.mono (by simp))
    clear hb1
    go_wp2_with fail
    go_ret
    exact ⟨rfl, unhide H1⟩
  have hsm : r.small := by unfold ReqV.small; omega
  have htl : r.types.length ≤ 1048600 := by unfold ReqV.small at hsm; omega
  unfold reqVal
  go_enter Tryz.func5, Tryz.ntmps5
  go_wp2_with fail
  have BwA : Hid (Below w.heap.size w (w.alloc (.cells #[.int .i64 r.way, .int .i64 r.pal.wd, .int .i64 r.pal.dp, .int .i64 r.pal.ht, .int .i64 r.pal.gram, .int .i64 r.classes, .slice h.ap r.pairs.length h.cp, .slice h.at' r.types.length h.ct, .int .i64 r.master, .slice h.ai r.items.length h.ci] 28))) := ((Below.refl _ _).alloc (by simp) _)
  have KawA : Hid (Blk (w.alloc (.cells #[.int .i64 r.way, .int .i64 r.pal.wd, .int .i64 r.pal.dp, .int .i64 r.pal.ht, .int .i64 r.pal.gram, .int .i64 r.classes, .slice h.ap r.pairs.length h.cp, .slice h.at' r.types.length h.ct, .int .i64 r.master, .slice h.ai r.items.length h.ci] 28)) w.heap.size [.int .i64 r.way, .int .i64 r.pal.wd, .int .i64 r.pal.dp, .int .i64 r.pal.ht, .int .i64 r.pal.gram, .int .i64 r.classes, .slice h.ap r.pairs.length h.cp, .slice h.at' r.types.length h.ct, .int .i64 r.master, .slice h.ai r.items.length h.ci]) := (Blk.allocAt (w := w) [.int .i64 r.way, .int .i64 r.pal.wd, .int .i64 r.pal.dp, .int .i64 r.pal.ht, .int .i64 r.pal.gram, .int .i64 r.classes, .slice h.ap r.pairs.length h.cp, .slice h.at' r.types.length h.ct, .int .i64 r.master, .slice h.ai r.items.length h.ci] (by simp))
  have ZawA : w.heap.size < (w.alloc (.cells #[.int .i64 r.way, .int .i64 r.pal.wd, .int .i64 r.pal.dp, .int .i64 r.pal.ht, .int .i64 r.pal.gram, .int .i64 r.classes, .slice h.ap r.pairs.length h.cp, .slice h.at' r.types.length h.ct, .int .i64 r.master, .slice h.ai r.items.length h.ci] 28)).heap.size := by simp
  have Ga : w.heap.size ≤ w.heap.size := by omega
  generalize (w.alloc (.cells #[.int .i64 r.way, .int .i64 r.pal.wd, .int .i64 r.pal.dp, .int .i64 r.pal.ht, .int .i64 r.pal.gram, .int .i64 r.classes, .slice h.ap r.pairs.length h.cp, .slice h.at' r.types.length h.ct, .int .i64 r.master, .slice h.ai r.items.length h.ci] 28)) = wA at *
  have QrwA : Hid (RdReq wA r h) := hr.mono (unhide BwA)
  have QgwA : Hid (ErrT wA) := hg.later (unhide BwA)
  have QywA : Hid (Rd wA (a) n us) := hu.mono (unhide BwA)
  clear hr hg hu
  refine (szRequest_any r h _ _ (by omega) (by omega) hp ht hi).mono ?_
  rintro e v1 ⟨rfl, hb⟩
  have Bv1 := hide ((unhide BwA).trans (hb.mono (unhide BwA).size))
  have Kav1 := hide (Blk.below hb ZawA (unhide KawA))
  have Zav1 := Nat.lt_of_lt_of_le ZawA hb.size
  have Qrv1 : Hid (RdReq v1 r h) := (unhide QrwA).mono hb
  have Qgv1 : Hid (ErrT v1) := (unhide QgwA).later hb
  have Qyv1 : Hid (Rd v1 (a) n us) := Rd.mono (unhide QywA) hb
  clear hb
  clear BwA KawA ZawA QrwA QgwA QywA
  rw [if_neg (by omega)]
  obtain ⟨ca0, ca1, ca2, ca3, ca4, ca5, ca6, ca7, ca8, ca9⟩ := Blk.cs10 (unhide Kav1)
  go_wp2_with fail
  clear ca0 ca1 ca2 ca3 ca4 ca5 ca6 ca7 ca8 ca9
  refine (toRequest_any r h _ (unhide Qrv1) hsm).mono ?_
  rintro e v2 ⟨h1, rfl, hq, hf, hb⟩
  have Bv2 := hide ((unhide Bv1).trans (hb.mono (unhide Bv1).size))
  have Kav2 := hide (Blk.below hb Zav1 (unhide Kav1))
  have Zav2 := Nat.lt_of_lt_of_le Zav1 hb.size
  have Qrv2 : Hid (RdReq v2 r h) := (unhide Qrv1).mono hb
  have Qgv2 : Hid (ErrT v2) := (unhide Qgv1).later hb
  have Qyv2 : Hid (Rd v2 (a) n us) := Rd.mono (unhide Qyv1) hb
  clear hb
  clear Bv1 Kav1 Zav1 Qrv1 Qgv1 Qyv1
  have Qcv2 : Hid (RdReq v2 r h1) := hq
  clear hq hf
  unfold reqVal
  go_wp2_with fail
  refine (toIntS_any a n c us _ (unhide Qyv2) hn6).mono ?_
  rintro e v3 ⟨rfl, ho, hb⟩
  have Bv3 := hide ((unhide Bv2).trans (hb.mono (unhide Bv2).size))
  have Kav3 := hide (Blk.below hb Zav2 (unhide Kav2))
  have Zav3 := Nat.lt_of_lt_of_le Zav2 hb.size
  have Qrv3 : Hid (RdReq v3 r h) := (unhide Qrv2).mono hb
  have Qgv3 : Hid (ErrT v3) := (unhide Qgv2).later hb
  have Qyv3 : Hid (Rd v3 (a) n us) := Rd.mono (unhide Qyv2) hb
  have Qcv3 : Hid (RdReq v3 r h1) := (unhide Qcv2).mono hb
  clear hb
  clear Bv2 Kav2 Zav2 Qrv2 Qgv2 Qyv2 Qcv2
  have Qsv3 : Hid (Rd v3 (some ⟨v2.heap.size, 0, none⟩) n us) := Rd.of_owns ho
  clear ho
  go_wp2_with fail
  refine (specCheapest_any r h1 _ n n us _ (unhide Qcv3) hsm (unhide Qsv3) hn7).mono ?_
  rintro e v4 ⟨rfl, hb⟩
  have Bv4 := hide ((unhide Bv3).trans (hb.mono (unhide Bv3).size))
  have Kav4 := hide (Blk.below hb Zav3 (unhide Kav3))
  have Zav4 := Nat.lt_of_lt_of_le Zav3 hb.size
  have Qrv4 : Hid (RdReq v4 r h) := (unhide Qrv3).mono hb
  have Qgv4 : Hid (ErrT v4) := (unhide Qgv3).later hb
  have Qyv4 : Hid (Rd v4 (a) n us) := Rd.mono (unhide Qyv3) hb
  have Qcv4 : Hid (RdReq v4 r h1) := (unhide Qcv3).mono hb
  have Qsv4 : Hid (Rd v4 (some ⟨v2.heap.size, 0, none⟩) n us) := Rd.mono (unhide Qsv3) hb
  clear hb
  clear Bv3 Kav3 Zav3 Qrv3 Qgv3 Qyv3 Qcv3 Qsv3
  clear Qcv4 Qsv4
  obtain ⟨ca0, ca1, ca2, ca3, ca4, ca5, ca6, ca7, ca8, ca9⟩ := Blk.cs10 (unhide Kav4)
  go_wp2_with fail
  clear ca0 ca1 ca2 ca3 ca4 ca5 ca6 ca7 ca8 ca9
  have Bv5 : Hid (Below w.heap.size w (v4.alloc (.cells #[.int .i64 (cheapV r us).id, .int .i64 (cheapV r us).wd, .int .i64 (cheapV r us).ht, .int .i64 (cheapV r us).dp, .int .i64 (cheapV r us).tare, .int .i64 (cheapV r us).gram, .int .i64 (cheapV r us).cost] 55))) := (unhide Bv4).alloc (unhide Bv4).size _
  have Ktv5 : Hid (Blk (v4.alloc (.cells #[.int .i64 (cheapV r us).id, .int .i64 (cheapV r us).wd, .int .i64 (cheapV r us).ht, .int .i64 (cheapV r us).dp, .int .i64 (cheapV r us).tare, .int .i64 (cheapV r us).gram, .int .i64 (cheapV r us).cost] 55)) v4.heap.size [.int .i64 (cheapV r us).id, .int .i64 (cheapV r us).wd, .int .i64 (cheapV r us).ht, .int .i64 (cheapV r us).dp, .int .i64 (cheapV r us).tare, .int .i64 (cheapV r us).gram, .int .i64 (cheapV r us).cost]) := Blk.allocAt [.int .i64 (cheapV r us).id, .int .i64 (cheapV r us).wd, .int .i64 (cheapV r us).ht, .int .i64 (cheapV r us).dp, .int .i64 (cheapV r us).tare, .int .i64 (cheapV r us).gram, .int .i64 (cheapV r us).cost] rfl
  have Ztv5 : v4.heap.size < (v4.alloc (.cells #[.int .i64 (cheapV r us).id, .int .i64 (cheapV r us).wd, .int .i64 (cheapV r us).ht, .int .i64 (cheapV r us).dp, .int .i64 (cheapV r us).tare, .int .i64 (cheapV r us).gram, .int .i64 (cheapV r us).cost] 55)).heap.size := by simp
  have Gt : w.heap.size ≤ v4.heap.size := (unhide Bv4).size
  have Kav5 : Hid (Blk (v4.alloc (.cells #[.int .i64 (cheapV r us).id, .int .i64 (cheapV r us).wd, .int .i64 (cheapV r us).ht, .int .i64 (cheapV r us).dp, .int .i64 (cheapV r us).tare, .int .i64 (cheapV r us).gram, .int .i64 (cheapV r us).cost] 55)) w.heap.size [.int .i64 r.way, .int .i64 r.pal.wd, .int .i64 r.pal.dp, .int .i64 r.pal.ht, .int .i64 r.pal.gram, .int .i64 r.classes, .slice h.ap r.pairs.length h.cp, .slice h.at' r.types.length h.ct, .int .i64 r.master, .slice h.ai r.items.length h.ci]) := (unhide Kav4).allocOld Zav4 _
  have Zav5 : w.heap.size < (v4.alloc (.cells #[.int .i64 (cheapV r us).id, .int .i64 (cheapV r us).wd, .int .i64 (cheapV r us).ht, .int .i64 (cheapV r us).dp, .int .i64 (cheapV r us).tare, .int .i64 (cheapV r us).gram, .int .i64 (cheapV r us).cost] 55)).heap.size := by simp <;> omega
  have Nqat : w.heap.size ≠ v4.heap.size := Nat.ne_of_lt Zav4
  have Nqta : v4.heap.size ≠ w.heap.size := Ne.symm Nqat
  have Qrv5 : Hid (RdReq (v4.alloc (.cells #[.int .i64 (cheapV r us).id, .int .i64 (cheapV r us).wd, .int .i64 (cheapV r us).ht, .int .i64 (cheapV r us).dp, .int .i64 (cheapV r us).tare, .int .i64 (cheapV r us).gram, .int .i64 (cheapV r us).cost] 55)) r h) := (unhide Qrv4).mono ((Below.refl _ _).alloc (Nat.le_refl _) _)
  have Qgv5 : Hid (ErrT (v4.alloc (.cells #[.int .i64 (cheapV r us).id, .int .i64 (cheapV r us).wd, .int .i64 (cheapV r us).ht, .int .i64 (cheapV r us).dp, .int .i64 (cheapV r us).tare, .int .i64 (cheapV r us).gram, .int .i64 (cheapV r us).cost] 55))) := (unhide Qgv4).later ((Below.refl _ _).alloc (Nat.le_refl _) _)
  have Qyv5 : Hid (Rd (v4.alloc (.cells #[.int .i64 (cheapV r us).id, .int .i64 (cheapV r us).wd, .int .i64 (cheapV r us).ht, .int .i64 (cheapV r us).dp, .int .i64 (cheapV r us).tare, .int .i64 (cheapV r us).gram, .int .i64 (cheapV r us).cost] 55)) (a) n us) := Rd.mono (unhide Qyv4) ((Below.refl _ _).alloc (Nat.le_refl _) _)
  clear Bv4 Kav4 Zav4 Qrv4 Qgv4 Qyv4
  generalize (v4.alloc (.cells #[.int .i64 (cheapV r us).id, .int .i64 (cheapV r us).wd, .int .i64 (cheapV r us).ht, .int .i64 (cheapV r us).dp, .int .i64 (cheapV r us).tare, .int .i64 (cheapV r us).gram, .int .i64 (cheapV r us).cost] 55)) = v5 at *
  refine (toRequest_any r h _ (unhide Qrv5) hsm).mono ?_
  rintro e v6 ⟨h2, rfl, hq, hf, hb⟩
  have Bv6 := hide ((unhide Bv5).trans (hb.mono (unhide Bv5).size))
  have Kav6 := hide (Blk.below hb Zav5 (unhide Kav5))
  have Zav6 := Nat.lt_of_lt_of_le Zav5 hb.size
  have Ktv6 := hide (Blk.below hb Ztv5 (unhide Ktv5))
  have Ztv6 := Nat.lt_of_lt_of_le Ztv5 hb.size
  have Qrv6 : Hid (RdReq v6 r h) := (unhide Qrv5).mono hb
  have Qgv6 : Hid (ErrT v6) := (unhide Qgv5).later hb
  have Qyv6 : Hid (Rd v6 (a) n us) := Rd.mono (unhide Qyv5) hb
  clear hb
  clear Bv5 Kav5 Zav5 Ktv5 Ztv5 Qrv5 Qgv5 Qyv5
  have Qdv6 : Hid (RdReq v6 r h2) := hq
  clear hq hf
  unfold reqVal
  go_wp2_with fail
  have Bv7 : Hid (Below w.heap.size w (v6.alloc (.cells #[.int .i64 r.way, .int .i64 r.pal.wd, .int .i64 r.pal.dp, .int .i64 r.pal.ht, .int .i64 r.pal.gram, .int .i64 r.classes, .slice h2.ap r.pairs.length h2.cp, .slice h2.at' r.types.length h2.ct, .int .i64 r.master, .slice h2.ai r.items.length h2.ci] 40))) := (unhide Bv6).alloc (unhide Bv6).size _
  have Kxv7 : Hid (Blk (v6.alloc (.cells #[.int .i64 r.way, .int .i64 r.pal.wd, .int .i64 r.pal.dp, .int .i64 r.pal.ht, .int .i64 r.pal.gram, .int .i64 r.classes, .slice h2.ap r.pairs.length h2.cp, .slice h2.at' r.types.length h2.ct, .int .i64 r.master, .slice h2.ai r.items.length h2.ci] 40)) v6.heap.size [.int .i64 r.way, .int .i64 r.pal.wd, .int .i64 r.pal.dp, .int .i64 r.pal.ht, .int .i64 r.pal.gram, .int .i64 r.classes, .slice h2.ap r.pairs.length h2.cp, .slice h2.at' r.types.length h2.ct, .int .i64 r.master, .slice h2.ai r.items.length h2.ci]) := Blk.allocAt [.int .i64 r.way, .int .i64 r.pal.wd, .int .i64 r.pal.dp, .int .i64 r.pal.ht, .int .i64 r.pal.gram, .int .i64 r.classes, .slice h2.ap r.pairs.length h2.cp, .slice h2.at' r.types.length h2.ct, .int .i64 r.master, .slice h2.ai r.items.length h2.ci] rfl
  have Zxv7 : v6.heap.size < (v6.alloc (.cells #[.int .i64 r.way, .int .i64 r.pal.wd, .int .i64 r.pal.dp, .int .i64 r.pal.ht, .int .i64 r.pal.gram, .int .i64 r.classes, .slice h2.ap r.pairs.length h2.cp, .slice h2.at' r.types.length h2.ct, .int .i64 r.master, .slice h2.ai r.items.length h2.ci] 40)).heap.size := by simp
  have Gx : w.heap.size ≤ v6.heap.size := (unhide Bv6).size
  have Kav7 : Hid (Blk (v6.alloc (.cells #[.int .i64 r.way, .int .i64 r.pal.wd, .int .i64 r.pal.dp, .int .i64 r.pal.ht, .int .i64 r.pal.gram, .int .i64 r.classes, .slice h2.ap r.pairs.length h2.cp, .slice h2.at' r.types.length h2.ct, .int .i64 r.master, .slice h2.ai r.items.length h2.ci] 40)) w.heap.size [.int .i64 r.way, .int .i64 r.pal.wd, .int .i64 r.pal.dp, .int .i64 r.pal.ht, .int .i64 r.pal.gram, .int .i64 r.classes, .slice h.ap r.pairs.length h.cp, .slice h.at' r.types.length h.ct, .int .i64 r.master, .slice h.ai r.items.length h.ci]) := (unhide Kav6).allocOld Zav6 _
  have Zav7 : w.heap.size < (v6.alloc (.cells #[.int .i64 r.way, .int .i64 r.pal.wd, .int .i64 r.pal.dp, .int .i64 r.pal.ht, .int .i64 r.pal.gram, .int .i64 r.classes, .slice h2.ap r.pairs.length h2.cp, .slice h2.at' r.types.length h2.ct, .int .i64 r.master, .slice h2.ai r.items.length h2.ci] 40)).heap.size := by simp <;> omega
  have Nqax : w.heap.size ≠ v6.heap.size := Nat.ne_of_lt Zav6
  have Nqxa : v6.heap.size ≠ w.heap.size := Ne.symm Nqax
  have Ktv7 : Hid (Blk (v6.alloc (.cells #[.int .i64 r.way, .int .i64 r.pal.wd, .int .i64 r.pal.dp, .int .i64 r.pal.ht, .int .i64 r.pal.gram, .int .i64 r.classes, .slice h2.ap r.pairs.length h2.cp, .slice h2.at' r.types.length h2.ct, .int .i64 r.master, .slice h2.ai r.items.length h2.ci] 40)) v4.heap.size [.int .i64 (cheapV r us).id, .int .i64 (cheapV r us).wd, .int .i64 (cheapV r us).ht, .int .i64 (cheapV r us).dp, .int .i64 (cheapV r us).tare, .int .i64 (cheapV r us).gram, .int .i64 (cheapV r us).cost]) := (unhide Ktv6).allocOld Ztv6 _
  have Ztv7 : v4.heap.size < (v6.alloc (.cells #[.int .i64 r.way, .int .i64 r.pal.wd, .int .i64 r.pal.dp, .int .i64 r.pal.ht, .int .i64 r.pal.gram, .int .i64 r.classes, .slice h2.ap r.pairs.length h2.cp, .slice h2.at' r.types.length h2.ct, .int .i64 r.master, .slice h2.ai r.items.length h2.ci] 40)).heap.size := by simp <;> omega
  have Nqtx : v4.heap.size ≠ v6.heap.size := Nat.ne_of_lt Ztv6
  have Nqxt : v6.heap.size ≠ v4.heap.size := Ne.symm Nqtx
  have Qrv7 : Hid (RdReq (v6.alloc (.cells #[.int .i64 r.way, .int .i64 r.pal.wd, .int .i64 r.pal.dp, .int .i64 r.pal.ht, .int .i64 r.pal.gram, .int .i64 r.classes, .slice h2.ap r.pairs.length h2.cp, .slice h2.at' r.types.length h2.ct, .int .i64 r.master, .slice h2.ai r.items.length h2.ci] 40)) r h) := (unhide Qrv6).mono ((Below.refl _ _).alloc (Nat.le_refl _) _)
  have Qgv7 : Hid (ErrT (v6.alloc (.cells #[.int .i64 r.way, .int .i64 r.pal.wd, .int .i64 r.pal.dp, .int .i64 r.pal.ht, .int .i64 r.pal.gram, .int .i64 r.classes, .slice h2.ap r.pairs.length h2.cp, .slice h2.at' r.types.length h2.ct, .int .i64 r.master, .slice h2.ai r.items.length h2.ci] 40))) := (unhide Qgv6).later ((Below.refl _ _).alloc (Nat.le_refl _) _)
  have Qyv7 : Hid (Rd (v6.alloc (.cells #[.int .i64 r.way, .int .i64 r.pal.wd, .int .i64 r.pal.dp, .int .i64 r.pal.ht, .int .i64 r.pal.gram, .int .i64 r.classes, .slice h2.ap r.pairs.length h2.cp, .slice h2.at' r.types.length h2.ct, .int .i64 r.master, .slice h2.ai r.items.length h2.ci] 40)) (a) n us) := Rd.mono (unhide Qyv6) ((Below.refl _ _).alloc (Nat.le_refl _) _)
  have Qdv7 : Hid (RdReq (v6.alloc (.cells #[.int .i64 r.way, .int .i64 r.pal.wd, .int .i64 r.pal.dp, .int .i64 r.pal.ht, .int .i64 r.pal.gram, .int .i64 r.classes, .slice h2.ap r.pairs.length h2.cp, .slice h2.at' r.types.length h2.ct, .int .i64 r.master, .slice h2.ai r.items.length h2.ci] 40)) r h2) := (unhide Qdv6).mono ((Below.refl _ _).alloc (Nat.le_refl _) _)
  clear Bv6 Kav6 Zav6 Ktv6 Ztv6 Qrv6 Qgv6 Qyv6 Qdv6
  generalize (v6.alloc (.cells #[.int .i64 r.way, .int .i64 r.pal.wd, .int .i64 r.pal.dp, .int .i64 r.pal.ht, .int .i64 r.pal.gram, .int .i64 r.classes, .slice h2.ap r.pairs.length h2.cp, .slice h2.at' r.types.length h2.ct, .int .i64 r.master, .slice h2.ai r.items.length h2.ci] 40)) = v7 at *
  refine (toIntS_any a n c us _ (unhide Qyv7) hn6).mono ?_
  rintro e v8 ⟨rfl, ho, hb⟩
  have Bv8 := hide ((unhide Bv7).trans (hb.mono (unhide Bv7).size))
  have Kav8 := hide (Blk.below hb Zav7 (unhide Kav7))
  have Zav8 := Nat.lt_of_lt_of_le Zav7 hb.size
  have Ktv8 := hide (Blk.below hb Ztv7 (unhide Ktv7))
  have Ztv8 := Nat.lt_of_lt_of_le Ztv7 hb.size
  have Kxv8 := hide (Blk.below hb Zxv7 (unhide Kxv7))
  have Zxv8 := Nat.lt_of_lt_of_le Zxv7 hb.size
  have Qrv8 : Hid (RdReq v8 r h) := (unhide Qrv7).mono hb
  have Qgv8 : Hid (ErrT v8) := (unhide Qgv7).later hb
  have Qyv8 : Hid (Rd v8 (a) n us) := Rd.mono (unhide Qyv7) hb
  have Qdv8 : Hid (RdReq v8 r h2) := (unhide Qdv7).mono hb
  clear hb
  clear Bv7 Kav7 Zav7 Ktv7 Ztv7 Kxv7 Zxv7 Qrv7 Qgv7 Qyv7 Qdv7
  have Qvv8 : Hid (Rd v8 (some ⟨v7.heap.size, 0, none⟩) n us) := Rd.of_owns ho
  clear ho
  obtain ⟨cx0, cx1, cx2, cx3, cx4, cx5, cx6, cx7, cx8, cx9⟩ := Blk.cs10 (unhide Kxv8)
  go_wp2_with fail
  clear cx0 cx1 cx2 cx3 cx4 cx5 cx6 cx7 cx8 cx9
  refine (cheapest_any r h2 _ n n us _ (unhide Qdv8) hsm (unhide Qgv8) (unhide Qvv8) hn7).mono ?_
  rintro e v9 ⟨rfl, hb⟩
  have Bv9 := hide ((unhide Bv8).trans (hb.mono (unhide Bv8).size))
  have Kav9 := hide (Blk.below hb Zav8 (unhide Kav8))
  have Zav9 := Nat.lt_of_lt_of_le Zav8 hb.size
  have Ktv9 := hide (Blk.below hb Ztv8 (unhide Ktv8))
  have Ztv9 := Nat.lt_of_lt_of_le Ztv8 hb.size
  have Kxv9 := hide (Blk.below hb Zxv8 (unhide Kxv8))
  have Zxv9 := Nat.lt_of_lt_of_le Zxv8 hb.size
  have Qrv9 : Hid (RdReq v9 r h) := (unhide Qrv8).mono hb
  have Qgv9 : Hid (ErrT v9) := (unhide Qgv8).later hb
  have Qyv9 : Hid (Rd v9 (a) n us) := Rd.mono (unhide Qyv8) hb
  have Qdv9 : Hid (RdReq v9 r h2) := (unhide Qdv8).mono hb
  have Qvv9 : Hid (Rd v9 (some ⟨v7.heap.size, 0, none⟩) n us) := Rd.mono (unhide Qvv8) hb
  clear hb
  clear Bv8 Kav8 Zav8 Ktv8 Ztv8 Kxv8 Zxv8 Qrv8 Qgv8 Qyv8 Qdv8 Qvv8
  have ct0 : v9.cell? ⟨v4.heap.size, 0, none⟩ = some (.int .i64 (cheapV r us).id) := ((unhide Ktv9) 0 (by simp)).1
  have ct1 : v9.cell? ⟨v4.heap.size, 1, none⟩ = some (.int .i64 (cheapV r us).wd) := ((unhide Ktv9) 1 (by simp)).1
  have ct2 : v9.cell? ⟨v4.heap.size, 2, none⟩ = some (.int .i64 (cheapV r us).ht) := ((unhide Ktv9) 2 (by simp)).1
  have ct3 : v9.cell? ⟨v4.heap.size, 3, none⟩ = some (.int .i64 (cheapV r us).dp) := ((unhide Ktv9) 3 (by simp)).1
  have ct4 : v9.cell? ⟨v4.heap.size, 4, none⟩ = some (.int .i64 (cheapV r us).tare) := ((unhide Ktv9) 4 (by simp)).1
  have ct5 : v9.cell? ⟨v4.heap.size, 5, none⟩ = some (.int .i64 (cheapV r us).gram) := ((unhide Ktv9) 5 (by simp)).1
  have ct6 : v9.cell? ⟨v4.heap.size, 6, none⟩ = some (.int .i64 (cheapV r us).cost) := ((unhide Ktv9) 6 (by simp)).1
  go_wp2_with fail
  clear ct0 ct1 ct2 ct3 ct4 ct5 ct6
  have Bv10 : Hid (Below w.heap.size w (v9.alloc (.cells #[.int .i64 (cheapV r us).id, .int .i64 (cheapV r us).wd, .int .i64 (cheapV r us).ht, .int .i64 (cheapV r us).dp, .int .i64 (cheapV r us).tare, .int .i64 (cheapV r us).gram, .int .i64 (cheapV r us).cost] 55))) := (unhide Bv9).alloc (unhide Bv9).size _
  have Kmv10 : Hid (Blk (v9.alloc (.cells #[.int .i64 (cheapV r us).id, .int .i64 (cheapV r us).wd, .int .i64 (cheapV r us).ht, .int .i64 (cheapV r us).dp, .int .i64 (cheapV r us).tare, .int .i64 (cheapV r us).gram, .int .i64 (cheapV r us).cost] 55)) v9.heap.size [.int .i64 (cheapV r us).id, .int .i64 (cheapV r us).wd, .int .i64 (cheapV r us).ht, .int .i64 (cheapV r us).dp, .int .i64 (cheapV r us).tare, .int .i64 (cheapV r us).gram, .int .i64 (cheapV r us).cost]) := Blk.allocAt [.int .i64 (cheapV r us).id, .int .i64 (cheapV r us).wd, .int .i64 (cheapV r us).ht, .int .i64 (cheapV r us).dp, .int .i64 (cheapV r us).tare, .int .i64 (cheapV r us).gram, .int .i64 (cheapV r us).cost] rfl
  have Zmv10 : v9.heap.size < (v9.alloc (.cells #[.int .i64 (cheapV r us).id, .int .i64 (cheapV r us).wd, .int .i64 (cheapV r us).ht, .int .i64 (cheapV r us).dp, .int .i64 (cheapV r us).tare, .int .i64 (cheapV r us).gram, .int .i64 (cheapV r us).cost] 55)).heap.size := by simp
  have Gm : w.heap.size ≤ v9.heap.size := (unhide Bv9).size
  have Kav10 : Hid (Blk (v9.alloc (.cells #[.int .i64 (cheapV r us).id, .int .i64 (cheapV r us).wd, .int .i64 (cheapV r us).ht, .int .i64 (cheapV r us).dp, .int .i64 (cheapV r us).tare, .int .i64 (cheapV r us).gram, .int .i64 (cheapV r us).cost] 55)) w.heap.size [.int .i64 r.way, .int .i64 r.pal.wd, .int .i64 r.pal.dp, .int .i64 r.pal.ht, .int .i64 r.pal.gram, .int .i64 r.classes, .slice h.ap r.pairs.length h.cp, .slice h.at' r.types.length h.ct, .int .i64 r.master, .slice h.ai r.items.length h.ci]) := (unhide Kav9).allocOld Zav9 _
  have Zav10 : w.heap.size < (v9.alloc (.cells #[.int .i64 (cheapV r us).id, .int .i64 (cheapV r us).wd, .int .i64 (cheapV r us).ht, .int .i64 (cheapV r us).dp, .int .i64 (cheapV r us).tare, .int .i64 (cheapV r us).gram, .int .i64 (cheapV r us).cost] 55)).heap.size := by simp <;> omega
  have Nqam : w.heap.size ≠ v9.heap.size := Nat.ne_of_lt Zav9
  have Nqma : v9.heap.size ≠ w.heap.size := Ne.symm Nqam
  have Ktv10 : Hid (Blk (v9.alloc (.cells #[.int .i64 (cheapV r us).id, .int .i64 (cheapV r us).wd, .int .i64 (cheapV r us).ht, .int .i64 (cheapV r us).dp, .int .i64 (cheapV r us).tare, .int .i64 (cheapV r us).gram, .int .i64 (cheapV r us).cost] 55)) v4.heap.size [.int .i64 (cheapV r us).id, .int .i64 (cheapV r us).wd, .int .i64 (cheapV r us).ht, .int .i64 (cheapV r us).dp, .int .i64 (cheapV r us).tare, .int .i64 (cheapV r us).gram, .int .i64 (cheapV r us).cost]) := (unhide Ktv9).allocOld Ztv9 _
  have Ztv10 : v4.heap.size < (v9.alloc (.cells #[.int .i64 (cheapV r us).id, .int .i64 (cheapV r us).wd, .int .i64 (cheapV r us).ht, .int .i64 (cheapV r us).dp, .int .i64 (cheapV r us).tare, .int .i64 (cheapV r us).gram, .int .i64 (cheapV r us).cost] 55)).heap.size := by simp <;> omega
  have Nqtm : v4.heap.size ≠ v9.heap.size := Nat.ne_of_lt Ztv9
  have Nqmt : v9.heap.size ≠ v4.heap.size := Ne.symm Nqtm
  have Kxv10 : Hid (Blk (v9.alloc (.cells #[.int .i64 (cheapV r us).id, .int .i64 (cheapV r us).wd, .int .i64 (cheapV r us).ht, .int .i64 (cheapV r us).dp, .int .i64 (cheapV r us).tare, .int .i64 (cheapV r us).gram, .int .i64 (cheapV r us).cost] 55)) v6.heap.size [.int .i64 r.way, .int .i64 r.pal.wd, .int .i64 r.pal.dp, .int .i64 r.pal.ht, .int .i64 r.pal.gram, .int .i64 r.classes, .slice h2.ap r.pairs.length h2.cp, .slice h2.at' r.types.length h2.ct, .int .i64 r.master, .slice h2.ai r.items.length h2.ci]) := (unhide Kxv9).allocOld Zxv9 _
  have Zxv10 : v6.heap.size < (v9.alloc (.cells #[.int .i64 (cheapV r us).id, .int .i64 (cheapV r us).wd, .int .i64 (cheapV r us).ht, .int .i64 (cheapV r us).dp, .int .i64 (cheapV r us).tare, .int .i64 (cheapV r us).gram, .int .i64 (cheapV r us).cost] 55)).heap.size := by simp <;> omega
  have Nqxm : v6.heap.size ≠ v9.heap.size := Nat.ne_of_lt Zxv9
  have Nqmx : v9.heap.size ≠ v6.heap.size := Ne.symm Nqxm
  have Qrv10 : Hid (RdReq (v9.alloc (.cells #[.int .i64 (cheapV r us).id, .int .i64 (cheapV r us).wd, .int .i64 (cheapV r us).ht, .int .i64 (cheapV r us).dp, .int .i64 (cheapV r us).tare, .int .i64 (cheapV r us).gram, .int .i64 (cheapV r us).cost] 55)) r h) := (unhide Qrv9).mono ((Below.refl _ _).alloc (Nat.le_refl _) _)
  have Qgv10 : Hid (ErrT (v9.alloc (.cells #[.int .i64 (cheapV r us).id, .int .i64 (cheapV r us).wd, .int .i64 (cheapV r us).ht, .int .i64 (cheapV r us).dp, .int .i64 (cheapV r us).tare, .int .i64 (cheapV r us).gram, .int .i64 (cheapV r us).cost] 55))) := (unhide Qgv9).later ((Below.refl _ _).alloc (Nat.le_refl _) _)
  have Qyv10 : Hid (Rd (v9.alloc (.cells #[.int .i64 (cheapV r us).id, .int .i64 (cheapV r us).wd, .int .i64 (cheapV r us).ht, .int .i64 (cheapV r us).dp, .int .i64 (cheapV r us).tare, .int .i64 (cheapV r us).gram, .int .i64 (cheapV r us).cost] 55)) (a) n us) := Rd.mono (unhide Qyv9) ((Below.refl _ _).alloc (Nat.le_refl _) _)
  have Qdv10 : Hid (RdReq (v9.alloc (.cells #[.int .i64 (cheapV r us).id, .int .i64 (cheapV r us).wd, .int .i64 (cheapV r us).ht, .int .i64 (cheapV r us).dp, .int .i64 (cheapV r us).tare, .int .i64 (cheapV r us).gram, .int .i64 (cheapV r us).cost] 55)) r h2) := (unhide Qdv9).mono ((Below.refl _ _).alloc (Nat.le_refl _) _)
  have Qvv10 : Hid (Rd (v9.alloc (.cells #[.int .i64 (cheapV r us).id, .int .i64 (cheapV r us).wd, .int .i64 (cheapV r us).ht, .int .i64 (cheapV r us).dp, .int .i64 (cheapV r us).tare, .int .i64 (cheapV r us).gram, .int .i64 (cheapV r us).cost] 55)) (some ⟨v7.heap.size, 0, none⟩) n us) := Rd.mono (unhide Qvv9) ((Below.refl _ _).alloc (Nat.le_refl _) _)
  clear Bv9 Kav9 Zav9 Ktv9 Ztv9 Kxv9 Zxv9 Qrv9 Qgv9 Qyv9 Qdv9 Qvv9
  generalize (v9.alloc (.cells #[.int .i64 (cheapV r us).id, .int .i64 (cheapV r us).wd, .int .i64 (cheapV r us).ht, .int .i64 (cheapV r us).dp, .int .i64 (cheapV r us).tare, .int .i64 (cheapV r us).gram, .int .i64 (cheapV r us).cost] 55)) = v10 at *
  refine (eqType_same _ _ _ _ _ _ _ _).mono ?_
  rintro e v11 ⟨rfl, hb⟩
  have Bv11 := hide ((unhide Bv10).trans (hb.mono (unhide Bv10).size))
  have Kav11 := hide (Blk.below hb Zav10 (unhide Kav10))
  have Zav11 := Nat.lt_of_lt_of_le Zav10 hb.size
  have Ktv11 := hide (Blk.below hb Ztv10 (unhide Ktv10))
  have Ztv11 := Nat.lt_of_lt_of_le Ztv10 hb.size
  have Kxv11 := hide (Blk.below hb Zxv10 (unhide Kxv10))
  have Zxv11 := Nat.lt_of_lt_of_le Zxv10 hb.size
  have Kmv11 := hide (Blk.below hb Zmv10 (unhide Kmv10))
  have Zmv11 := Nat.lt_of_lt_of_le Zmv10 hb.size
  have Qrv11 : Hid (RdReq v11 r h) := (unhide Qrv10).mono hb
  have Qgv11 : Hid (ErrT v11) := (unhide Qgv10).later hb
  have Qyv11 : Hid (Rd v11 (a) n us) := Rd.mono (unhide Qyv10) hb
  have Qdv11 : Hid (RdReq v11 r h2) := (unhide Qdv10).mono hb
  have Qvv11 : Hid (Rd v11 (some ⟨v7.heap.size, 0, none⟩) n us) := Rd.mono (unhide Qvv10) hb
  clear hb
  clear Bv10 Kav10 Zav10 Ktv10 Ztv10 Kxv10 Zxv10 Kmv10 Zmv10 Qrv10 Qgv10 Qyv10 Qdv10 Qvv10
  go_upto_region 13 with fail
  go_cut [51] (fun v wc => v = .bool false ∧ Blk wc w.heap.size [.int .i64 r.way, .int .i64 r.pal.wd, .int .i64 r.pal.dp, .int .i64 r.pal.ht, .int .i64 r.pal.gram, .int .i64 r.classes, .slice h.ap r.pairs.length h.cp, .slice h.at' r.types.length h.ct, .int .i64 r.master, .slice h.ai r.items.length h.ci] ∧ w.heap.size < wc.heap.size ∧ Blk wc v4.heap.size [.int .i64 (cheapV r us).id, .int .i64 (cheapV r us).wd, .int .i64 (cheapV r us).ht, .int .i64 (cheapV r us).dp, .int .i64 (cheapV r us).tare, .int .i64 (cheapV r us).gram, .int .i64 (cheapV r us).cost] ∧ v4.heap.size < wc.heap.size ∧ Blk wc v6.heap.size [.int .i64 r.way, .int .i64 r.pal.wd, .int .i64 r.pal.dp, .int .i64 r.pal.ht, .int .i64 r.pal.gram, .int .i64 r.classes, .slice h2.ap r.pairs.length h2.cp, .slice h2.at' r.types.length h2.ct, .int .i64 r.master, .slice h2.ai r.items.length h2.ci] ∧ v6.heap.size < wc.heap.size ∧ Blk wc v9.heap.size [.int .i64 (cheapV r us).id, .int .i64 (cheapV r us).wd, .int .i64 (cheapV r us).ht, .int .i64 (cheapV r us).dp, .int .i64 (cheapV r us).tare, .int .i64 (cheapV r us).gram, .int .i64 (cheapV r us).cost] ∧ v9.heap.size < wc.heap.size ∧ RdReq wc r h ∧ ErrT wc ∧ Rd wc (a) n us ∧ RdReq wc r h2 ∧ Rd wc (some ⟨v7.heap.size, 0, none⟩) n us ∧ Below w.heap.size w wc)
  case first =>
    refine wp_region_noPanic ?_
    have Bu0 : Hid (Below w.heap.size w v11.drew) := (unhide Bv11).drew
    have Qru0 : Hid (RdReq v11.drew r h) := (unhide Qrv11).mono (Below.refl _ _).drew
    have Qgu0 : Hid (ErrT v11.drew) := (unhide Qgv11).later (Below.refl _ _).drew
    have Qyu0 : Hid (Rd v11.drew (a) n us) := Rd.mono (unhide Qyv11) (Below.refl _ _).drew
    have Qdu0 : Hid (RdReq v11.drew r h2) := (unhide Qdv11).mono (Below.refl _ _).drew
    have Qvu0 : Hid (Rd v11.drew (some ⟨v7.heap.size, 0, none⟩) n us) := Rd.mono (unhide Qvv11) (Below.refl _ _).drew
    have Kau0 : Hid (Blk v11.drew w.heap.size [.int .i64 r.way, .int .i64 r.pal.wd, .int .i64 r.pal.dp, .int .i64 r.pal.ht, .int .i64 r.pal.gram, .int .i64 r.classes, .slice h.ap r.pairs.length h.cp, .slice h.at' r.types.length h.ct, .int .i64 r.master, .slice h.ai r.items.length h.ci]) := unhide Kav11
    have Zau0 : w.heap.size < v11.drew.heap.size := Zav11
    have Ktu0 : Hid (Blk v11.drew v4.heap.size [.int .i64 (cheapV r us).id, .int .i64 (cheapV r us).wd, .int .i64 (cheapV r us).ht, .int .i64 (cheapV r us).dp, .int .i64 (cheapV r us).tare, .int .i64 (cheapV r us).gram, .int .i64 (cheapV r us).cost]) := unhide Ktv11
    have Ztu0 : v4.heap.size < v11.drew.heap.size := Ztv11
    have Kxu0 : Hid (Blk v11.drew v6.heap.size [.int .i64 r.way, .int .i64 r.pal.wd, .int .i64 r.pal.dp, .int .i64 r.pal.ht, .int .i64 r.pal.gram, .int .i64 r.classes, .slice h2.ap r.pairs.length h2.cp, .slice h2.at' r.types.length h2.ct, .int .i64 r.master, .slice h2.ai r.items.length h2.ci]) := unhide Kxv11
    have Zxu0 : v6.heap.size < v11.drew.heap.size := Zxv11
    have Kmu0 : Hid (Blk v11.drew v9.heap.size [.int .i64 (cheapV r us).id, .int .i64 (cheapV r us).wd, .int .i64 (cheapV r us).ht, .int .i64 (cheapV r us).dp, .int .i64 (cheapV r us).tare, .int .i64 (cheapV r us).gram, .int .i64 (cheapV r us).cost]) := unhide Kmv11
    have Zmu0 : v9.heap.size < v11.drew.heap.size := Zmv11
    obtain ⟨S, hSdef⟩ : ∃ S : World → Prop, S = (fun w' => w'.cell? ⟨v6.heap.size, 0, none⟩ = some (.int .i64 r.way) ∧ w'.cell? ⟨v6.heap.size, 1, none⟩ = some (.int .i64 r.pal.wd) ∧ w'.cell? ⟨v6.heap.size, 2, none⟩ = some (.int .i64 r.pal.dp) ∧ w'.cell? ⟨v6.heap.size, 3, none⟩ = some (.int .i64 r.pal.ht) ∧ w'.cell? ⟨v6.heap.size, 4, none⟩ = some (.int .i64 r.pal.gram) ∧ w'.cell? ⟨v6.heap.size, 5, none⟩ = some (.int .i64 r.classes) ∧ w'.cell? ⟨v6.heap.size, 6, none⟩ = some (.slice h2.ap r.pairs.length h2.cp) ∧ w'.cell? ⟨v6.heap.size, 7, none⟩ = some (.slice h2.at' r.types.length h2.ct) ∧ w'.cell? ⟨v6.heap.size, 8, none⟩ = some (.int .i64 r.master) ∧ w'.cell? ⟨v6.heap.size, 9, none⟩ = some (.slice h2.ai r.items.length h2.ci) ∧ w'.cell? ⟨w.heap.size, 0, none⟩ = some (.int .i64 r.way) ∧ w'.cell? ⟨w.heap.size, 1, none⟩ = some (.int .i64 r.pal.wd) ∧ w'.cell? ⟨w.heap.size, 2, none⟩ = some (.int .i64 r.pal.dp) ∧ w'.cell? ⟨w.heap.size, 3, none⟩ = some (.int .i64 r.pal.ht) ∧ w'.cell? ⟨w.heap.size, 4, none⟩ = some (.int .i64 r.pal.gram) ∧ w'.cell? ⟨w.heap.size, 5, none⟩ = some (.int .i64 r.classes) ∧ w'.cell? ⟨w.heap.size, 6, none⟩ = some (.slice h.ap r.pairs.length h.cp) ∧ w'.cell? ⟨w.heap.size, 7, none⟩ = some (.slice h.at' r.types.length h.ct) ∧ w'.cell? ⟨w.heap.size, 8, none⟩ = some (.int .i64 r.master) ∧ w'.cell? ⟨w.heap.size, 9, none⟩ = some (.slice h.ai r.items.length h.ci)) := ⟨_, rfl⟩
    have hSmk : ∀ wq, Blk wq v6.heap.size [.int .i64 r.way, .int .i64 r.pal.wd, .int .i64 r.pal.dp, .int .i64 r.pal.ht, .int .i64 r.pal.gram, .int .i64 r.classes, .slice h2.ap r.pairs.length h2.cp, .slice h2.at' r.types.length h2.ct, .int .i64 r.master, .slice h2.ai r.items.length h2.ci] → Blk wq w.heap.size [.int .i64 r.way, .int .i64 r.pal.wd, .int .i64 r.pal.dp, .int .i64 r.pal.ht, .int .i64 r.pal.gram, .int .i64 r.classes, .slice h.ap r.pairs.length h.cp, .slice h.at' r.types.length h.ct, .int .i64 r.master, .slice h.ai r.items.length h.ci] → S wq := fun wq kx ka => by rw [hSdef]; exact ⟨(kx 0 (by simp)).1, (kx 1 (by simp)).1, (kx 2 (by simp)).1, (kx 3 (by simp)).1, (kx 4 (by simp)).1, (kx 5 (by simp)).1, (kx 6 (by simp)).1, (kx 7 (by simp)).1, (kx 8 (by simp)).1, (kx 9 (by simp)).1, (ka 0 (by simp)).1, (ka 1 (by simp)).1, (ka 2 (by simp)).1, (ka 3 (by simp)).1, (ka 4 (by simp)).1, (ka 5 (by simp)).1, (ka 6 (by simp)).1, (ka 7 (by simp)).1, (ka 8 (by simp)).1, (ka 9 (by simp)).1⟩
    have hSd : ∀ wq, S wq → (fun w' => w'.cell? ⟨v6.heap.size, 0, none⟩ = some (.int .i64 r.way) ∧ w'.cell? ⟨v6.heap.size, 1, none⟩ = some (.int .i64 r.pal.wd) ∧ w'.cell? ⟨v6.heap.size, 2, none⟩ = some (.int .i64 r.pal.dp) ∧ w'.cell? ⟨v6.heap.size, 3, none⟩ = some (.int .i64 r.pal.ht) ∧ w'.cell? ⟨v6.heap.size, 4, none⟩ = some (.int .i64 r.pal.gram) ∧ w'.cell? ⟨v6.heap.size, 5, none⟩ = some (.int .i64 r.classes) ∧ w'.cell? ⟨v6.heap.size, 6, none⟩ = some (.slice h2.ap r.pairs.length h2.cp) ∧ w'.cell? ⟨v6.heap.size, 7, none⟩ = some (.slice h2.at' r.types.length h2.ct) ∧ w'.cell? ⟨v6.heap.size, 8, none⟩ = some (.int .i64 r.master) ∧ w'.cell? ⟨v6.heap.size, 9, none⟩ = some (.slice h2.ai r.items.length h2.ci) ∧ w'.cell? ⟨w.heap.size, 0, none⟩ = some (.int .i64 r.way) ∧ w'.cell? ⟨w.heap.size, 1, none⟩ = some (.int .i64 r.pal.wd) ∧ w'.cell? ⟨w.heap.size, 2, none⟩ = some (.int .i64 r.pal.dp) ∧ w'.cell? ⟨w.heap.size, 3, none⟩ = some (.int .i64 r.pal.ht) ∧ w'.cell? ⟨w.heap.size, 4, none⟩ = some (.int .i64 r.pal.gram) ∧ w'.cell? ⟨w.heap.size, 5, none⟩ = some (.int .i64 r.classes) ∧ w'.cell? ⟨w.heap.size, 6, none⟩ = some (.slice h.ap r.pairs.length h.cp) ∧ w'.cell? ⟨w.heap.size, 7, none⟩ = some (.slice h.at' r.types.length h.ct) ∧ w'.cell? ⟨w.heap.size, 8, none⟩ = some (.int .i64 r.master) ∧ w'.cell? ⟨w.heap.size, 9, none⟩ = some (.slice h.ai r.items.length h.ci)) wq := fun wq h => by rw [hSdef] at h; exact h
    clear hSdef
    have hHeld : S v11.drew := hSmk v11.drew (unhide Kxu0) (unhide Kau0)
    refine wp_region_to (S := S) (T := []) (by kernel_rfl) hHeld (fun _ => ?_)
    generalize v11.drew = u0 at *
    refine wpTo_tk (i := 0) (v := ?_) rfl (by kernel_rfl) (Or.inl ⟨by rfl, ?_⟩) (by assumption) ?_
    rotate_left
    · intro w hSw
      have hSw := hSd _ hSw
      (try dsimp only at hSw)
      go_simp <;> with_reducible rfl
    refine wpTo_tk (i := 1) (v := ?_) rfl (by kernel_rfl) (Or.inl ⟨by rfl, ?_⟩) (by assumption) ?_
    rotate_left
    · intro w hSw
      have hSw := hSd _ hSw
      (try dsimp only at hSw)
      go_simp <;> with_reducible rfl
    try simp only [Act.put, List.getElem_toArray, List.getElem_cons_zero, List.getElem_cons_succ, List.setIfInBounds_toArray, List.set_cons_zero, List.set_cons_succ]
    refine wpTo_ready (rs := [2]) (by kernel_rfl) (by simp) ?_
    refine AllTo.cons (o := _) rfl (fun K hK => ?_) ?_
    ·
     (try simp only [List.getElem_toArray, List.getElem_cons_zero, List.getElem_cons_succ])
     go_simp
     refine (toRequest_any r h u0 (unhide Qru0) hsm).mono ?_
     rintro e u12 ⟨h1, rfl, hq, hf, hb⟩
     have Bu12 := hide ((unhide Bu0).trans (hb.mono (unhide Bu0).size))
     have Kau12 := hide (Blk.below hb Zau0 (unhide Kau0))
     have Zau12 := Nat.lt_of_lt_of_le Zau0 hb.size
     have Ktu12 := hide (Blk.below hb Ztu0 (unhide Ktu0))
     have Ztu12 := Nat.lt_of_lt_of_le Ztu0 hb.size
     have Kxu12 := hide (Blk.below hb Zxu0 (unhide Kxu0))
     have Zxu12 := Nat.lt_of_lt_of_le Zxu0 hb.size
     have Kmu12 := hide (Blk.below hb Zmu0 (unhide Kmu0))
     have Zmu12 := Nat.lt_of_lt_of_le Zmu0 hb.size
     have Qru12 : Hid (RdReq u12 r h) := (unhide Qru0).mono hb
     have Qgu12 : Hid (ErrT u12) := (unhide Qgu0).later hb
     have Qyu12 : Hid (Rd u12 (a) n us) := Rd.mono (unhide Qyu0) hb
     have Qdu12 : Hid (RdReq u12 r h2) := (unhide Qdu0).mono hb
     have Qvu12 : Hid (Rd u12 (some ⟨v7.heap.size, 0, none⟩) n us) := Rd.mono (unhide Qvu0) hb
     have Qcu12 : Hid (RdReq u12 r h1) := hq
     clear hq hf
     clear hb
     clear Bu0 Kau0 Zau0 Ktu0 Ztu0 Kxu0 Zxu0 Kmu0 Zmu0 Qru0 Qgu0 Qyu0 Qdu0 Qvu0
     clear hHeld
     go_wp2_with fail
     have hHeld := hSmk u12 (unhide Kxu12) (unhide Kau12)
     refine hK.out _ _ (fun _ => hHeld) ?_
     clear hK K
     try simp only [Act.put, List.getElem_toArray, List.getElem_cons_zero, List.getElem_cons_succ, List.setIfInBounds_toArray, List.set_cons_zero, List.set_cons_succ]
     refine wpTo_ready (rs := [3]) (by kernel_rfl) (by simp) ?_
     refine AllTo.cons (o := _) rfl (fun K hK => ?_) ?_
     ·
      (try simp only [List.getElem_toArray, List.getElem_cons_zero, List.getElem_cons_succ])
      go_simp
      refine (eqRequest_same r h2 h1 u12 (unhide Qdu12) (unhide Qcu12) hsm).mono ?_
      rintro e u13 ⟨rfl, hb⟩
      have Bu13 := hide ((unhide Bu12).trans (hb.mono (unhide Bu12).size))
      have Kau13 := hide (Blk.below hb Zau12 (unhide Kau12))
      have Zau13 := Nat.lt_of_lt_of_le Zau12 hb.size
      have Ktu13 := hide (Blk.below hb Ztu12 (unhide Ktu12))
      have Ztu13 := Nat.lt_of_lt_of_le Ztu12 hb.size
      have Kxu13 := hide (Blk.below hb Zxu12 (unhide Kxu12))
      have Zxu13 := Nat.lt_of_lt_of_le Zxu12 hb.size
      have Kmu13 := hide (Blk.below hb Zmu12 (unhide Kmu12))
      have Zmu13 := Nat.lt_of_lt_of_le Zmu12 hb.size
      have Qru13 : Hid (RdReq u13 r h) := (unhide Qru12).mono hb
      have Qgu13 : Hid (ErrT u13) := (unhide Qgu12).later hb
      have Qyu13 : Hid (Rd u13 (a) n us) := Rd.mono (unhide Qyu12) hb
      have Qdu13 : Hid (RdReq u13 r h2) := (unhide Qdu12).mono hb
      have Qvu13 : Hid (Rd u13 (some ⟨v7.heap.size, 0, none⟩) n us) := Rd.mono (unhide Qvu12) hb
      have Qcu13 : Hid (RdReq u13 r h1) := (unhide Qcu12).mono hb
      clear hb
      clear Bu12 Kau12 Zau12 Ktu12 Ztu12 Kxu12 Zxu12 Kmu12 Zmu12 Qru12 Qgu12 Qyu12 Qdu12 Qvu12 Qcu12
      clear hHeld
      go_wp2_with fail
      have hHeld := hSmk u13 (unhide Kxu13) (unhide Kau13)
      refine hK.out _ _ (fun _ => hHeld) ?_
      clear hK K
      try simp only [Act.put, List.getElem_toArray, List.getElem_cons_zero, List.getElem_cons_succ, List.setIfInBounds_toArray, List.set_cons_zero, List.set_cons_succ]
      refine wpTo_tk (i := 4) (v := ?_) rfl (by kernel_rfl) (Or.inl ⟨by rfl, ?_⟩) (by assumption) ?_
      rotate_left
      · intro w hSw
        have hSw := hSd _ hSw
        (try dsimp only at hSw)
        go_simp <;> with_reducible rfl
      try simp only [Act.put, List.getElem_toArray, List.getElem_cons_zero, List.getElem_cons_succ, List.setIfInBounds_toArray, List.set_cons_zero, List.set_cons_succ]
      refine wpTo_done (by kernel_rfl) ?_ _
      refine NoPanic.normal ?_
      go_wp2_with fail
      go_meet
      case rel => exact ⟨rfl, unhide Kau13, Zau13, unhide Ktu13, Ztu13, unhide Kxu13, Zxu13, unhide Kmu13, Zmu13, unhide Qru13, unhide Qgu13, unhide Qyu13, unhide Qdu13, unhide Qvu13, unhide Bu13⟩
     exact AllTo.nil
    exact AllTo.nil
  case rest =>
    clear Bv11 Kav11 Zav11 Ktv11 Ztv11 Kxv11 Zxv11 Kmv11 Zmv11 Qrv11 Qgv11 Qyv11 Qdv11 Qvv11
    obtain ⟨rfl, ka, za, kt, zt, kx, zx, km, zm, qr, qg, qy, qd, qv, hb⟩ := hcut
    obtain ⟨wC, hw8⟩ : ∃ w8 : World, w8 = wc := ⟨_, rfl⟩
    subst wc
    have BwC := hide hb
    have KawC := hide ka
    have ZawC : w.heap.size < wC.heap.size := za
    have KtwC := hide kt
    have ZtwC : v4.heap.size < wC.heap.size := zt
    have KxwC := hide kx
    have ZxwC : v6.heap.size < wC.heap.size := zx
    have KmwC := hide km
    have ZmwC : v9.heap.size < wC.heap.size := zm
    have QrwC : Hid (RdReq wC r h) := qr
    have QgwC : Hid (ErrT wC) := qg
    have QywC : Hid (Rd wC (a) n us) := qy
    have QdwC : Hid (RdReq wC r h2) := qd
    have QvwC : Hid (Rd wC (some ⟨v7.heap.size, 0, none⟩) n us) := qv
    clear hb ka za kt zt kx zx km zm qr qg qy qd qv
    go_wp2_with fail
    refine (toIntS_any a n c us _ (unhide QywC) hn6).mono ?_
    rintro e v12 ⟨rfl, ho, hb⟩
    have Bv12 := hide ((unhide BwC).trans (hb.mono (unhide BwC).size))
    have Kav12 := hide (Blk.below hb ZawC (unhide KawC))
    have Zav12 := Nat.lt_of_lt_of_le ZawC hb.size
    have Ktv12 := hide (Blk.below hb ZtwC (unhide KtwC))
    have Ztv12 := Nat.lt_of_lt_of_le ZtwC hb.size
    have Kxv12 := hide (Blk.below hb ZxwC (unhide KxwC))
    have Zxv12 := Nat.lt_of_lt_of_le ZxwC hb.size
    have Kmv12 := hide (Blk.below hb ZmwC (unhide KmwC))
    have Zmv12 := Nat.lt_of_lt_of_le ZmwC hb.size
    have Qrv12 : Hid (RdReq v12 r h) := (unhide QrwC).mono hb
    have Qgv12 : Hid (ErrT v12) := (unhide QgwC).later hb
    have Qyv12 : Hid (Rd v12 (a) n us) := Rd.mono (unhide QywC) hb
    have Qdv12 : Hid (RdReq v12 r h2) := (unhide QdwC).mono hb
    have Qvv12 : Hid (Rd v12 (some ⟨v7.heap.size, 0, none⟩) n us) := Rd.mono (unhide QvwC) hb
    clear hb
    clear BwC KawC ZawC KtwC ZtwC KxwC ZxwC KmwC ZmwC QrwC QgwC QywC QdwC QvwC
    have Qsv12 : Hid (Rd v12 (some ⟨wC.heap.size, 0, none⟩) n us) := Rd.of_owns ho
    clear ho
    go_wp2_with fail
    refine (eqIntS_same _ _ _ _ _ us _ (unhide Qvv12) (unhide Qsv12) hn6).mono ?_
    rintro e v13 ⟨rfl, hb⟩
    have Bv13 := hide ((unhide Bv12).trans (hb.mono (unhide Bv12).size))
    have Kav13 := hide (Blk.below hb Zav12 (unhide Kav12))
    have Zav13 := Nat.lt_of_lt_of_le Zav12 hb.size
    have Ktv13 := hide (Blk.below hb Ztv12 (unhide Ktv12))
    have Ztv13 := Nat.lt_of_lt_of_le Ztv12 hb.size
    have Kxv13 := hide (Blk.below hb Zxv12 (unhide Kxv12))
    have Zxv13 := Nat.lt_of_lt_of_le Zxv12 hb.size
    have Kmv13 := hide (Blk.below hb Zmv12 (unhide Kmv12))
    have Zmv13 := Nat.lt_of_lt_of_le Zmv12 hb.size
    have Qrv13 : Hid (RdReq v13 r h) := (unhide Qrv12).mono hb
    have Qgv13 : Hid (ErrT v13) := (unhide Qgv12).later hb
    have Qyv13 : Hid (Rd v13 (a) n us) := Rd.mono (unhide Qyv12) hb
    have Qdv13 : Hid (RdReq v13 r h2) := (unhide Qdv12).mono hb
    have Qvv13 : Hid (Rd v13 (some ⟨v7.heap.size, 0, none⟩) n us) := Rd.mono (unhide Qvv12) hb
    have Qsv13 : Hid (Rd v13 (some ⟨wC.heap.size, 0, none⟩) n us) := Rd.mono (unhide Qsv12) hb
    clear hb
    clear Bv12 Kav12 Zav12 Ktv12 Ztv12 Kxv12 Zxv12 Kmv12 Zmv12 Qrv12 Qgv12 Qyv12 Qdv12 Qvv12 Qsv12
    go_wp2_with fail
    go_ret
    exact ⟨rfl, unhide Bv13⟩
end Go.Proofs.YtphdeojiehigpaaGreatDoor
