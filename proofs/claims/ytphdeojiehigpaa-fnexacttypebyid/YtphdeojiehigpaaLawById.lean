/- The law of TypeById, walked. -/
import Derived.Test.YtphdeojiehigpaaPkD
import Derived.Test.YtphdeojiehigpaaHeldAlone
import Derived.Deep.RegionHeld3
import Derived.Test.YtphdeojiehigpaaPkA
import Derived.Deep.DeepMust
import Derived.Deep.DeepCutAuto
namespace Go.Proofs.Ytphdeojiehigpaa
open Go.RowKit
set_option linter.unusedVariables false
set_option linter.unusedSimpArgs false
set_option maxRecDepth 100000 in
set_option maxHeartbeats 4000000 in
theorem law_typeById (r : ReqV) (h : ReqH) (m : Int) (w : World) (hr : RdReq w r h) (hp : r.pairs.length ≤ maxLen) (ht : r.types.length ≤ maxLen) (hi : r.items.length ≤ maxLen) :
    Calls Try.prog 3 #[reqVal r h, .int .i64 m] w fun e w' => e = .returned (.bool true) ∧ Below w.heap.size w w' := by
  have hne : (byIdB r m != byIdB r m) = false := by simp
  by_cases hs : (1048576 : Int) - r.pairs.length - r.types.length - r.items.length < 0
  · unfold reqVal
    go_enter Try.func3, Try.ntmps3
    go_wp2_with fail
    refine (szRequest_any r h _ _ (by omega) (by omega) hp ht hi).mono ?_
    rintro e w1 ⟨rfl, hb1⟩
    rw [if_pos (by omega)]
    have H1 : Hid (Below w.heap.size w w1) := ((Below.refl w.heap.size w).alloc (Nat.le_refl _) _).trans (hb1.mono (by simp))
    clear hb1
    go_wp2_with fail
    go_ret
    exact ⟨rfl, unhide H1⟩
  have hsm : r.small := by unfold ReqV.small; omega
  have htl : r.types.length ≤ 1048600 := by unfold ReqV.small at hsm; omega
  unfold reqVal
  go_enter Try.func3, Try.ntmps3
  go_wp2_with fail
  have BwA : Hid (Below w.heap.size w (w.alloc (.cells #[.int .i64 r.way, .int .i64 r.pal.wd, .int .i64 r.pal.dp, .int .i64 r.pal.ht, .int .i64 r.pal.gram, .int .i64 r.classes, .slice h.ap r.pairs.length h.cp, .slice h.at' r.types.length h.ct, .int .i64 r.master, .slice h.ai r.items.length h.ci] 28))) := ((Below.refl _ _).alloc (by simp) _)
  have KawA : Hid (Blk (w.alloc (.cells #[.int .i64 r.way, .int .i64 r.pal.wd, .int .i64 r.pal.dp, .int .i64 r.pal.ht, .int .i64 r.pal.gram, .int .i64 r.classes, .slice h.ap r.pairs.length h.cp, .slice h.at' r.types.length h.ct, .int .i64 r.master, .slice h.ai r.items.length h.ci] 28)) w.heap.size [.int .i64 r.way, .int .i64 r.pal.wd, .int .i64 r.pal.dp, .int .i64 r.pal.ht, .int .i64 r.pal.gram, .int .i64 r.classes, .slice h.ap r.pairs.length h.cp, .slice h.at' r.types.length h.ct, .int .i64 r.master, .slice h.ai r.items.length h.ci]) := (Blk.allocAt (w := w) [.int .i64 r.way, .int .i64 r.pal.wd, .int .i64 r.pal.dp, .int .i64 r.pal.ht, .int .i64 r.pal.gram, .int .i64 r.classes, .slice h.ap r.pairs.length h.cp, .slice h.at' r.types.length h.ct, .int .i64 r.master, .slice h.ai r.items.length h.ci] (by simp))
  have ZawA : w.heap.size < (w.alloc (.cells #[.int .i64 r.way, .int .i64 r.pal.wd, .int .i64 r.pal.dp, .int .i64 r.pal.ht, .int .i64 r.pal.gram, .int .i64 r.classes, .slice h.ap r.pairs.length h.cp, .slice h.at' r.types.length h.ct, .int .i64 r.master, .slice h.ai r.items.length h.ci] 28)).heap.size := by simp
  have Ga : w.heap.size ≤ w.heap.size := by omega
  generalize (w.alloc (.cells #[.int .i64 r.way, .int .i64 r.pal.wd, .int .i64 r.pal.dp, .int .i64 r.pal.ht, .int .i64 r.pal.gram, .int .i64 r.classes, .slice h.ap r.pairs.length h.cp, .slice h.at' r.types.length h.ct, .int .i64 r.master, .slice h.ai r.items.length h.ci] 28)) = wA at *
  have QrwA : Hid (RdReq wA r h) := hr.mono (unhide BwA)
  clear hr
  refine (szRequest_any r h _ _ (by omega) (by omega) hp ht hi).mono ?_
  rintro e v1 ⟨rfl, hb⟩
  have Bv1 := hide ((unhide BwA).trans (hb.mono (unhide BwA).size))
  have Kav1 := hide (Blk.below hb ZawA (unhide KawA))
  have Zav1 := Nat.lt_of_lt_of_le ZawA hb.size
  have Qrv1 : Hid (RdReq v1 r h) := (unhide QrwA).mono hb
  clear hb
  clear BwA KawA ZawA QrwA
  rw [if_neg (by omega)]
  obtain ⟨ca0, ca1, ca2, ca3, ca4, ca5, ca6, ca7, ca8, ca9⟩ := Blk.cs10 (unhide Kav1)
  go_wp2_with fail
  clear ca0 ca1 ca2 ca3 ca4 ca5 ca6 ca7 ca8 ca9
  refine (toRequest_any r h _ (unhide Qrv1) hsm).mono ?_
  rintro e v2 ⟨h1, rfl, hq, hf, hb⟩
  have Bv2 := hide ((unhide Bv1).trans (hb.mono (unhide Bv1).size))
  have Kav2 := hide (Blk.below hb Zav1 (unhide Kav1))
  have Zav2 := Nat.lt_of_lt_of_le Zav1 hb.size
  have Qrv2 : Hid (RdReq v2 r h) := (unhide Qrv1).mono hb
  clear hb
  clear Bv1 Kav1 Zav1 Qrv1
  have Qcv2 : Hid (RdReq v2 r h1) := hq
  clear hq hf
  unfold reqVal
  go_wp2_with fail
  refine (specTypeById_any r h1 m _ (unhide Qcv2) htl).mono ?_
  rintro e v3 ⟨rfl, hb⟩
  have Bv3 := hide ((unhide Bv2).trans (hb.mono (unhide Bv2).size))
  have Kav3 := hide (Blk.below hb Zav2 (unhide Kav2))
  have Zav3 := Nat.lt_of_lt_of_le Zav2 hb.size
  have Qrv3 : Hid (RdReq v3 r h) := (unhide Qrv2).mono hb
  have Qcv3 : Hid (RdReq v3 r h1) := (unhide Qcv2).mono hb
  clear hb
  clear Bv2 Kav2 Zav2 Qrv2 Qcv2
  clear Qcv3
  obtain ⟨ca0, ca1, ca2, ca3, ca4, ca5, ca6, ca7, ca8, ca9⟩ := Blk.cs10 (unhide Kav3)
  go_wp2_with fail
  clear ca0 ca1 ca2 ca3 ca4 ca5 ca6 ca7 ca8 ca9
  have Bv4 : Hid (Below w.heap.size w (v3.alloc (.cells #[.int .i64 (byIdV r m).id, .int .i64 (byIdV r m).wd, .int .i64 (byIdV r m).ht, .int .i64 (byIdV r m).dp, .int .i64 (byIdV r m).tare, .int .i64 (byIdV r m).gram, .int .i64 (byIdV r m).cost] 31))) := (unhide Bv3).alloc (unhide Bv3).size _
  have Ktv4 : Hid (Blk (v3.alloc (.cells #[.int .i64 (byIdV r m).id, .int .i64 (byIdV r m).wd, .int .i64 (byIdV r m).ht, .int .i64 (byIdV r m).dp, .int .i64 (byIdV r m).tare, .int .i64 (byIdV r m).gram, .int .i64 (byIdV r m).cost] 31)) v3.heap.size [.int .i64 (byIdV r m).id, .int .i64 (byIdV r m).wd, .int .i64 (byIdV r m).ht, .int .i64 (byIdV r m).dp, .int .i64 (byIdV r m).tare, .int .i64 (byIdV r m).gram, .int .i64 (byIdV r m).cost]) := Blk.allocAt [.int .i64 (byIdV r m).id, .int .i64 (byIdV r m).wd, .int .i64 (byIdV r m).ht, .int .i64 (byIdV r m).dp, .int .i64 (byIdV r m).tare, .int .i64 (byIdV r m).gram, .int .i64 (byIdV r m).cost] rfl
  have Ztv4 : v3.heap.size < (v3.alloc (.cells #[.int .i64 (byIdV r m).id, .int .i64 (byIdV r m).wd, .int .i64 (byIdV r m).ht, .int .i64 (byIdV r m).dp, .int .i64 (byIdV r m).tare, .int .i64 (byIdV r m).gram, .int .i64 (byIdV r m).cost] 31)).heap.size := by simp
  have Gt : w.heap.size ≤ v3.heap.size := (unhide Bv3).size
  have Kav4 : Hid (Blk (v3.alloc (.cells #[.int .i64 (byIdV r m).id, .int .i64 (byIdV r m).wd, .int .i64 (byIdV r m).ht, .int .i64 (byIdV r m).dp, .int .i64 (byIdV r m).tare, .int .i64 (byIdV r m).gram, .int .i64 (byIdV r m).cost] 31)) w.heap.size [.int .i64 r.way, .int .i64 r.pal.wd, .int .i64 r.pal.dp, .int .i64 r.pal.ht, .int .i64 r.pal.gram, .int .i64 r.classes, .slice h.ap r.pairs.length h.cp, .slice h.at' r.types.length h.ct, .int .i64 r.master, .slice h.ai r.items.length h.ci]) := (unhide Kav3).allocOld Zav3 _
  have Zav4 : w.heap.size < (v3.alloc (.cells #[.int .i64 (byIdV r m).id, .int .i64 (byIdV r m).wd, .int .i64 (byIdV r m).ht, .int .i64 (byIdV r m).dp, .int .i64 (byIdV r m).tare, .int .i64 (byIdV r m).gram, .int .i64 (byIdV r m).cost] 31)).heap.size := by simp <;> omega
  have Nqat : w.heap.size ≠ v3.heap.size := Nat.ne_of_lt Zav3
  have Nqta : v3.heap.size ≠ w.heap.size := Ne.symm Nqat
  have Qrv4 : Hid (RdReq (v3.alloc (.cells #[.int .i64 (byIdV r m).id, .int .i64 (byIdV r m).wd, .int .i64 (byIdV r m).ht, .int .i64 (byIdV r m).dp, .int .i64 (byIdV r m).tare, .int .i64 (byIdV r m).gram, .int .i64 (byIdV r m).cost] 31)) r h) := (unhide Qrv3).mono ((Below.refl _ _).alloc (Nat.le_refl _) _)
  clear Bv3 Kav3 Zav3 Qrv3
  generalize (v3.alloc (.cells #[.int .i64 (byIdV r m).id, .int .i64 (byIdV r m).wd, .int .i64 (byIdV r m).ht, .int .i64 (byIdV r m).dp, .int .i64 (byIdV r m).tare, .int .i64 (byIdV r m).gram, .int .i64 (byIdV r m).cost] 31)) = v4 at *
  refine (toRequest_any r h _ (unhide Qrv4) hsm).mono ?_
  rintro e v5 ⟨h2, rfl, hq, hf, hb⟩
  have Bv5 := hide ((unhide Bv4).trans (hb.mono (unhide Bv4).size))
  have Kav5 := hide (Blk.below hb Zav4 (unhide Kav4))
  have Zav5 := Nat.lt_of_lt_of_le Zav4 hb.size
  have Ktv5 := hide (Blk.below hb Ztv4 (unhide Ktv4))
  have Ztv5 := Nat.lt_of_lt_of_le Ztv4 hb.size
  have Qrv5 : Hid (RdReq v5 r h) := (unhide Qrv4).mono hb
  clear hb
  clear Bv4 Kav4 Zav4 Ktv4 Ztv4 Qrv4
  have Qdv5 : Hid (RdReq v5 r h2) := hq
  clear hq hf
  unfold reqVal
  go_wp2_with fail
  have Bv6 : Hid (Below w.heap.size w (v5.alloc (.cells #[.int .i64 r.way, .int .i64 r.pal.wd, .int .i64 r.pal.dp, .int .i64 r.pal.ht, .int .i64 r.pal.gram, .int .i64 r.classes, .slice h2.ap r.pairs.length h2.cp, .slice h2.at' r.types.length h2.ct, .int .i64 r.master, .slice h2.ai r.items.length h2.ci] 39))) := (unhide Bv5).alloc (unhide Bv5).size _
  have Kxv6 : Hid (Blk (v5.alloc (.cells #[.int .i64 r.way, .int .i64 r.pal.wd, .int .i64 r.pal.dp, .int .i64 r.pal.ht, .int .i64 r.pal.gram, .int .i64 r.classes, .slice h2.ap r.pairs.length h2.cp, .slice h2.at' r.types.length h2.ct, .int .i64 r.master, .slice h2.ai r.items.length h2.ci] 39)) v5.heap.size [.int .i64 r.way, .int .i64 r.pal.wd, .int .i64 r.pal.dp, .int .i64 r.pal.ht, .int .i64 r.pal.gram, .int .i64 r.classes, .slice h2.ap r.pairs.length h2.cp, .slice h2.at' r.types.length h2.ct, .int .i64 r.master, .slice h2.ai r.items.length h2.ci]) := Blk.allocAt [.int .i64 r.way, .int .i64 r.pal.wd, .int .i64 r.pal.dp, .int .i64 r.pal.ht, .int .i64 r.pal.gram, .int .i64 r.classes, .slice h2.ap r.pairs.length h2.cp, .slice h2.at' r.types.length h2.ct, .int .i64 r.master, .slice h2.ai r.items.length h2.ci] rfl
  have Zxv6 : v5.heap.size < (v5.alloc (.cells #[.int .i64 r.way, .int .i64 r.pal.wd, .int .i64 r.pal.dp, .int .i64 r.pal.ht, .int .i64 r.pal.gram, .int .i64 r.classes, .slice h2.ap r.pairs.length h2.cp, .slice h2.at' r.types.length h2.ct, .int .i64 r.master, .slice h2.ai r.items.length h2.ci] 39)).heap.size := by simp
  have Gx : w.heap.size ≤ v5.heap.size := (unhide Bv5).size
  have Kav6 : Hid (Blk (v5.alloc (.cells #[.int .i64 r.way, .int .i64 r.pal.wd, .int .i64 r.pal.dp, .int .i64 r.pal.ht, .int .i64 r.pal.gram, .int .i64 r.classes, .slice h2.ap r.pairs.length h2.cp, .slice h2.at' r.types.length h2.ct, .int .i64 r.master, .slice h2.ai r.items.length h2.ci] 39)) w.heap.size [.int .i64 r.way, .int .i64 r.pal.wd, .int .i64 r.pal.dp, .int .i64 r.pal.ht, .int .i64 r.pal.gram, .int .i64 r.classes, .slice h.ap r.pairs.length h.cp, .slice h.at' r.types.length h.ct, .int .i64 r.master, .slice h.ai r.items.length h.ci]) := (unhide Kav5).allocOld Zav5 _
  have Zav6 : w.heap.size < (v5.alloc (.cells #[.int .i64 r.way, .int .i64 r.pal.wd, .int .i64 r.pal.dp, .int .i64 r.pal.ht, .int .i64 r.pal.gram, .int .i64 r.classes, .slice h2.ap r.pairs.length h2.cp, .slice h2.at' r.types.length h2.ct, .int .i64 r.master, .slice h2.ai r.items.length h2.ci] 39)).heap.size := by simp <;> omega
  have Nqax : w.heap.size ≠ v5.heap.size := Nat.ne_of_lt Zav5
  have Nqxa : v5.heap.size ≠ w.heap.size := Ne.symm Nqax
  have Ktv6 : Hid (Blk (v5.alloc (.cells #[.int .i64 r.way, .int .i64 r.pal.wd, .int .i64 r.pal.dp, .int .i64 r.pal.ht, .int .i64 r.pal.gram, .int .i64 r.classes, .slice h2.ap r.pairs.length h2.cp, .slice h2.at' r.types.length h2.ct, .int .i64 r.master, .slice h2.ai r.items.length h2.ci] 39)) v3.heap.size [.int .i64 (byIdV r m).id, .int .i64 (byIdV r m).wd, .int .i64 (byIdV r m).ht, .int .i64 (byIdV r m).dp, .int .i64 (byIdV r m).tare, .int .i64 (byIdV r m).gram, .int .i64 (byIdV r m).cost]) := (unhide Ktv5).allocOld Ztv5 _
  have Ztv6 : v3.heap.size < (v5.alloc (.cells #[.int .i64 r.way, .int .i64 r.pal.wd, .int .i64 r.pal.dp, .int .i64 r.pal.ht, .int .i64 r.pal.gram, .int .i64 r.classes, .slice h2.ap r.pairs.length h2.cp, .slice h2.at' r.types.length h2.ct, .int .i64 r.master, .slice h2.ai r.items.length h2.ci] 39)).heap.size := by simp <;> omega
  have Nqtx : v3.heap.size ≠ v5.heap.size := Nat.ne_of_lt Ztv5
  have Nqxt : v5.heap.size ≠ v3.heap.size := Ne.symm Nqtx
  have Qrv6 : Hid (RdReq (v5.alloc (.cells #[.int .i64 r.way, .int .i64 r.pal.wd, .int .i64 r.pal.dp, .int .i64 r.pal.ht, .int .i64 r.pal.gram, .int .i64 r.classes, .slice h2.ap r.pairs.length h2.cp, .slice h2.at' r.types.length h2.ct, .int .i64 r.master, .slice h2.ai r.items.length h2.ci] 39)) r h) := (unhide Qrv5).mono ((Below.refl _ _).alloc (Nat.le_refl _) _)
  have Qdv6 : Hid (RdReq (v5.alloc (.cells #[.int .i64 r.way, .int .i64 r.pal.wd, .int .i64 r.pal.dp, .int .i64 r.pal.ht, .int .i64 r.pal.gram, .int .i64 r.classes, .slice h2.ap r.pairs.length h2.cp, .slice h2.at' r.types.length h2.ct, .int .i64 r.master, .slice h2.ai r.items.length h2.ci] 39)) r h2) := (unhide Qdv5).mono ((Below.refl _ _).alloc (Nat.le_refl _) _)
  clear Bv5 Kav5 Zav5 Ktv5 Ztv5 Qrv5 Qdv5
  generalize (v5.alloc (.cells #[.int .i64 r.way, .int .i64 r.pal.wd, .int .i64 r.pal.dp, .int .i64 r.pal.ht, .int .i64 r.pal.gram, .int .i64 r.classes, .slice h2.ap r.pairs.length h2.cp, .slice h2.at' r.types.length h2.ct, .int .i64 r.master, .slice h2.ai r.items.length h2.ci] 39)) = v6 at *
  refine (typeById_any r h2 m _ (unhide Qdv6) htl).mono ?_
  rintro e v7 ⟨rfl, hb⟩
  have Bv7 := hide ((unhide Bv6).trans (hb.mono (unhide Bv6).size))
  have Kav7 := hide (Blk.below hb Zav6 (unhide Kav6))
  have Zav7 := Nat.lt_of_lt_of_le Zav6 hb.size
  have Ktv7 := hide (Blk.below hb Ztv6 (unhide Ktv6))
  have Ztv7 := Nat.lt_of_lt_of_le Ztv6 hb.size
  have Kxv7 := hide (Blk.below hb Zxv6 (unhide Kxv6))
  have Zxv7 := Nat.lt_of_lt_of_le Zxv6 hb.size
  have Qrv7 : Hid (RdReq v7 r h) := (unhide Qrv6).mono hb
  have Qdv7 : Hid (RdReq v7 r h2) := (unhide Qdv6).mono hb
  clear hb
  clear Bv6 Kav6 Zav6 Ktv6 Ztv6 Kxv6 Zxv6 Qrv6 Qdv6
  have ct0 : v7.cell? ⟨v3.heap.size, 0, none⟩ = some (.int .i64 (byIdV r m).id) := ((unhide Ktv7) 0 (by simp)).1
  have ct1 : v7.cell? ⟨v3.heap.size, 1, none⟩ = some (.int .i64 (byIdV r m).wd) := ((unhide Ktv7) 1 (by simp)).1
  have ct2 : v7.cell? ⟨v3.heap.size, 2, none⟩ = some (.int .i64 (byIdV r m).ht) := ((unhide Ktv7) 2 (by simp)).1
  have ct3 : v7.cell? ⟨v3.heap.size, 3, none⟩ = some (.int .i64 (byIdV r m).dp) := ((unhide Ktv7) 3 (by simp)).1
  have ct4 : v7.cell? ⟨v3.heap.size, 4, none⟩ = some (.int .i64 (byIdV r m).tare) := ((unhide Ktv7) 4 (by simp)).1
  have ct5 : v7.cell? ⟨v3.heap.size, 5, none⟩ = some (.int .i64 (byIdV r m).gram) := ((unhide Ktv7) 5 (by simp)).1
  have ct6 : v7.cell? ⟨v3.heap.size, 6, none⟩ = some (.int .i64 (byIdV r m).cost) := ((unhide Ktv7) 6 (by simp)).1
  go_wp2_with fail
  clear ct0 ct1 ct2 ct3 ct4 ct5 ct6
  have Bv8 : Hid (Below w.heap.size w (v7.alloc (.cells #[.int .i64 (byIdV r m).id, .int .i64 (byIdV r m).wd, .int .i64 (byIdV r m).ht, .int .i64 (byIdV r m).dp, .int .i64 (byIdV r m).tare, .int .i64 (byIdV r m).gram, .int .i64 (byIdV r m).cost] 31))) := (unhide Bv7).alloc (unhide Bv7).size _
  have Knv8 : Hid (Blk (v7.alloc (.cells #[.int .i64 (byIdV r m).id, .int .i64 (byIdV r m).wd, .int .i64 (byIdV r m).ht, .int .i64 (byIdV r m).dp, .int .i64 (byIdV r m).tare, .int .i64 (byIdV r m).gram, .int .i64 (byIdV r m).cost] 31)) v7.heap.size [.int .i64 (byIdV r m).id, .int .i64 (byIdV r m).wd, .int .i64 (byIdV r m).ht, .int .i64 (byIdV r m).dp, .int .i64 (byIdV r m).tare, .int .i64 (byIdV r m).gram, .int .i64 (byIdV r m).cost]) := Blk.allocAt [.int .i64 (byIdV r m).id, .int .i64 (byIdV r m).wd, .int .i64 (byIdV r m).ht, .int .i64 (byIdV r m).dp, .int .i64 (byIdV r m).tare, .int .i64 (byIdV r m).gram, .int .i64 (byIdV r m).cost] rfl
  have Znv8 : v7.heap.size < (v7.alloc (.cells #[.int .i64 (byIdV r m).id, .int .i64 (byIdV r m).wd, .int .i64 (byIdV r m).ht, .int .i64 (byIdV r m).dp, .int .i64 (byIdV r m).tare, .int .i64 (byIdV r m).gram, .int .i64 (byIdV r m).cost] 31)).heap.size := by simp
  have Gn : w.heap.size ≤ v7.heap.size := (unhide Bv7).size
  have Kav8 : Hid (Blk (v7.alloc (.cells #[.int .i64 (byIdV r m).id, .int .i64 (byIdV r m).wd, .int .i64 (byIdV r m).ht, .int .i64 (byIdV r m).dp, .int .i64 (byIdV r m).tare, .int .i64 (byIdV r m).gram, .int .i64 (byIdV r m).cost] 31)) w.heap.size [.int .i64 r.way, .int .i64 r.pal.wd, .int .i64 r.pal.dp, .int .i64 r.pal.ht, .int .i64 r.pal.gram, .int .i64 r.classes, .slice h.ap r.pairs.length h.cp, .slice h.at' r.types.length h.ct, .int .i64 r.master, .slice h.ai r.items.length h.ci]) := (unhide Kav7).allocOld Zav7 _
  have Zav8 : w.heap.size < (v7.alloc (.cells #[.int .i64 (byIdV r m).id, .int .i64 (byIdV r m).wd, .int .i64 (byIdV r m).ht, .int .i64 (byIdV r m).dp, .int .i64 (byIdV r m).tare, .int .i64 (byIdV r m).gram, .int .i64 (byIdV r m).cost] 31)).heap.size := by simp <;> omega
  have Nqan : w.heap.size ≠ v7.heap.size := Nat.ne_of_lt Zav7
  have Nqna : v7.heap.size ≠ w.heap.size := Ne.symm Nqan
  have Ktv8 : Hid (Blk (v7.alloc (.cells #[.int .i64 (byIdV r m).id, .int .i64 (byIdV r m).wd, .int .i64 (byIdV r m).ht, .int .i64 (byIdV r m).dp, .int .i64 (byIdV r m).tare, .int .i64 (byIdV r m).gram, .int .i64 (byIdV r m).cost] 31)) v3.heap.size [.int .i64 (byIdV r m).id, .int .i64 (byIdV r m).wd, .int .i64 (byIdV r m).ht, .int .i64 (byIdV r m).dp, .int .i64 (byIdV r m).tare, .int .i64 (byIdV r m).gram, .int .i64 (byIdV r m).cost]) := (unhide Ktv7).allocOld Ztv7 _
  have Ztv8 : v3.heap.size < (v7.alloc (.cells #[.int .i64 (byIdV r m).id, .int .i64 (byIdV r m).wd, .int .i64 (byIdV r m).ht, .int .i64 (byIdV r m).dp, .int .i64 (byIdV r m).tare, .int .i64 (byIdV r m).gram, .int .i64 (byIdV r m).cost] 31)).heap.size := by simp <;> omega
  have Nqtn : v3.heap.size ≠ v7.heap.size := Nat.ne_of_lt Ztv7
  have Nqnt : v7.heap.size ≠ v3.heap.size := Ne.symm Nqtn
  have Kxv8 : Hid (Blk (v7.alloc (.cells #[.int .i64 (byIdV r m).id, .int .i64 (byIdV r m).wd, .int .i64 (byIdV r m).ht, .int .i64 (byIdV r m).dp, .int .i64 (byIdV r m).tare, .int .i64 (byIdV r m).gram, .int .i64 (byIdV r m).cost] 31)) v5.heap.size [.int .i64 r.way, .int .i64 r.pal.wd, .int .i64 r.pal.dp, .int .i64 r.pal.ht, .int .i64 r.pal.gram, .int .i64 r.classes, .slice h2.ap r.pairs.length h2.cp, .slice h2.at' r.types.length h2.ct, .int .i64 r.master, .slice h2.ai r.items.length h2.ci]) := (unhide Kxv7).allocOld Zxv7 _
  have Zxv8 : v5.heap.size < (v7.alloc (.cells #[.int .i64 (byIdV r m).id, .int .i64 (byIdV r m).wd, .int .i64 (byIdV r m).ht, .int .i64 (byIdV r m).dp, .int .i64 (byIdV r m).tare, .int .i64 (byIdV r m).gram, .int .i64 (byIdV r m).cost] 31)).heap.size := by simp <;> omega
  have Nqxn : v5.heap.size ≠ v7.heap.size := Nat.ne_of_lt Zxv7
  have Nqnx : v7.heap.size ≠ v5.heap.size := Ne.symm Nqxn
  have Qrv8 : Hid (RdReq (v7.alloc (.cells #[.int .i64 (byIdV r m).id, .int .i64 (byIdV r m).wd, .int .i64 (byIdV r m).ht, .int .i64 (byIdV r m).dp, .int .i64 (byIdV r m).tare, .int .i64 (byIdV r m).gram, .int .i64 (byIdV r m).cost] 31)) r h) := (unhide Qrv7).mono ((Below.refl _ _).alloc (Nat.le_refl _) _)
  have Qdv8 : Hid (RdReq (v7.alloc (.cells #[.int .i64 (byIdV r m).id, .int .i64 (byIdV r m).wd, .int .i64 (byIdV r m).ht, .int .i64 (byIdV r m).dp, .int .i64 (byIdV r m).tare, .int .i64 (byIdV r m).gram, .int .i64 (byIdV r m).cost] 31)) r h2) := (unhide Qdv7).mono ((Below.refl _ _).alloc (Nat.le_refl _) _)
  clear Bv7 Kav7 Zav7 Ktv7 Ztv7 Kxv7 Zxv7 Qrv7 Qdv7
  generalize (v7.alloc (.cells #[.int .i64 (byIdV r m).id, .int .i64 (byIdV r m).wd, .int .i64 (byIdV r m).ht, .int .i64 (byIdV r m).dp, .int .i64 (byIdV r m).tare, .int .i64 (byIdV r m).gram, .int .i64 (byIdV r m).cost] 31)) = v8 at *
  refine (eqType_same _ _ _ _ _ _ _ _).mono ?_
  rintro e v9 ⟨rfl, hb⟩
  have Bv9 := hide ((unhide Bv8).trans (hb.mono (unhide Bv8).size))
  have Kav9 := hide (Blk.below hb Zav8 (unhide Kav8))
  have Zav9 := Nat.lt_of_lt_of_le Zav8 hb.size
  have Ktv9 := hide (Blk.below hb Ztv8 (unhide Ktv8))
  have Ztv9 := Nat.lt_of_lt_of_le Ztv8 hb.size
  have Kxv9 := hide (Blk.below hb Zxv8 (unhide Kxv8))
  have Zxv9 := Nat.lt_of_lt_of_le Zxv8 hb.size
  have Knv9 := hide (Blk.below hb Znv8 (unhide Knv8))
  have Znv9 := Nat.lt_of_lt_of_le Znv8 hb.size
  have Qrv9 : Hid (RdReq v9 r h) := (unhide Qrv8).mono hb
  have Qdv9 : Hid (RdReq v9 r h2) := (unhide Qdv8).mono hb
  clear hb
  clear Bv8 Kav8 Zav8 Ktv8 Ztv8 Kxv8 Zxv8 Knv8 Znv8 Qrv8 Qdv8
  go_upto_region 10 with fail
  go_cut [44] (fun v wc => v = .bool false ∧ Blk wc w.heap.size [.int .i64 r.way, .int .i64 r.pal.wd, .int .i64 r.pal.dp, .int .i64 r.pal.ht, .int .i64 r.pal.gram, .int .i64 r.classes, .slice h.ap r.pairs.length h.cp, .slice h.at' r.types.length h.ct, .int .i64 r.master, .slice h.ai r.items.length h.ci] ∧ w.heap.size < wc.heap.size ∧ Blk wc v3.heap.size [.int .i64 (byIdV r m).id, .int .i64 (byIdV r m).wd, .int .i64 (byIdV r m).ht, .int .i64 (byIdV r m).dp, .int .i64 (byIdV r m).tare, .int .i64 (byIdV r m).gram, .int .i64 (byIdV r m).cost] ∧ v3.heap.size < wc.heap.size ∧ Blk wc v5.heap.size [.int .i64 r.way, .int .i64 r.pal.wd, .int .i64 r.pal.dp, .int .i64 r.pal.ht, .int .i64 r.pal.gram, .int .i64 r.classes, .slice h2.ap r.pairs.length h2.cp, .slice h2.at' r.types.length h2.ct, .int .i64 r.master, .slice h2.ai r.items.length h2.ci] ∧ v5.heap.size < wc.heap.size ∧ Blk wc v7.heap.size [.int .i64 (byIdV r m).id, .int .i64 (byIdV r m).wd, .int .i64 (byIdV r m).ht, .int .i64 (byIdV r m).dp, .int .i64 (byIdV r m).tare, .int .i64 (byIdV r m).gram, .int .i64 (byIdV r m).cost] ∧ v7.heap.size < wc.heap.size ∧ RdReq wc r h ∧ RdReq wc r h2 ∧ Below w.heap.size w wc)
  case first =>
    refine wp_region_noPanic ?_
    have Bu0 : Hid (Below w.heap.size w v9.drew) := (unhide Bv9).drew
    have Qru0 : Hid (RdReq v9.drew r h) := (unhide Qrv9).mono (Below.refl _ _).drew
    have Qdu0 : Hid (RdReq v9.drew r h2) := (unhide Qdv9).mono (Below.refl _ _).drew
    have Kau0 : Hid (Blk v9.drew w.heap.size [.int .i64 r.way, .int .i64 r.pal.wd, .int .i64 r.pal.dp, .int .i64 r.pal.ht, .int .i64 r.pal.gram, .int .i64 r.classes, .slice h.ap r.pairs.length h.cp, .slice h.at' r.types.length h.ct, .int .i64 r.master, .slice h.ai r.items.length h.ci]) := unhide Kav9
    have Zau0 : w.heap.size < v9.drew.heap.size := Zav9
    have Ktu0 : Hid (Blk v9.drew v3.heap.size [.int .i64 (byIdV r m).id, .int .i64 (byIdV r m).wd, .int .i64 (byIdV r m).ht, .int .i64 (byIdV r m).dp, .int .i64 (byIdV r m).tare, .int .i64 (byIdV r m).gram, .int .i64 (byIdV r m).cost]) := unhide Ktv9
    have Ztu0 : v3.heap.size < v9.drew.heap.size := Ztv9
    have Kxu0 : Hid (Blk v9.drew v5.heap.size [.int .i64 r.way, .int .i64 r.pal.wd, .int .i64 r.pal.dp, .int .i64 r.pal.ht, .int .i64 r.pal.gram, .int .i64 r.classes, .slice h2.ap r.pairs.length h2.cp, .slice h2.at' r.types.length h2.ct, .int .i64 r.master, .slice h2.ai r.items.length h2.ci]) := unhide Kxv9
    have Zxu0 : v5.heap.size < v9.drew.heap.size := Zxv9
    have Knu0 : Hid (Blk v9.drew v7.heap.size [.int .i64 (byIdV r m).id, .int .i64 (byIdV r m).wd, .int .i64 (byIdV r m).ht, .int .i64 (byIdV r m).dp, .int .i64 (byIdV r m).tare, .int .i64 (byIdV r m).gram, .int .i64 (byIdV r m).cost]) := unhide Knv9
    have Znu0 : v7.heap.size < v9.drew.heap.size := Znv9
    obtain ⟨S, hSdef⟩ : ∃ S : World → Prop, S = (fun w' => w'.cell? ⟨v5.heap.size, 0, none⟩ = some (.int .i64 r.way) ∧ w'.cell? ⟨v5.heap.size, 1, none⟩ = some (.int .i64 r.pal.wd) ∧ w'.cell? ⟨v5.heap.size, 2, none⟩ = some (.int .i64 r.pal.dp) ∧ w'.cell? ⟨v5.heap.size, 3, none⟩ = some (.int .i64 r.pal.ht) ∧ w'.cell? ⟨v5.heap.size, 4, none⟩ = some (.int .i64 r.pal.gram) ∧ w'.cell? ⟨v5.heap.size, 5, none⟩ = some (.int .i64 r.classes) ∧ w'.cell? ⟨v5.heap.size, 6, none⟩ = some (.slice h2.ap r.pairs.length h2.cp) ∧ w'.cell? ⟨v5.heap.size, 7, none⟩ = some (.slice h2.at' r.types.length h2.ct) ∧ w'.cell? ⟨v5.heap.size, 8, none⟩ = some (.int .i64 r.master) ∧ w'.cell? ⟨v5.heap.size, 9, none⟩ = some (.slice h2.ai r.items.length h2.ci) ∧ w'.cell? ⟨w.heap.size, 0, none⟩ = some (.int .i64 r.way) ∧ w'.cell? ⟨w.heap.size, 1, none⟩ = some (.int .i64 r.pal.wd) ∧ w'.cell? ⟨w.heap.size, 2, none⟩ = some (.int .i64 r.pal.dp) ∧ w'.cell? ⟨w.heap.size, 3, none⟩ = some (.int .i64 r.pal.ht) ∧ w'.cell? ⟨w.heap.size, 4, none⟩ = some (.int .i64 r.pal.gram) ∧ w'.cell? ⟨w.heap.size, 5, none⟩ = some (.int .i64 r.classes) ∧ w'.cell? ⟨w.heap.size, 6, none⟩ = some (.slice h.ap r.pairs.length h.cp) ∧ w'.cell? ⟨w.heap.size, 7, none⟩ = some (.slice h.at' r.types.length h.ct) ∧ w'.cell? ⟨w.heap.size, 8, none⟩ = some (.int .i64 r.master) ∧ w'.cell? ⟨w.heap.size, 9, none⟩ = some (.slice h.ai r.items.length h.ci)) := ⟨_, rfl⟩
    have hSmk : ∀ wq, Blk wq v5.heap.size [.int .i64 r.way, .int .i64 r.pal.wd, .int .i64 r.pal.dp, .int .i64 r.pal.ht, .int .i64 r.pal.gram, .int .i64 r.classes, .slice h2.ap r.pairs.length h2.cp, .slice h2.at' r.types.length h2.ct, .int .i64 r.master, .slice h2.ai r.items.length h2.ci] → Blk wq w.heap.size [.int .i64 r.way, .int .i64 r.pal.wd, .int .i64 r.pal.dp, .int .i64 r.pal.ht, .int .i64 r.pal.gram, .int .i64 r.classes, .slice h.ap r.pairs.length h.cp, .slice h.at' r.types.length h.ct, .int .i64 r.master, .slice h.ai r.items.length h.ci] → S wq := fun wq kx ka => by rw [hSdef]; exact ⟨(kx 0 (by simp)).1, (kx 1 (by simp)).1, (kx 2 (by simp)).1, (kx 3 (by simp)).1, (kx 4 (by simp)).1, (kx 5 (by simp)).1, (kx 6 (by simp)).1, (kx 7 (by simp)).1, (kx 8 (by simp)).1, (kx 9 (by simp)).1, (ka 0 (by simp)).1, (ka 1 (by simp)).1, (ka 2 (by simp)).1, (ka 3 (by simp)).1, (ka 4 (by simp)).1, (ka 5 (by simp)).1, (ka 6 (by simp)).1, (ka 7 (by simp)).1, (ka 8 (by simp)).1, (ka 9 (by simp)).1⟩
    have hSd : ∀ wq, S wq → (fun w' => w'.cell? ⟨v5.heap.size, 0, none⟩ = some (.int .i64 r.way) ∧ w'.cell? ⟨v5.heap.size, 1, none⟩ = some (.int .i64 r.pal.wd) ∧ w'.cell? ⟨v5.heap.size, 2, none⟩ = some (.int .i64 r.pal.dp) ∧ w'.cell? ⟨v5.heap.size, 3, none⟩ = some (.int .i64 r.pal.ht) ∧ w'.cell? ⟨v5.heap.size, 4, none⟩ = some (.int .i64 r.pal.gram) ∧ w'.cell? ⟨v5.heap.size, 5, none⟩ = some (.int .i64 r.classes) ∧ w'.cell? ⟨v5.heap.size, 6, none⟩ = some (.slice h2.ap r.pairs.length h2.cp) ∧ w'.cell? ⟨v5.heap.size, 7, none⟩ = some (.slice h2.at' r.types.length h2.ct) ∧ w'.cell? ⟨v5.heap.size, 8, none⟩ = some (.int .i64 r.master) ∧ w'.cell? ⟨v5.heap.size, 9, none⟩ = some (.slice h2.ai r.items.length h2.ci) ∧ w'.cell? ⟨w.heap.size, 0, none⟩ = some (.int .i64 r.way) ∧ w'.cell? ⟨w.heap.size, 1, none⟩ = some (.int .i64 r.pal.wd) ∧ w'.cell? ⟨w.heap.size, 2, none⟩ = some (.int .i64 r.pal.dp) ∧ w'.cell? ⟨w.heap.size, 3, none⟩ = some (.int .i64 r.pal.ht) ∧ w'.cell? ⟨w.heap.size, 4, none⟩ = some (.int .i64 r.pal.gram) ∧ w'.cell? ⟨w.heap.size, 5, none⟩ = some (.int .i64 r.classes) ∧ w'.cell? ⟨w.heap.size, 6, none⟩ = some (.slice h.ap r.pairs.length h.cp) ∧ w'.cell? ⟨w.heap.size, 7, none⟩ = some (.slice h.at' r.types.length h.ct) ∧ w'.cell? ⟨w.heap.size, 8, none⟩ = some (.int .i64 r.master) ∧ w'.cell? ⟨w.heap.size, 9, none⟩ = some (.slice h.ai r.items.length h.ci)) wq := fun wq h => by rw [hSdef] at h; exact h
    clear hSdef
    have hHeld : S v9.drew := hSmk v9.drew (unhide Kxu0) (unhide Kau0)
    refine wp_region_to (S := S) (T := []) (by kernel_rfl) hHeld (fun _ => ?_)
    generalize v9.drew = u0 at *
    refine wpTo_tk (i := 0) (v := ?_) rfl (by kernel_rfl) (Or.inl ⟨by rfl, ?_⟩) (by assumption) ?_
    rotate_left
    · intro w hSw
      have hSw := hSd _ hSw
      (try dsimp only at hSw)
      go_simp <;> with_reducible rfl
    refine wpTo_tk (i := 1) (v := ?_) rfl (by kernel_rfl) (Or.inl ⟨by rfl, ?_⟩) (by assumption) ?_
    rotate_left
    · intro w hSw
      have hSw := hSd _ hSw
      (try dsimp only at hSw)
      go_simp <;> with_reducible rfl
    try simp only [Act.put, List.getElem_toArray, List.getElem_cons_zero, List.getElem_cons_succ, List.setIfInBounds_toArray, List.set_cons_zero, List.set_cons_succ]
    refine wpTo_ready (rs := [2]) (by kernel_rfl) (by simp) ?_
    refine AllTo.cons (o := _) rfl (fun K hK => ?_) ?_
    ·
     (try simp only [List.getElem_toArray, List.getElem_cons_zero, List.getElem_cons_succ])
     go_simp
     refine (toRequest_any r h u0 (unhide Qru0) hsm).mono ?_
     rintro e u10 ⟨h1, rfl, hq, hf, hb⟩
     have Bu10 := hide ((unhide Bu0).trans (hb.mono (unhide Bu0).size))
     have Kau10 := hide (Blk.below hb Zau0 (unhide Kau0))
     have Zau10 := Nat.lt_of_lt_of_le Zau0 hb.size
     have Ktu10 := hide (Blk.below hb Ztu0 (unhide Ktu0))
     have Ztu10 := Nat.lt_of_lt_of_le Ztu0 hb.size
     have Kxu10 := hide (Blk.below hb Zxu0 (unhide Kxu0))
     have Zxu10 := Nat.lt_of_lt_of_le Zxu0 hb.size
     have Knu10 := hide (Blk.below hb Znu0 (unhide Knu0))
     have Znu10 := Nat.lt_of_lt_of_le Znu0 hb.size
     have Qru10 : Hid (RdReq u10 r h) := (unhide Qru0).mono hb
     have Qdu10 : Hid (RdReq u10 r h2) := (unhide Qdu0).mono hb
     have Qcu10 : Hid (RdReq u10 r h1) := hq
     clear hq hf
     clear hb
     clear Bu0 Kau0 Zau0 Ktu0 Ztu0 Kxu0 Zxu0 Knu0 Znu0 Qru0 Qdu0
     clear hHeld
     go_wp2_with fail
     have hHeld := hSmk u10 (unhide Kxu10) (unhide Kau10)
     refine hK.out _ _ (fun _ => hHeld) ?_
     clear hK K
     try simp only [Act.put, List.getElem_toArray, List.getElem_cons_zero, List.getElem_cons_succ, List.setIfInBounds_toArray, List.set_cons_zero, List.set_cons_succ]
     refine wpTo_ready (rs := [3]) (by kernel_rfl) (by simp) ?_
     refine AllTo.cons (o := _) rfl (fun K hK => ?_) ?_
     ·
      (try simp only [List.getElem_toArray, List.getElem_cons_zero, List.getElem_cons_succ])
      go_simp
      refine (eqRequest_same r h2 h1 u10 (unhide Qdu10) (unhide Qcu10) hsm).mono ?_
      rintro e u11 ⟨rfl, hb⟩
      have Bu11 := hide ((unhide Bu10).trans (hb.mono (unhide Bu10).size))
      have Kau11 := hide (Blk.below hb Zau10 (unhide Kau10))
      have Zau11 := Nat.lt_of_lt_of_le Zau10 hb.size
      have Ktu11 := hide (Blk.below hb Ztu10 (unhide Ktu10))
      have Ztu11 := Nat.lt_of_lt_of_le Ztu10 hb.size
      have Kxu11 := hide (Blk.below hb Zxu10 (unhide Kxu10))
      have Zxu11 := Nat.lt_of_lt_of_le Zxu10 hb.size
      have Knu11 := hide (Blk.below hb Znu10 (unhide Knu10))
      have Znu11 := Nat.lt_of_lt_of_le Znu10 hb.size
      have Qru11 : Hid (RdReq u11 r h) := (unhide Qru10).mono hb
      have Qdu11 : Hid (RdReq u11 r h2) := (unhide Qdu10).mono hb
      have Qcu11 : Hid (RdReq u11 r h1) := (unhide Qcu10).mono hb
      clear hb
      clear Bu10 Kau10 Zau10 Ktu10 Ztu10 Kxu10 Zxu10 Knu10 Znu10 Qru10 Qdu10 Qcu10
      clear hHeld
      go_wp2_with fail
      have hHeld := hSmk u11 (unhide Kxu11) (unhide Kau11)
      refine hK.out _ _ (fun _ => hHeld) ?_
      clear hK K
      try simp only [Act.put, List.getElem_toArray, List.getElem_cons_zero, List.getElem_cons_succ, List.setIfInBounds_toArray, List.set_cons_zero, List.set_cons_succ]
      refine wpTo_tk (i := 4) (v := ?_) rfl (by kernel_rfl) (Or.inl ⟨by rfl, ?_⟩) (by assumption) ?_
      rotate_left
      · intro w hSw
        have hSw := hSd _ hSw
        (try dsimp only at hSw)
        go_simp <;> with_reducible rfl
      try simp only [Act.put, List.getElem_toArray, List.getElem_cons_zero, List.getElem_cons_succ, List.setIfInBounds_toArray, List.set_cons_zero, List.set_cons_succ]
      refine wpTo_done (by kernel_rfl) ?_ _
      refine NoPanic.normal ?_
      go_wp2_with fail
      go_meet
      case rel => exact ⟨rfl, unhide Kau11, Zau11, unhide Ktu11, Ztu11, unhide Kxu11, Zxu11, unhide Knu11, Znu11, unhide Qru11, unhide Qdu11, unhide Bu11⟩
     exact AllTo.nil
    exact AllTo.nil
  case rest =>
    clear Bv9 Kav9 Zav9 Ktv9 Ztv9 Kxv9 Zxv9 Knv9 Znv9 Qrv9 Qdv9
    obtain ⟨rfl, ka, za, kt, zt, kx, zx, kn, zn, qr, qd, hb⟩ := hcut
    obtain ⟨wC, hw8⟩ : ∃ w8 : World, w8 = wc := ⟨_, rfl⟩
    subst wc
    have BwC := hide hb
    have KawC := hide ka
    have ZawC : w.heap.size < wC.heap.size := za
    have KtwC := hide kt
    have ZtwC : v3.heap.size < wC.heap.size := zt
    have KxwC := hide kx
    have ZxwC : v5.heap.size < wC.heap.size := zx
    have KnwC := hide kn
    have ZnwC : v7.heap.size < wC.heap.size := zn
    have QrwC : Hid (RdReq wC r h) := qr
    have QdwC : Hid (RdReq wC r h2) := qd
    clear hb ka za kt zt kx zx kn zn qr qd
    go_wp2_with fail
    go_ret
    exact ⟨rfl, unhide BwC⟩
end Go.Proofs.Ytphdeojiehigpaa
