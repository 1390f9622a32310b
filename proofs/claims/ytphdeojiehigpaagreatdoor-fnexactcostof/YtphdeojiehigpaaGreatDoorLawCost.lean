/- The law of CostOf, walked. -/
import Derived.Test.YtphdeojiehigpaaGreatDoorCostSpec
import Derived.Test.YtphdeojiehigpaaGreatDoorCostImpl
import Derived.Test.YtphdeojiehigpaaGreatDoorCartons2
import Derived.Test.YtphdeojiehigpaaGreatDoorPkA
import Derived.Test.YtphdeojiehigpaaGreatDoorPkE
import Derived.Deep.DeepMust
import Derived.Deep.DeepCutAuto
namespace Go.Proofs.YtphdeojiehigpaaGreatDoor
open Go.RowKit
set_option linter.unusedVariables false
set_option linter.unusedSimpArgs false
set_option maxRecDepth 100000 in
set_option maxHeartbeats 4000000 in
theorem law_costOf (r : ReqV) (h : ReqH) (a : Option Addr) (n c : Nat) (xs : List CarV) (w : World) (hr : RdReq w r h) (hp : r.pairs.length ≤ maxLen) (ht : r.types.length ≤ maxLen) (hi : r.items.length ≤ maxLen) (hg : ErrT w) (hx : RdC w a n xs) (hm : n ≤ maxLen) (hmm : ∀ g ∈ xs, g.us.length ≤ maxLen) :
    Calls Tryz.prog 4 #[reqVal r h, .slice a n c] w fun e w' => e = .returned (.bool true) ∧ Below w.heap.size w w' := by
  have hne : (costR r xs != costR r xs) = false := by simp
  have hxl := hx.1
  by_cases hs : (1048576 : Int) - r.pairs.length - r.types.length - r.items.length < 0
  · unfold reqVal
    go_enter Tryz.func4, Tryz.ntmps4
    go_wp2_with fail
    refine (szRequest_any r h _ _ (by omega) (by omega) hp ht hi).mono ?_
    rintro e w1 ⟨rfl, hb1⟩
    rw [if_pos (by omega)]
    have H1 : Hid (Below w.heap.size w w1) := ((Below.refl w.heap.size w).alloc (Nat.le_refl _) _).trans (hb1.mono (by simp))
    clear hb1
    go_wp2_with fail
    go_ret
    exact ⟨rfl, unhide H1⟩
  have hsm : r.small := by unfold ReqV.small; omega
  have htl : r.types.length ≤ 1048600 := by unfold ReqV.small at hsm; omega
  unfold reqVal
  go_enter Tryz.func4, Tryz.ntmps4
  go_wp2_with fail
  have BwA : Hid (Below w.heap.size w (w.alloc (.cells #[.int .i64 r.way, .int .i64 r.pal.wd, .int .i64 r.pal.dp, .int .i64 r.pal.ht, .int .i64 r.pal.gram, .int .i64 r.classes, .slice h.ap r.pairs.length h.cp, .slice h.at' r.types.length h.ct, .int .i64 r.master, .slice h.ai r.items.length h.ci] 28))) := ((Below.refl _ _).alloc (by simp) _)
  have KawA : Hid (Blk (w.alloc (.cells #[.int .i64 r.way, .int .i64 r.pal.wd, .int .i64 r.pal.dp, .int .i64 r.pal.ht, .int .i64 r.pal.gram, .int .i64 r.classes, .slice h.ap r.pairs.length h.cp, .slice h.at' r.types.length h.ct, .int .i64 r.master, .slice h.ai r.items.length h.ci] 28)) w.heap.size [.int .i64 r.way, .int .i64 r.pal.wd, .int .i64 r.pal.dp, .int .i64 r.pal.ht, .int .i64 r.pal.gram, .int .i64 r.classes, .slice h.ap r.pairs.length h.cp, .slice h.at' r.types.length h.ct, .int .i64 r.master, .slice h.ai r.items.length h.ci]) := (Blk.allocAt (w := w) [.int .i64 r.way, .int .i64 r.pal.wd, .int .i64 r.pal.dp, .int .i64 r.pal.ht, .int .i64 r.pal.gram, .int .i64 r.classes, .slice h.ap r.pairs.length h.cp, .slice h.at' r.types.length h.ct, .int .i64 r.master, .slice h.ai r.items.length h.ci] (by simp))
  have ZawA : w.heap.size < (w.alloc (.cells #[.int .i64 r.way, .int .i64 r.pal.wd, .int .i64 r.pal.dp, .int .i64 r.pal.ht, .int .i64 r.pal.gram, .int .i64 r.classes, .slice h.ap r.pairs.length h.cp, .slice h.at' r.types.length h.ct, .int .i64 r.master, .slice h.ai r.items.length h.ci] 28)).heap.size := by simp
  have Ga : w.heap.size ≤ w.heap.size := by omega
  generalize (w.alloc (.cells #[.int .i64 r.way, .int .i64 r.pal.wd, .int .i64 r.pal.dp, .int .i64 r.pal.ht, .int .i64 r.pal.gram, .int .i64 r.classes, .slice h.ap r.pairs.length h.cp, .slice h.at' r.types.length h.ct, .int .i64 r.master, .slice h.ai r.items.length h.ci] 28)) = wA at *
  have QrwA : Hid (RdReq wA r h) := hr.mono (unhide BwA)
  have QgwA : Hid (ErrT wA) := hg.later (unhide BwA)
  have QywA : Hid (RdC wA (a) n xs) := hx.mono (unhide BwA)
  clear hr hg hx
  refine (szRequest_any r h _ _ (by omega) (by omega) hp ht hi).mono ?_
  rintro e v1 ⟨rfl, hb⟩
  have Bv1 := hide ((unhide BwA).trans (hb.mono (unhide BwA).size))
  have Kav1 := hide (Blk.below hb ZawA (unhide KawA))
  have Zav1 := Nat.lt_of_lt_of_le ZawA hb.size
  have Qrv1 : Hid (RdReq v1 r h) := (unhide QrwA).mono hb
  have Qgv1 : Hid (ErrT v1) := (unhide QgwA).later hb
  have Qyv1 : Hid (RdC v1 (a) n xs) := RdC.mono (unhide QywA) hb
  clear hb
  clear BwA KawA ZawA QrwA QgwA QywA
  rw [if_neg (by omega)]
  go_wp2_with fail
  refine (szCartonS_any a n c xs _ _ (unhide Qyv1) hm hmm (by omega) (by omega)).mono ?_
  rintro e v2 ⟨l2, rfl, hsz, hb⟩
  have Bv2 := hide ((unhide Bv1).trans (hb.mono (unhide Bv1).size))
  have Kav2 := hide (Blk.below hb Zav1 (unhide Kav1))
  have Zav2 := Nat.lt_of_lt_of_le Zav1 hb.size
  have Qrv2 : Hid (RdReq v2 r h) := (unhide Qrv1).mono hb
  have Qgv2 : Hid (ErrT v2) := (unhide Qgv1).later hb
  have Qyv2 : Hid (RdC v2 (a) n xs) := RdC.mono (unhide Qyv1) hb
  clear hb
  clear Bv1 Kav1 Zav1 Qrv1 Qgv1 Qyv1
  by_cases hl2 : l2 < 0
  · clear hsz
    go_wp2_with fail
    go_ret
    exact ⟨rfl, unhide Bv2⟩
  have hn : n ≤ 1048576 := by omega
  have HL : Hid (∀ i, i < n → (xs.getD i default).us.length ≤ 1048576) := fun i hi => by have h1 := totC_le xs i (by rw [hxl]; exact hi); omega
  clear hsz
  obtain ⟨ca0, ca1, ca2, ca3, ca4, ca5, ca6, ca7, ca8, ca9⟩ := Blk.cs10 (unhide Kav2)
  go_wp2_with fail
  clear ca0 ca1 ca2 ca3 ca4 ca5 ca6 ca7 ca8 ca9
  refine (toRequest_any r h _ (unhide Qrv2) hsm).mono ?_
  rintro e v3 ⟨h1, rfl, hq, hf, hb⟩
  have Bv3 := hide ((unhide Bv2).trans (hb.mono (unhide Bv2).size))
  have Kav3 := hide (Blk.below hb Zav2 (unhide Kav2))
  have Zav3 := Nat.lt_of_lt_of_le Zav2 hb.size
  have Qrv3 : Hid (RdReq v3 r h) := (unhide Qrv2).mono hb
  have Qgv3 : Hid (ErrT v3) := (unhide Qgv2).later hb
  have Qyv3 : Hid (RdC v3 (a) n xs) := RdC.mono (unhide Qyv2) hb
  clear hb
  clear Bv2 Kav2 Zav2 Qrv2 Qgv2 Qyv2
  have Qcv3 : Hid (RdReq v3 r h1) := hq
  clear hq hf
  unfold reqVal
  go_wp2_with fail
  refine (toCartonS_any a n c xs _ (unhide Qyv3) hn (unhide HL)).mono ?_
  rintro e v4 ⟨yss, rfl, hy1, hy2, ho, hb⟩
  have Bv4 := hide ((unhide Bv3).trans (hb.mono (unhide Bv3).size))
  have Kav4 := hide (Blk.below hb Zav3 (unhide Kav3))
  have Zav4 := Nat.lt_of_lt_of_le Zav3 hb.size
  have Qrv4 : Hid (RdReq v4 r h) := (unhide Qrv3).mono hb
  have Qgv4 : Hid (ErrT v4) := (unhide Qgv3).later hb
  have Qyv4 : Hid (RdC v4 (a) n xs) := RdC.mono (unhide Qyv3) hb
  have Qcv4 : Hid (RdReq v4 r h1) := (unhide Qcv3).mono hb
  clear hb
  clear Bv3 Kav3 Zav3 Qrv3 Qgv3 Qyv3 Qcv3
  have Qsv4 : Hid (RdC v4 (some ⟨v3.heap.size, 0, none⟩) n xs) := by have := ho.read; rw [hy1, hy2] at this; exact this
  clear ho hy1 hy2
  go_wp2_with fail
  refine (specCostOf_any r h1 _ n n xs _ (unhide Qcv4) hsm (unhide Qsv4) hn).mono ?_
  rintro e v5 ⟨rfl, hb⟩
  have Bv5 := hide ((unhide Bv4).trans (hb.mono (unhide Bv4).size))
  have Kav5 := hide (Blk.below hb Zav4 (unhide Kav4))
  have Zav5 := Nat.lt_of_lt_of_le Zav4 hb.size
  have Qrv5 : Hid (RdReq v5 r h) := (unhide Qrv4).mono hb
  have Qgv5 : Hid (ErrT v5) := (unhide Qgv4).later hb
  have Qyv5 : Hid (RdC v5 (a) n xs) := RdC.mono (unhide Qyv4) hb
  have Qcv5 : Hid (RdReq v5 r h1) := (unhide Qcv4).mono hb
  have Qsv5 : Hid (RdC v5 (some ⟨v3.heap.size, 0, none⟩) n xs) := RdC.mono (unhide Qsv4) hb
  clear hb
  clear Bv4 Kav4 Zav4 Qrv4 Qgv4 Qyv4 Qcv4 Qsv4
  clear Qcv5 Qsv5
  obtain ⟨ca0, ca1, ca2, ca3, ca4, ca5, ca6, ca7, ca8, ca9⟩ := Blk.cs10 (unhide Kav5)
  go_wp2_with fail
  clear ca0 ca1 ca2 ca3 ca4 ca5 ca6 ca7 ca8 ca9
  refine (toRequest_any r h _ (unhide Qrv5) hsm).mono ?_
  rintro e v6 ⟨h2, rfl, hq, hf, hb⟩
  have Bv6 := hide ((unhide Bv5).trans (hb.mono (unhide Bv5).size))
  have Kav6 := hide (Blk.below hb Zav5 (unhide Kav5))
  have Zav6 := Nat.lt_of_lt_of_le Zav5 hb.size
  have Qrv6 : Hid (RdReq v6 r h) := (unhide Qrv5).mono hb
  have Qgv6 : Hid (ErrT v6) := (unhide Qgv5).later hb
  have Qyv6 : Hid (RdC v6 (a) n xs) := RdC.mono (unhide Qyv5) hb
  clear hb
  clear Bv5 Kav5 Zav5 Qrv5 Qgv5 Qyv5
  have Qdv6 : Hid (RdReq v6 r h2) := hq
  clear hq hf
  unfold reqVal
  go_wp2_with fail
  have Bv7 : Hid (Below w.heap.size w (v6.alloc (.cells #[.int .i64 r.way, .int .i64 r.pal.wd, .int .i64 r.pal.dp, .int .i64 r.pal.ht, .int .i64 r.pal.gram, .int .i64 r.classes, .slice h2.ap r.pairs.length h2.cp, .slice h2.at' r.types.length h2.ct, .int .i64 r.master, .slice h2.ai r.items.length h2.ci] 40))) := (unhide Bv6).alloc (unhide Bv6).size _
  have Kxv7 : Hid (Blk (v6.alloc (.cells #[.int .i64 r.way, .int .i64 r.pal.wd, .int .i64 r.pal.dp, .int .i64 r.pal.ht, .int .i64 r.pal.gram, .int .i64 r.classes, .slice h2.ap r.pairs.length h2.cp, .slice h2.at' r.types.length h2.ct, .int .i64 r.master, .slice h2.ai r.items.length h2.ci] 40)) v6.heap.size [.int .i64 r.way, .int .i64 r.pal.wd, .int .i64 r.pal.dp, .int .i64 r.pal.ht, .int .i64 r.pal.gram, .int .i64 r.classes, .slice h2.ap r.pairs.length h2.cp, .slice h2.at' r.types.length h2.ct, .int .i64 r.master, .slice h2.ai r.items.length h2.ci]) := Blk.allocAt [.int .i64 r.way, .int .i64 r.pal.wd, .int .i64 r.pal.dp, .int .i64 r.pal.ht, .int .i64 r.pal.gram, .int .i64 r.classes, .slice h2.ap r.pairs.length h2.cp, .slice h2.at' r.types.length h2.ct, .int .i64 r.master, .slice h2.ai r.items.length h2.ci] rfl
  have Zxv7 : v6.heap.size < (v6.alloc (.cells #[.int .i64 r.way, .int .i64 r.pal.wd, .int .i64 r.pal.dp, .int .i64 r.pal.ht, .int .i64 r.pal.gram, .int .i64 r.classes, .slice h2.ap r.pairs.length h2.cp, .slice h2.at' r.types.length h2.ct, .int .i64 r.master, .slice h2.ai r.items.length h2.ci] 40)).heap.size := by simp
  have Gx : w.heap.size ≤ v6.heap.size := (unhide Bv6).size
  have Kav7 : Hid (Blk (v6.alloc (.cells #[.int .i64 r.way, .int .i64 r.pal.wd, .int .i64 r.pal.dp, .int .i64 r.pal.ht, .int .i64 r.pal.gram, .int .i64 r.classes, .slice h2.ap r.pairs.length h2.cp, .slice h2.at' r.types.length h2.ct, .int .i64 r.master, .slice h2.ai r.items.length h2.ci] 40)) w.heap.size [.int .i64 r.way, .int .i64 r.pal.wd, .int .i64 r.pal.dp, .int .i64 r.pal.ht, .int .i64 r.pal.gram, .int .i64 r.classes, .slice h.ap r.pairs.length h.cp, .slice h.at' r.types.length h.ct, .int .i64 r.master, .slice h.ai r.items.length h.ci]) := (unhide Kav6).allocOld Zav6 _
  have Zav7 : w.heap.size < (v6.alloc (.cells #[.int .i64 r.way, .int .i64 r.pal.wd, .int .i64 r.pal.dp, .int .i64 r.pal.ht, .int .i64 r.pal.gram, .int .i64 r.classes, .slice h2.ap r.pairs.length h2.cp, .slice h2.at' r.types.length h2.ct, .int .i64 r.master, .slice h2.ai r.items.length h2.ci] 40)).heap.size := by simp <;> omega
  have Nqax : w.heap.size ≠ v6.heap.size := Nat.ne_of_lt Zav6
  have Nqxa : v6.heap.size ≠ w.heap.size := Ne.symm Nqax
  have Qrv7 : Hid (RdReq (v6.alloc (.cells #[.int .i64 r.way, .int .i64 r.pal.wd, .int .i64 r.pal.dp, .int .i64 r.pal.ht, .int .i64 r.pal.gram, .int .i64 r.classes, .slice h2.ap r.pairs.length h2.cp, .slice h2.at' r.types.length h2.ct, .int .i64 r.master, .slice h2.ai r.items.length h2.ci] 40)) r h) := (unhide Qrv6).mono ((Below.refl _ _).alloc (Nat.le_refl _) _)
  have Qgv7 : Hid (ErrT (v6.alloc (.cells #[.int .i64 r.way, .int .i64 r.pal.wd, .int .i64 r.pal.dp, .int .i64 r.pal.ht, .int .i64 r.pal.gram, .int .i64 r.classes, .slice h2.ap r.pairs.length h2.cp, .slice h2.at' r.types.length h2.ct, .int .i64 r.master, .slice h2.ai r.items.length h2.ci] 40))) := (unhide Qgv6).later ((Below.refl _ _).alloc (Nat.le_refl _) _)
  have Qyv7 : Hid (RdC (v6.alloc (.cells #[.int .i64 r.way, .int .i64 r.pal.wd, .int .i64 r.pal.dp, .int .i64 r.pal.ht, .int .i64 r.pal.gram, .int .i64 r.classes, .slice h2.ap r.pairs.length h2.cp, .slice h2.at' r.types.length h2.ct, .int .i64 r.master, .slice h2.ai r.items.length h2.ci] 40)) (a) n xs) := RdC.mono (unhide Qyv6) ((Below.refl _ _).alloc (Nat.le_refl _) _)
  have Qdv7 : Hid (RdReq (v6.alloc (.cells #[.int .i64 r.way, .int .i64 r.pal.wd, .int .i64 r.pal.dp, .int .i64 r.pal.ht, .int .i64 r.pal.gram, .int .i64 r.classes, .slice h2.ap r.pairs.length h2.cp, .slice h2.at' r.types.length h2.ct, .int .i64 r.master, .slice h2.ai r.items.length h2.ci] 40)) r h2) := (unhide Qdv6).mono ((Below.refl _ _).alloc (Nat.le_refl _) _)
  clear Bv6 Kav6 Zav6 Qrv6 Qgv6 Qyv6 Qdv6
  generalize (v6.alloc (.cells #[.int .i64 r.way, .int .i64 r.pal.wd, .int .i64 r.pal.dp, .int .i64 r.pal.ht, .int .i64 r.pal.gram, .int .i64 r.classes, .slice h2.ap r.pairs.length h2.cp, .slice h2.at' r.types.length h2.ct, .int .i64 r.master, .slice h2.ai r.items.length h2.ci] 40)) = v7 at *
  refine (toCartonS_any a n c xs _ (unhide Qyv7) hn (unhide HL)).mono ?_
  rintro e v8 ⟨yst, rfl, hy1, hy2, ho, hb⟩
  have Bv8 := hide ((unhide Bv7).trans (hb.mono (unhide Bv7).size))
  have Kav8 := hide (Blk.below hb Zav7 (unhide Kav7))
  have Zav8 := Nat.lt_of_lt_of_le Zav7 hb.size
  have Kxv8 := hide (Blk.below hb Zxv7 (unhide Kxv7))
  have Zxv8 := Nat.lt_of_lt_of_le Zxv7 hb.size
  have Qrv8 : Hid (RdReq v8 r h) := (unhide Qrv7).mono hb
  have Qgv8 : Hid (ErrT v8) := (unhide Qgv7).later hb
  have Qyv8 : Hid (RdC v8 (a) n xs) := RdC.mono (unhide Qyv7) hb
  have Qdv8 : Hid (RdReq v8 r h2) := (unhide Qdv7).mono hb
  clear hb
  clear Bv7 Kav7 Zav7 Kxv7 Zxv7 Qrv7 Qgv7 Qyv7 Qdv7
  have Qtv8 : Hid (RdC v8 (some ⟨v7.heap.size, 0, none⟩) n xs) := by have := ho.read; rw [hy1, hy2] at this; exact this
  clear ho hy1 hy2
  obtain ⟨cx0, cx1, cx2, cx3, cx4, cx5, cx6, cx7, cx8, cx9⟩ := Blk.cs10 (unhide Kxv8)
  go_wp2_with fail
  clear cx0 cx1 cx2 cx3 cx4 cx5 cx6 cx7 cx8 cx9
  refine (costOf_any r h2 _ n n xs _ (unhide Qdv8) hsm (unhide Qgv8) (unhide Qtv8) hn).mono ?_
  rintro e v9 ⟨rfl, hb⟩
  have Bv9 := hide ((unhide Bv8).trans (hb.mono (unhide Bv8).size))
  have Kav9 := hide (Blk.below hb Zav8 (unhide Kav8))
  have Zav9 := Nat.lt_of_lt_of_le Zav8 hb.size
  have Kxv9 := hide (Blk.below hb Zxv8 (unhide Kxv8))
  have Zxv9 := Nat.lt_of_lt_of_le Zxv8 hb.size
  have Qrv9 : Hid (RdReq v9 r h) := (unhide Qrv8).mono hb
  have Qgv9 : Hid (ErrT v9) := (unhide Qgv8).later hb
  have Qyv9 : Hid (RdC v9 (a) n xs) := RdC.mono (unhide Qyv8) hb
  have Qdv9 : Hid (RdReq v9 r h2) := (unhide Qdv8).mono hb
  have Qtv9 : Hid (RdC v9 (some ⟨v7.heap.size, 0, none⟩) n xs) := RdC.mono (unhide Qtv8) hb
  clear hb
  clear Bv8 Kav8 Zav8 Kxv8 Zxv8 Qrv8 Qgv8 Qyv8 Qdv8 Qtv8
  go_upto_region 14 with fail
  go_cut [39] (fun v wc => v = .bool false ∧ Blk wc w.heap.size [.int .i64 r.way, .int .i64 r.pal.wd, .int .i64 r.pal.dp, .int .i64 r.pal.ht, .int .i64 r.pal.gram, .int .i64 r.classes, .slice h.ap r.pairs.length h.cp, .slice h.at' r.types.length h.ct, .int .i64 r.master, .slice h.ai r.items.length h.ci] ∧ w.heap.size < wc.heap.size ∧ Blk wc v6.heap.size [.int .i64 r.way, .int .i64 r.pal.wd, .int .i64 r.pal.dp, .int .i64 r.pal.ht, .int .i64 r.pal.gram, .int .i64 r.classes, .slice h2.ap r.pairs.length h2.cp, .slice h2.at' r.types.length h2.ct, .int .i64 r.master, .slice h2.ai r.items.length h2.ci] ∧ v6.heap.size < wc.heap.size ∧ RdReq wc r h ∧ ErrT wc ∧ RdC wc (a) n xs ∧ RdReq wc r h2 ∧ RdC wc (some ⟨v7.heap.size, 0, none⟩) n xs ∧ Below w.heap.size w wc)
  case first =>
    refine wp_region_noPanic ?_
    have Bu0 : Hid (Below w.heap.size w v9.drew) := (unhide Bv9).drew
    have Qru0 : Hid (RdReq v9.drew r h) := (unhide Qrv9).mono (Below.refl _ _).drew
    have Qgu0 : Hid (ErrT v9.drew) := (unhide Qgv9).later (Below.refl _ _).drew
    have Qyu0 : Hid (RdC v9.drew (a) n xs) := RdC.mono (unhide Qyv9) (Below.refl _ _).drew
    have Qdu0 : Hid (RdReq v9.drew r h2) := (unhide Qdv9).mono (Below.refl _ _).drew
    have Qtu0 : Hid (RdC v9.drew (some ⟨v7.heap.size, 0, none⟩) n xs) := RdC.mono (unhide Qtv9) (Below.refl _ _).drew
    have Kau0 : Hid (Blk v9.drew w.heap.size [.int .i64 r.way, .int .i64 r.pal.wd, .int .i64 r.pal.dp, .int .i64 r.pal.ht, .int .i64 r.pal.gram, .int .i64 r.classes, .slice h.ap r.pairs.length h.cp, .slice h.at' r.types.length h.ct, .int .i64 r.master, .slice h.ai r.items.length h.ci]) := unhide Kav9
    have Zau0 : w.heap.size < v9.drew.heap.size := Zav9
    have Kxu0 : Hid (Blk v9.drew v6.heap.size [.int .i64 r.way, .int .i64 r.pal.wd, .int .i64 r.pal.dp, .int .i64 r.pal.ht, .int .i64 r.pal.gram, .int .i64 r.classes, .slice h2.ap r.pairs.length h2.cp, .slice h2.at' r.types.length h2.ct, .int .i64 r.master, .slice h2.ai r.items.length h2.ci]) := unhide Kxv9
    have Zxu0 : v6.heap.size < v9.drew.heap.size := Zxv9
    obtain ⟨S, hSdef⟩ : ∃ S : World → Prop, S = (fun w' => w'.cell? ⟨v6.heap.size, 0, none⟩ = some (.int .i64 r.way) ∧ w'.cell? ⟨v6.heap.size, 1, none⟩ = some (.int .i64 r.pal.wd) ∧ w'.cell? ⟨v6.heap.size, 2, none⟩ = some (.int .i64 r.pal.dp) ∧ w'.cell? ⟨v6.heap.size, 3, none⟩ = some (.int .i64 r.pal.ht) ∧ w'.cell? ⟨v6.heap.size, 4, none⟩ = some (.int .i64 r.pal.gram) ∧ w'.cell? ⟨v6.heap.size, 5, none⟩ = some (.int .i64 r.classes) ∧ w'.cell? ⟨v6.heap.size, 6, none⟩ = some (.slice h2.ap r.pairs.length h2.cp) ∧ w'.cell? ⟨v6.heap.size, 7, none⟩ = some (.slice h2.at' r.types.length h2.ct) ∧ w'.cell? ⟨v6.heap.size, 8, none⟩ = some (.int .i64 r.master) ∧ w'.cell? ⟨v6.heap.size, 9, none⟩ = some (.slice h2.ai r.items.length h2.ci) ∧ w'.cell? ⟨w.heap.size, 0, none⟩ = some (.int .i64 r.way) ∧ w'.cell? ⟨w.heap.size, 1, none⟩ = some (.int .i64 r.pal.wd) ∧ w'.cell? ⟨w.heap.size, 2, none⟩ = some (.int .i64 r.pal.dp) ∧ w'.cell? ⟨w.heap.size, 3, none⟩ = some (.int .i64 r.pal.ht) ∧ w'.cell? ⟨w.heap.size, 4, none⟩ = some (.int .i64 r.pal.gram) ∧ w'.cell? ⟨w.heap.size, 5, none⟩ = some (.int .i64 r.classes) ∧ w'.cell? ⟨w.heap.size, 6, none⟩ = some (.slice h.ap r.pairs.length h.cp) ∧ w'.cell? ⟨w.heap.size, 7, none⟩ = some (.slice h.at' r.types.length h.ct) ∧ w'.cell? ⟨w.heap.size, 8, none⟩ = some (.int .i64 r.master) ∧ w'.cell? ⟨w.heap.size, 9, none⟩ = some (.slice h.ai r.items.length h.ci)) := ⟨_, rfl⟩
    have hSmk : ∀ wq, Blk wq v6.heap.size [.int .i64 r.way, .int .i64 r.pal.wd, .int .i64 r.pal.dp, .int .i64 r.pal.ht, .int .i64 r.pal.gram, .int .i64 r.classes, .slice h2.ap r.pairs.length h2.cp, .slice h2.at' r.types.length h2.ct, .int .i64 r.master, .slice h2.ai r.items.length h2.ci] → Blk wq w.heap.size [.int .i64 r.way, .int .i64 r.pal.wd, .int .i64 r.pal.dp, .int .i64 r.pal.ht, .int .i64 r.pal.gram, .int .i64 r.classes, .slice h.ap r.pairs.length h.cp, .slice h.at' r.types.length h.ct, .int .i64 r.master, .slice h.ai r.items.length h.ci] → S wq := fun wq kx ka => by rw [hSdef]; exact ⟨(kx 0 (by simp)).1, (kx 1 (by simp)).1, (kx 2 (by simp)).1, (kx 3 (by simp)).1, (kx 4 (by simp)).1, (kx 5 (by simp)).1, (kx 6 (by simp)).1, (kx 7 (by simp)).1, (kx 8 (by simp)).1, (kx 9 (by simp)).1, (ka 0 (by simp)).1, (ka 1 (by simp)).1, (ka 2 (by simp)).1, (ka 3 (by simp)).1, (ka 4 (by simp)).1, (ka 5 (by simp)).1, (ka 6 (by simp)).1, (ka 7 (by simp)).1, (ka 8 (by simp)).1, (ka 9 (by simp)).1⟩
    have hSd : ∀ wq, S wq → (fun w' => w'.cell? ⟨v6.heap.size, 0, none⟩ = some (.int .i64 r.way) ∧ w'.cell? ⟨v6.heap.size, 1, none⟩ = some (.int .i64 r.pal.wd) ∧ w'.cell? ⟨v6.heap.size, 2, none⟩ = some (.int .i64 r.pal.dp) ∧ w'.cell? ⟨v6.heap.size, 3, none⟩ = some (.int .i64 r.pal.ht) ∧ w'.cell? ⟨v6.heap.size, 4, none⟩ = some (.int .i64 r.pal.gram) ∧ w'.cell? ⟨v6.heap.size, 5, none⟩ = some (.int .i64 r.classes) ∧ w'.cell? ⟨v6.heap.size, 6, none⟩ = some (.slice h2.ap r.pairs.length h2.cp) ∧ w'.cell? ⟨v6.heap.size, 7, none⟩ = some (.slice h2.at' r.types.length h2.ct) ∧ w'.cell? ⟨v6.heap.size, 8, none⟩ = some (.int .i64 r.master) ∧ w'.cell? ⟨v6.heap.size, 9, none⟩ = some (.slice h2.ai r.items.length h2.ci) ∧ w'.cell? ⟨w.heap.size, 0, none⟩ = some (.int .i64 r.way) ∧ w'.cell? ⟨w.heap.size, 1, none⟩ = some (.int .i64 r.pal.wd) ∧ w'.cell? ⟨w.heap.size, 2, none⟩ = some (.int .i64 r.pal.dp) ∧ w'.cell? ⟨w.heap.size, 3, none⟩ = some (.int .i64 r.pal.ht) ∧ w'.cell? ⟨w.heap.size, 4, none⟩ = some (.int .i64 r.pal.gram) ∧ w'.cell? ⟨w.heap.size, 5, none⟩ = some (.int .i64 r.classes) ∧ w'.cell? ⟨w.heap.size, 6, none⟩ = some (.slice h.ap r.pairs.length h.cp) ∧ w'.cell? ⟨w.heap.size, 7, none⟩ = some (.slice h.at' r.types.length h.ct) ∧ w'.cell? ⟨w.heap.size, 8, none⟩ = some (.int .i64 r.master) ∧ w'.cell? ⟨w.heap.size, 9, none⟩ = some (.slice h.ai r.items.length h.ci)) wq := fun wq h => by rw [hSdef] at h; exact h
    clear hSdef
    have hHeld : S v9.drew := hSmk v9.drew (unhide Kxu0) (unhide Kau0)
    refine wp_region_to (S := S) (T := []) (by kernel_rfl) hHeld (fun _ => ?_)
    generalize v9.drew = u0 at *
    refine wpTo_tk (i := 0) (v := ?_) rfl (by kernel_rfl) (Or.inl ⟨by rfl, ?_⟩) (by assumption) ?_
    rotate_left
    · intro w hSw
      have hSw := hSd _ hSw
      (try dsimp only at hSw)
      go_simp <;> with_reducible rfl
    refine wpTo_tk (i := 1) (v := ?_) rfl (by kernel_rfl) (Or.inl ⟨by rfl, ?_⟩) (by assumption) ?_
    rotate_left
    · intro w hSw
      have hSw := hSd _ hSw
      (try dsimp only at hSw)
      go_simp <;> with_reducible rfl
    try simp only [Act.put, List.getElem_toArray, List.getElem_cons_zero, List.getElem_cons_succ, List.setIfInBounds_toArray, List.set_cons_zero, List.set_cons_succ]
    refine wpTo_ready (rs := [2]) (by kernel_rfl) (by simp) ?_
    refine AllTo.cons (o := _) rfl (fun K hK => ?_) ?_
    ·
     (try simp only [List.getElem_toArray, List.getElem_cons_zero, List.getElem_cons_succ])
     go_simp
     refine (toRequest_any r h u0 (unhide Qru0) hsm).mono ?_
     rintro e u10 ⟨h1, rfl, hq, hf, hb⟩
     have Bu10 := hide ((unhide Bu0).trans (hb.mono (unhide Bu0).size))
     have Kau10 := hide (Blk.below hb Zau0 (unhide Kau0))
     have Zau10 := Nat.lt_of_lt_of_le Zau0 hb.size
     have Kxu10 := hide (Blk.below hb Zxu0 (unhide Kxu0))
     have Zxu10 := Nat.lt_of_lt_of_le Zxu0 hb.size
     have Qru10 : Hid (RdReq u10 r h) := (unhide Qru0).mono hb
     have Qgu10 : Hid (ErrT u10) := (unhide Qgu0).later hb
     have Qyu10 : Hid (RdC u10 (a) n xs) := RdC.mono (unhide Qyu0) hb
     have Qdu10 : Hid (RdReq u10 r h2) := (unhide Qdu0).mono hb
     have Qtu10 : Hid (RdC u10 (some ⟨v7.heap.size, 0, none⟩) n xs) := RdC.mono (unhide Qtu0) hb
     have Qcu10 : Hid (RdReq u10 r h1) := hq
     clear hq hf
     clear hb
     clear Bu0 Kau0 Zau0 Kxu0 Zxu0 Qru0 Qgu0 Qyu0 Qdu0 Qtu0
     clear hHeld
     go_wp2_with fail
     have hHeld := hSmk u10 (unhide Kxu10) (unhide Kau10)
     refine hK.out _ _ (fun _ => hHeld) ?_
     clear hK K
     try simp only [Act.put, List.getElem_toArray, List.getElem_cons_zero, List.getElem_cons_succ, List.setIfInBounds_toArray, List.set_cons_zero, List.set_cons_succ]
     refine wpTo_ready (rs := [3]) (by kernel_rfl) (by simp) ?_
     refine AllTo.cons (o := _) rfl (fun K hK => ?_) ?_
     ·
      (try simp only [List.getElem_toArray, List.getElem_cons_zero, List.getElem_cons_succ])
      go_simp
      refine (eqRequest_same r h2 h1 u10 (unhide Qdu10) (unhide Qcu10) hsm).mono ?_
      rintro e u11 ⟨rfl, hb⟩
      have Bu11 := hide ((unhide Bu10).trans (hb.mono (unhide Bu10).size))
      have Kau11 := hide (Blk.below hb Zau10 (unhide Kau10))
      have Zau11 := Nat.lt_of_lt_of_le Zau10 hb.size
      have Kxu11 := hide (Blk.below hb Zxu10 (unhide Kxu10))
      have Zxu11 := Nat.lt_of_lt_of_le Zxu10 hb.size
      have Qru11 : Hid (RdReq u11 r h) := (unhide Qru10).mono hb
      have Qgu11 : Hid (ErrT u11) := (unhide Qgu10).later hb
      have Qyu11 : Hid (RdC u11 (a) n xs) := RdC.mono (unhide Qyu10) hb
      have Qdu11 : Hid (RdReq u11 r h2) := (unhide Qdu10).mono hb
      have Qtu11 : Hid (RdC u11 (some ⟨v7.heap.size, 0, none⟩) n xs) := RdC.mono (unhide Qtu10) hb
      have Qcu11 : Hid (RdReq u11 r h1) := (unhide Qcu10).mono hb
      clear hb
      clear Bu10 Kau10 Zau10 Kxu10 Zxu10 Qru10 Qgu10 Qyu10 Qdu10 Qtu10 Qcu10
      clear hHeld
      go_wp2_with fail
      have hHeld := hSmk u11 (unhide Kxu11) (unhide Kau11)
      refine hK.out _ _ (fun _ => hHeld) ?_
      clear hK K
      try simp only [Act.put, List.getElem_toArray, List.getElem_cons_zero, List.getElem_cons_succ, List.setIfInBounds_toArray, List.set_cons_zero, List.set_cons_succ]
      refine wpTo_tk (i := 4) (v := ?_) rfl (by kernel_rfl) (Or.inl ⟨by rfl, ?_⟩) (by assumption) ?_
      rotate_left
      · intro w hSw
        have hSw := hSd _ hSw
        (try dsimp only at hSw)
        go_simp <;> with_reducible rfl
      try simp only [Act.put, List.getElem_toArray, List.getElem_cons_zero, List.getElem_cons_succ, List.setIfInBounds_toArray, List.set_cons_zero, List.set_cons_succ]
      refine wpTo_done (by kernel_rfl) ?_ _
      refine NoPanic.normal ?_
      go_wp2_with fail
      go_meet
      case rel => exact ⟨rfl, unhide Kau11, Zau11, unhide Kxu11, Zxu11, unhide Qru11, unhide Qgu11, unhide Qyu11, unhide Qdu11, unhide Qtu11, unhide Bu11⟩
     exact AllTo.nil
    exact AllTo.nil
  case rest =>
    clear Bv9 Kav9 Zav9 Kxv9 Zxv9 Qrv9 Qgv9 Qyv9 Qdv9 Qtv9
    obtain ⟨rfl, ka, za, kx, zx, qr, qg, qy, qd, qt, hb⟩ := hcut
    obtain ⟨wC, hw8⟩ : ∃ w8 : World, w8 = wc := ⟨_, rfl⟩
    subst wc
    have BwC := hide hb
    have KawC := hide ka
    have ZawC : w.heap.size < wC.heap.size := za
    have KxwC := hide kx
    have ZxwC : v6.heap.size < wC.heap.size := zx
    have QrwC : Hid (RdReq wC r h) := qr
    have QgwC : Hid (ErrT wC) := qg
    have QywC : Hid (RdC wC (a) n xs) := qy
    have QdwC : Hid (RdReq wC r h2) := qd
    have QtwC : Hid (RdC wC (some ⟨v7.heap.size, 0, none⟩) n xs) := qt
    clear hb ka za kx zx qr qg qy qd qt
    go_wp2_with fail
    refine (toCartonS_any a n c xs _ (unhide QywC) hn (unhide HL)).mono ?_
    rintro e v10 ⟨yss, rfl, hy1, hy2, ho, hb⟩
    have Bv10 := hide ((unhide BwC).trans (hb.mono (unhide BwC).size))
    have Kav10 := hide (Blk.below hb ZawC (unhide KawC))
    have Zav10 := Nat.lt_of_lt_of_le ZawC hb.size
    have Kxv10 := hide (Blk.below hb ZxwC (unhide KxwC))
    have Zxv10 := Nat.lt_of_lt_of_le ZxwC hb.size
    have Qrv10 : Hid (RdReq v10 r h) := (unhide QrwC).mono hb
    have Qgv10 : Hid (ErrT v10) := (unhide QgwC).later hb
    have Qyv10 : Hid (RdC v10 (a) n xs) := RdC.mono (unhide QywC) hb
    have Qdv10 : Hid (RdReq v10 r h2) := (unhide QdwC).mono hb
    have Qtv10 : Hid (RdC v10 (some ⟨v7.heap.size, 0, none⟩) n xs) := RdC.mono (unhide QtwC) hb
    clear hb
    clear BwC KawC ZawC KxwC ZxwC QrwC QgwC QywC QdwC QtwC
    have Qsv10 : Hid (RdC v10 (some ⟨wC.heap.size, 0, none⟩) n xs) := by have := ho.read; rw [hy1, hy2] at this; exact this
    clear ho hy1 hy2
    go_wp2_with fail
    refine (eqCartonS_same _ _ _ _ _ xs _ (unhide Qtv10) (unhide Qsv10) hn (unhide HL)).mono ?_
    rintro e v11 ⟨rfl, hb⟩
    have Bv11 := hide ((unhide Bv10).trans (hb.mono (unhide Bv10).size))
    have Kav11 := hide (Blk.below hb Zav10 (unhide Kav10))
    have Zav11 := Nat.lt_of_lt_of_le Zav10 hb.size
    have Kxv11 := hide (Blk.below hb Zxv10 (unhide Kxv10))
    have Zxv11 := Nat.lt_of_lt_of_le Zxv10 hb.size
    have Qrv11 : Hid (RdReq v11 r h) := (unhide Qrv10).mono hb
    have Qgv11 : Hid (ErrT v11) := (unhide Qgv10).later hb
    have Qyv11 : Hid (RdC v11 (a) n xs) := RdC.mono (unhide Qyv10) hb
    have Qdv11 : Hid (RdReq v11 r h2) := (unhide Qdv10).mono hb
    have Qtv11 : Hid (RdC v11 (some ⟨v7.heap.size, 0, none⟩) n xs) := RdC.mono (unhide Qtv10) hb
    have Qsv11 : Hid (RdC v11 (some ⟨wC.heap.size, 0, none⟩) n xs) := RdC.mono (unhide Qsv10) hb
    clear hb
    clear Bv10 Kav10 Zav10 Kxv10 Zxv10 Qrv10 Qgv10 Qyv10 Qdv10 Qtv10 Qsv10
    go_wp2_with fail
    go_ret
    exact ⟨rfl, unhide Bv11⟩
end Go.Proofs.YtphdeojiehigpaaGreatDoor
