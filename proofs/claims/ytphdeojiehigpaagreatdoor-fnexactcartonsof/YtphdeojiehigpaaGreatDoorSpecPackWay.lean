/- By way: the model. -/
import Derived.Test.YtphdeojiehigpaaGreatDoorSpecNextFit
import Derived.Test.YtphdeojiehigpaaGreatDoorSpecFirstFit
import Derived.Deep.DeepMust
import Derived.Deep.DeepCutAuto
import Derived.Deep.RegionHeld3
namespace Go.Proofs.YtphdeojiehigpaaGreatDoor
open Go Go.RowKit
set_option linter.unusedVariables false
set_option linter.unusedSimpArgs false

set_option maxRecDepth 100000 in
set_option maxHeartbeats 4000000 in
theorem specPackWay_any (r : ReqV) (h : ReqH) (a : Option Addr) (n c : Nat) (us : List Int) (w : World) (hr : RdReq w r h) (hs : r.small) (hu : Rd w a n us) (hn : n ≤ 1048576) :
    Calls Tryz.prog 57 #[reqVal r h, .slice a n c] w fun e w' => ∃ g cap rows, e = .returned (.slice (some ⟨g, 0, none⟩) (packR r us).length cap) ∧ Own2 w' w.heap.size g cap rows ∧ rows.map RowV.l = packR r us ∧ Below w.heap.size w w' := by
  have HR := hide hr
  have HU := hide hu
  clear hr hu
  by_cases h1 : r.way = 1
  case pos =>
    have HE : Hid (packR r us = nextR r us) := if_pos h1
    have hd : (r.way == 1) = true := by simp [h1]
    clear h1
    unfold reqVal
    go_enter Tryz.func57, Tryz.ntmps57
    go_wp2_with fail
    have BW : Hid (Below w.heap.size w (w.alloc (.cells #[.int .i64 r.way, .int .i64 r.pal.wd, .int .i64 r.pal.dp, .int .i64 r.pal.ht, .int .i64 r.pal.gram, .int .i64 r.classes, .slice h.ap r.pairs.length h.cp, .slice h.at' r.types.length h.ct, .int .i64 r.master, .slice h.ai r.items.length h.ci] 40))) := ((Below.refl _ _).alloc (by simp) _)
    have KaW : Hid (Blk (w.alloc (.cells #[.int .i64 r.way, .int .i64 r.pal.wd, .int .i64 r.pal.dp, .int .i64 r.pal.ht, .int .i64 r.pal.gram, .int .i64 r.classes, .slice h.ap r.pairs.length h.cp, .slice h.at' r.types.length h.ct, .int .i64 r.master, .slice h.ai r.items.length h.ci] 40)) w.heap.size [.int .i64 r.way, .int .i64 r.pal.wd, .int .i64 r.pal.dp, .int .i64 r.pal.ht, .int .i64 r.pal.gram, .int .i64 r.classes, .slice h.ap r.pairs.length h.cp, .slice h.at' r.types.length h.ct, .int .i64 r.master, .slice h.ai r.items.length h.ci]) := (Blk.allocAt (w := w) [.int .i64 r.way, .int .i64 r.pal.wd, .int .i64 r.pal.dp, .int .i64 r.pal.ht, .int .i64 r.pal.gram, .int .i64 r.classes, .slice h.ap r.pairs.length h.cp, .slice h.at' r.types.length h.ct, .int .i64 r.master, .slice h.ai r.items.length h.ci] (by simp))
    have ZaW : w.heap.size < (w.alloc (.cells #[.int .i64 r.way, .int .i64 r.pal.wd, .int .i64 r.pal.dp, .int .i64 r.pal.ht, .int .i64 r.pal.gram, .int .i64 r.classes, .slice h.ap r.pairs.length h.cp, .slice h.at' r.types.length h.ct, .int .i64 r.master, .slice h.ai r.items.length h.ci] 40)).heap.size := by simp
    have Ga : w.heap.size ≤ w.heap.size := by omega
    generalize (w.alloc (.cells #[.int .i64 r.way, .int .i64 r.pal.wd, .int .i64 r.pal.dp, .int .i64 r.pal.ht, .int .i64 r.pal.gram, .int .i64 r.classes, .slice h.ap r.pairs.length h.cp, .slice h.at' r.types.length h.ct, .int .i64 r.master, .slice h.ai r.items.length h.ci] 40)) = W at *
    refine (specNextFit_any r h a n c us _ ((unhide HR).mono (unhide BW)) hs ((unhide HU).mono (unhide BW)) hn).mono ?_
    rintro e w2 ⟨g, cap, rows, rfl, ho, hx, hb⟩
    have HO := hide (ho.low (unhide BW).size)
    have HX := hide hx
    have HB := hide ((unhide BW).trans (hb.mono (unhide BW).size))
    clear ho hx hb
    go_wp2
    go_ret
    rw [unhide HE]
    exact ⟨g, cap, rows, rfl, unhide HO, unhide HX, unhide HB⟩
  case neg =>
    have HE : Hid (packR r us = firstR r us) := if_neg h1
    have hd : (r.way == 1) = false := by simp [h1]
    clear h1
    unfold reqVal
    go_enter Tryz.func57, Tryz.ntmps57
    go_wp2_with fail
    have BW : Hid (Below w.heap.size w (w.alloc (.cells #[.int .i64 r.way, .int .i64 r.pal.wd, .int .i64 r.pal.dp, .int .i64 r.pal.ht, .int .i64 r.pal.gram, .int .i64 r.classes, .slice h.ap r.pairs.length h.cp, .slice h.at' r.types.length h.ct, .int .i64 r.master, .slice h.ai r.items.length h.ci] 40))) := ((Below.refl _ _).alloc (by simp) _)
    have KaW : Hid (Blk (w.alloc (.cells #[.int .i64 r.way, .int .i64 r.pal.wd, .int .i64 r.pal.dp, .int .i64 r.pal.ht, .int .i64 r.pal.gram, .int .i64 r.classes, .slice h.ap r.pairs.length h.cp, .slice h.at' r.types.length h.ct, .int .i64 r.master, .slice h.ai r.items.length h.ci] 40)) w.heap.size [.int .i64 r.way, .int .i64 r.pal.wd, .int .i64 r.pal.dp, .int .i64 r.pal.ht, .int .i64 r.pal.gram, .int .i64 r.classes, .slice h.ap r.pairs.length h.cp, .slice h.at' r.types.length h.ct, .int .i64 r.master, .slice h.ai r.items.length h.ci]) := (Blk.allocAt (w := w) [.int .i64 r.way, .int .i64 r.pal.wd, .int .i64 r.pal.dp, .int .i64 r.pal.ht, .int .i64 r.pal.gram, .int .i64 r.classes, .slice h.ap r.pairs.length h.cp, .slice h.at' r.types.length h.ct, .int .i64 r.master, .slice h.ai r.items.length h.ci] (by simp))
    have ZaW : w.heap.size < (w.alloc (.cells #[.int .i64 r.way, .int .i64 r.pal.wd, .int .i64 r.pal.dp, .int .i64 r.pal.ht, .int .i64 r.pal.gram, .int .i64 r.classes, .slice h.ap r.pairs.length h.cp, .slice h.at' r.types.length h.ct, .int .i64 r.master, .slice h.ai r.items.length h.ci] 40)).heap.size := by simp
    have Ga : w.heap.size ≤ w.heap.size := by omega
    generalize (w.alloc (.cells #[.int .i64 r.way, .int .i64 r.pal.wd, .int .i64 r.pal.dp, .int .i64 r.pal.ht, .int .i64 r.pal.gram, .int .i64 r.classes, .slice h.ap r.pairs.length h.cp, .slice h.at' r.types.length h.ct, .int .i64 r.master, .slice h.ai r.items.length h.ci] 40)) = W at *
    refine (specFirstFit_any r h a n c us _ ((unhide HR).mono (unhide BW)) hs ((unhide HU).mono (unhide BW)) hn).mono ?_
    rintro e w2 ⟨g, cap, rows, rfl, ho, hx, hb⟩
    have HO := hide (ho.low (unhide BW).size)
    have HX := hide hx
    have HB := hide ((unhide BW).trans (hb.mono (unhide BW).size))
    clear ho hx hb
    go_wp2
    go_ret
    rw [unhide HE]
    exact ⟨g, cap, rows, rfl, unhide HO, unhide HX, unhide HB⟩
end Go.Proofs.YtphdeojiehigpaaGreatDoor
