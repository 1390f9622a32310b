/- By way. -/
import Derived.Test.YtphdeojiehigpaaGreatDoorPackNext
import Derived.Test.YtphdeojiehigpaaGreatDoorPackFirst
import Derived.Deep.DeepMust
import Derived.Deep.DeepCutAuto
import Derived.Deep.RegionHeld3
namespace Go.Proofs.YtphdeojiehigpaaGreatDoor
open Go Go.RowKit
set_option linter.unusedVariables false
set_option linter.unusedSimpArgs false

set_option maxRecDepth 100000 in
set_option maxHeartbeats 4000000 in
theorem packByNot_any (r : ReqV) (h : ReqH) (a : Option Addr) (n c : Nat) (us : List Int) (way : Int) (w : World) (hr : RdReq w r h) (hs : r.small) (hg : ErrT w) (hz : ¬ classI r = 0) :
    Calls Tryz.prog 105 #[reqVal r h, .slice a n c, .int .i64 way] w fun e w' => e = .returned (.slice none 0 0) ∧ Below w.heap.size w w' := by
  have HR := hide hr
  have HG := hide hg
  clear hr hg
  unfold reqVal
  go_enter Tryz.func105, Tryz.ntmps105
  go_wp2_with fail
  have BW : Hid (Below w.heap.size w (w.alloc (.cells #[.int .i64 r.way, .int .i64 r.pal.wd, .int .i64 r.pal.dp, .int .i64 r.pal.ht, .int .i64 r.pal.gram, .int .i64 r.classes, .slice h.ap r.pairs.length h.cp, .slice h.at' r.types.length h.ct, .int .i64 r.master, .slice h.ai r.items.length h.ci] 40))) := ((Below.refl _ _).alloc (by simp) _)
  have KaW : Hid (Blk (w.alloc (.cells #[.int .i64 r.way, .int .i64 r.pal.wd, .int .i64 r.pal.dp, .int .i64 r.pal.ht, .int .i64 r.pal.gram, .int .i64 r.classes, .slice h.ap r.pairs.length h.cp, .slice h.at' r.types.length h.ct, .int .i64 r.master, .slice h.ai r.items.length h.ci] 40)) w.heap.size [.int .i64 r.way, .int .i64 r.pal.wd, .int .i64 r.pal.dp, .int .i64 r.pal.ht, .int .i64 r.pal.gram, .int .i64 r.classes, .slice h.ap r.pairs.length h.cp, .slice h.at' r.types.length h.ct, .int .i64 r.master, .slice h.ai r.items.length h.ci]) := (Blk.allocAt (w := w) [.int .i64 r.way, .int .i64 r.pal.wd, .int .i64 r.pal.dp, .int .i64 r.pal.ht, .int .i64 r.pal.gram, .int .i64 r.classes, .slice h.ap r.pairs.length h.cp, .slice h.at' r.types.length h.ct, .int .i64 r.master, .slice h.ai r.items.length h.ci] (by simp))
  have ZaW : w.heap.size < (w.alloc (.cells #[.int .i64 r.way, .int .i64 r.pal.wd, .int .i64 r.pal.dp, .int .i64 r.pal.ht, .int .i64 r.pal.gram, .int .i64 r.classes, .slice h.ap r.pairs.length h.cp, .slice h.at' r.types.length h.ct, .int .i64 r.master, .slice h.ai r.items.length h.ci] 40)).heap.size := by simp
  have Ga : w.heap.size ≤ w.heap.size := by omega
  generalize (w.alloc (.cells #[.int .i64 r.way, .int .i64 r.pal.wd, .int .i64 r.pal.dp, .int .i64 r.pal.ht, .int .i64 r.pal.gram, .int .i64 r.classes, .slice h.ap r.pairs.length h.cp, .slice h.at' r.types.length h.ct, .int .i64 r.master, .slice h.ai r.items.length h.ci] 40)) = W at *
  refine (class_any r h _ ((unhide HR).mono (unhide BW)) hs ((unhide HG).later (unhide BW))).mono ?_
  rintro e v1 ⟨rfl, hb⟩
  have Bv1 := hide ((unhide BW).trans (hb.mono (unhide BW).size))
  have Kav1 := hide (Blk.below hb ZaW (unhide KaW))
  have Zav1 := Nat.lt_of_lt_of_le ZaW hb.size
  clear hb
  clear BW KaW ZaW
  have hne : (classI r != 0) = true := by simp [hz]
  clear hz
  go_wp2
  go_ret
  exact ⟨rfl, unhide Bv1⟩
theorem way_in {r : ReqV} (hz : classI r = 0) : r.way = 1 ∨ r.way = 0 := by
  have h1 := (class_zero hz).1
  simp only [boundsB, Bool.and_eq_true, inB_iff] at h1
  omega
theorem packByWay_any (r : ReqV) (h : ReqH) (a : Option Addr) (n c : Nat) (us : List Int) (w : World) (hr : RdReq w r h) (hs : r.small) (hg : ErrT w) (hu : Rd w a n us) (hn : n ≤ 1048576) :
    Calls Tryz.prog 105 #[reqVal r h, .slice a n c, .int .i64 r.way] w fun e w' => ∃ oa oc rows, e = .returned (.slice oa (packR r us).length oc) ∧ Own2A w' w.heap.size oa oc rows ∧ rows.map RowV.l = packR r us ∧ Below w.heap.size w w' := by
  by_cases hz : classI r = 0
  · by_cases h1 : r.way = 1
    · rw [h1, show packR r us = nextR r us from if_pos h1]
      exact packByNext_any r h a n c us w hr hs hg hu hn
    · rw [show r.way = 0 from (way_in hz).resolve_left h1, show packR r us = firstR r us from if_neg h1]
      exact packByFirst_any r h a n c us w hr hs hg hu hn
  · refine (packByNot_any r h a n c us r.way w hr hs hg hz).mono ?_
    rintro e w2 ⟨rfl, hb⟩
    rw [packR_not hz us]
    exact ⟨none, 0, [], rfl, .inl ⟨rfl, rfl, rfl⟩, rfl, hb⟩
set_option maxHeartbeats 2000000 in
theorem packWay_any (r : ReqV) (h : ReqH) (a : Option Addr) (n c : Nat) (us : List Int) (w : World) (hr : RdReq w r h) (hs : r.small) (hg : ErrT w) (hu : Rd w a n us) (hn : n ≤ 1048576) :
    Calls Tryz.prog 61 #[reqVal r h, .slice a n c] w fun e w' => ∃ oa oc rows, e = .returned (.slice oa (packR r us).length oc) ∧ Own2A w' w.heap.size oa oc rows ∧ rows.map RowV.l = packR r us ∧ Below w.heap.size w w' := by
  have HR := hide hr
  have HG := hide hg
  have HU := hide hu
  clear hr hg hu
  unfold reqVal
  go_enter Tryz.func61, Tryz.ntmps61
  go_wp2_with fail
  have BW : Hid (Below w.heap.size w (w.alloc (.cells #[.int .i64 r.way, .int .i64 r.pal.wd, .int .i64 r.pal.dp, .int .i64 r.pal.ht, .int .i64 r.pal.gram, .int .i64 r.classes, .slice h.ap r.pairs.length h.cp, .slice h.at' r.types.length h.ct, .int .i64 r.master, .slice h.ai r.items.length h.ci] 40))) := ((Below.refl _ _).alloc (by simp) _)
  have KaW : Hid (Blk (w.alloc (.cells #[.int .i64 r.way, .int .i64 r.pal.wd, .int .i64 r.pal.dp, .int .i64 r.pal.ht, .int .i64 r.pal.gram, .int .i64 r.classes, .slice h.ap r.pairs.length h.cp, .slice h.at' r.types.length h.ct, .int .i64 r.master, .slice h.ai r.items.length h.ci] 40)) w.heap.size [.int .i64 r.way, .int .i64 r.pal.wd, .int .i64 r.pal.dp, .int .i64 r.pal.ht, .int .i64 r.pal.gram, .int .i64 r.classes, .slice h.ap r.pairs.length h.cp, .slice h.at' r.types.length h.ct, .int .i64 r.master, .slice h.ai r.items.length h.ci]) := (Blk.allocAt (w := w) [.int .i64 r.way, .int .i64 r.pal.wd, .int .i64 r.pal.dp, .int .i64 r.pal.ht, .int .i64 r.pal.gram, .int .i64 r.classes, .slice h.ap r.pairs.length h.cp, .slice h.at' r.types.length h.ct, .int .i64 r.master, .slice h.ai r.items.length h.ci] (by simp))
  have ZaW : w.heap.size < (w.alloc (.cells #[.int .i64 r.way, .int .i64 r.pal.wd, .int .i64 r.pal.dp, .int .i64 r.pal.ht, .int .i64 r.pal.gram, .int .i64 r.classes, .slice h.ap r.pairs.length h.cp, .slice h.at' r.types.length h.ct, .int .i64 r.master, .slice h.ai r.items.length h.ci] 40)).heap.size := by simp
  have Ga : w.heap.size ≤ w.heap.size := by omega
  generalize (w.alloc (.cells #[.int .i64 r.way, .int .i64 r.pal.wd, .int .i64 r.pal.dp, .int .i64 r.pal.ht, .int .i64 r.pal.gram, .int .i64 r.classes, .slice h.ap r.pairs.length h.cp, .slice h.at' r.types.length h.ct, .int .i64 r.master, .slice h.ai r.items.length h.ci] 40)) = W at *
  refine (packByWay_any r h a n c us _ ((unhide HR).mono (unhide BW)) hs ((unhide HG).later (unhide BW)) ((unhide HU).mono (unhide BW)) hn).mono ?_
  rintro e w2 ⟨oa, oc, rows, rfl, ho, hx, hb⟩
  have HO := hide (ho.low (unhide BW).size)
  have HX := hide hx
  have HB := hide ((unhide BW).trans (hb.mono (unhide BW).size))
  clear ho hx hb
  go_wp2
  go_ret
  exact ⟨oa, oc, rows, rfl, unhide HO, unhide HX, unhide HB⟩
end Go.Proofs.YtphdeojiehigpaaGreatDoor
