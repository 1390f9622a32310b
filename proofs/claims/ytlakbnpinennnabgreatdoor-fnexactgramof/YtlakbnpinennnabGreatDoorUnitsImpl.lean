/- Units of the program. -/
import Derived.Test.YtlakbnpinennnabGreatDoorEachUnit
import Derived.Test.YtlakbnpinennnabGreatDoorPkF
namespace Go.Proofs.YtlakbnpinennnabGreatDoor
open Go.RowKit Go.Shelf
set_option linter.unusedVariables false
attribute [local go_sem] Oper.semAt_some

/-- Where what is gone through lies. -/
def soundA (r : ReqV) (h : ReqH) : Option Addr := if classI r = 0 then h.ai else none
def soundC (r : ReqV) (h : ReqH) : Nat := if classI r = 0 then h.ci else 0
def soundV (r : ReqV) (h : ReqH) : Value := .slice (soundA r h) (itemsR r).length (soundC r h)
theorem soundV_zero {r : ReqV} (h : ReqH) (hc : classI r = 0) : soundV r h = .slice h.ai r.items.length h.ci := by simp [soundV, soundA, soundC, itemsR, hc]
theorem soundV_not {r : ReqV} (h : ReqH) (hc : ¬ classI r = 0) : soundV r h = .slice none 0 0 := by simp [soundV, soundA, soundC, itemsR, hc]
theorem sound_rd {w : World} {r : ReqV} {h : ReqH} (hr : RdReq w r h) : RdR ItemV.cells 7 w (soundA r h) (itemsR r).length (itemsR r) := by
  by_cases hc : classI r = 0
  · rw [soundA, if_pos hc, itemsR_zero hc]; exact hr.2.2
  · rw [itemsR_not hc]; exact ⟨rfl, fun i hi => absurd hi (Nat.not_lt_zero _)⟩
theorem ret_val {a b : Value} (h : a = b) : Ending.returned a = .returned b := by rw [h]
theorem boxed_later {W W' : World} {B : Nat} {t : TypeId} {v : Value} (h : Boxed W B t v) (hb : Below W.heap.size W W') : Boxed W' B t v := (hb.block B h.lt).trans h

set_option maxHeartbeats 2000000 in
theorem soundItems_any (r : ReqV) (h : ReqH) (w : World) (hr : RdReq w r h) (hs : r.small) (hg : ErrT w) :
    Calls Tryz.prog 24 #[reqVal r h] w fun e w' => e = .returned (soundV r h) ∧ Below w.heap.size w w' := by
  unfold reqVal
  go_enter Tryz.func24, Tryz.ntmps24
  go_wp2_with fail
  have hb : Below w.heap.size w (w.alloc (.cells #[.int .i64 r.way, .int .i64 r.pal.wd, .int .i64 r.pal.dp, .int .i64 r.pal.ht, .int .i64 r.pal.gram, .int .i64 r.classes, .slice h.ap r.pairs.length h.cp, .slice h.at' r.types.length h.ct, .int .i64 r.master, .slice h.ai r.items.length h.ci] 37)) := (Below.refl _ _).alloc (Nat.le_refl _) _
  have Kaw1 : Hid (Blk (w.alloc (.cells #[.int .i64 r.way, .int .i64 r.pal.wd, .int .i64 r.pal.dp, .int .i64 r.pal.ht, .int .i64 r.pal.gram, .int .i64 r.classes, .slice h.ap r.pairs.length h.cp, .slice h.at' r.types.length h.ct, .int .i64 r.master, .slice h.ai r.items.length h.ci] 37)) w.heap.size [.int .i64 r.way, .int .i64 r.pal.wd, .int .i64 r.pal.dp, .int .i64 r.pal.ht, .int .i64 r.pal.gram, .int .i64 r.classes, .slice h.ap r.pairs.length h.cp, .slice h.at' r.types.length h.ct, .int .i64 r.master, .slice h.ai r.items.length h.ci]) := Blk.allocAt [.int .i64 r.way, .int .i64 r.pal.wd, .int .i64 r.pal.dp, .int .i64 r.pal.ht, .int .i64 r.pal.gram, .int .i64 r.classes, .slice h.ap r.pairs.length h.cp, .slice h.at' r.types.length h.ct, .int .i64 r.master, .slice h.ai r.items.length h.ci] rfl
  have zaw1 : w.heap.size < (w.alloc (.cells #[.int .i64 r.way, .int .i64 r.pal.wd, .int .i64 r.pal.dp, .int .i64 r.pal.ht, .int .i64 r.pal.gram, .int .i64 r.classes, .slice h.ap r.pairs.length h.cp, .slice h.at' r.types.length h.ct, .int .i64 r.master, .slice h.ai r.items.length h.ci] 37)).heap.size := by simp
  generalize (w.alloc (.cells #[.int .i64 r.way, .int .i64 r.pal.wd, .int .i64 r.pal.dp, .int .i64 r.pal.ht, .int .i64 r.pal.gram, .int .i64 r.classes, .slice h.ap r.pairs.length h.cp, .slice h.at' r.types.length h.ct, .int .i64 r.master, .slice h.ai r.items.length h.ci] 37)) = w1 at *
  have Hw1 : Hid (Below w.heap.size w w1) := hb
  clear hb
  have Qrw1 : Hid (RdReq w1 r h) := hr.mono (unhide Hw1)
  have Qgw1 : Hid (ErrT w1) := hg.later (unhide Hw1)
  refine (class_any r h _ (unhide Qrw1) hs (unhide Qgw1)).mono ?_
  rintro e w2 ⟨rfl, hbw2⟩
  have Hw2 : Hid (Below w.heap.size w w2) := (unhide Hw1).trans (hbw2.mono (unhide Hw1).size)
  have Kaw2 := hide (Blk.below hbw2 zaw1 (unhide Kaw1))
  have zaw2 : w.heap.size < w2.heap.size := Nat.lt_of_lt_of_le zaw1 hbw2.size
  have Qrw2 : Hid (RdReq w2 r h) := (unhide Qrw1).mono hbw2
  have Qgw2 : Hid (ErrT w2) := (unhide Qgw1).later hbw2
  clear Hw1 Kaw1 zaw1 Qrw1 Qgw1
  clear hbw2
  have aw2_0 : w2.cell? ⟨w.heap.size, 0, none⟩ = some (.int .i64 r.way) := ((unhide Kaw2) 0 (by simp)).1
  have aw2_1 : w2.cell? ⟨w.heap.size, 1, none⟩ = some (.int .i64 r.pal.wd) := ((unhide Kaw2) 1 (by simp)).1
  have aw2_2 : w2.cell? ⟨w.heap.size, 2, none⟩ = some (.int .i64 r.pal.dp) := ((unhide Kaw2) 2 (by simp)).1
  have aw2_3 : w2.cell? ⟨w.heap.size, 3, none⟩ = some (.int .i64 r.pal.ht) := ((unhide Kaw2) 3 (by simp)).1
  have aw2_4 : w2.cell? ⟨w.heap.size, 4, none⟩ = some (.int .i64 r.pal.gram) := ((unhide Kaw2) 4 (by simp)).1
  have aw2_5 : w2.cell? ⟨w.heap.size, 5, none⟩ = some (.int .i64 r.classes) := ((unhide Kaw2) 5 (by simp)).1
  have aw2_6 : w2.cell? ⟨w.heap.size, 6, none⟩ = some (.slice h.ap r.pairs.length h.cp) := ((unhide Kaw2) 6 (by simp)).1
  have aw2_7 : w2.cell? ⟨w.heap.size, 7, none⟩ = some (.slice h.at' r.types.length h.ct) := ((unhide Kaw2) 7 (by simp)).1
  have aw2_8 : w2.cell? ⟨w.heap.size, 8, none⟩ = some (.int .i64 r.master) := ((unhide Kaw2) 8 (by simp)).1
  have aw2_9 : w2.cell? ⟨w.heap.size, 9, none⟩ = some (.slice h.ai r.items.length h.ci) := ((unhide Kaw2) 9 (by simp)).1
  by_cases hz : classI r = 0
  · have HZ := hide (soundV_zero h hz)
    rw [hz]
    go_wp2
    go_ret
    exact ⟨ret_val (unhide HZ).symm, unhide Hw2⟩
  · have HZ := hide (soundV_not h hz)
    have hne : (classI r != 0) = true := by simp [hz]
    go_wp2
    go_ret
    exact ⟨ret_val (unhide HZ).symm, unhide Hw2⟩

end Go.Proofs.YtlakbnpinennnabGreatDoor
