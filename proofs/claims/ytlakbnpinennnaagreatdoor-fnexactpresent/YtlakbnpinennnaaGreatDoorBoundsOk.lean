/- BoundsOk of the program answers as the bounds say. -/
import Derived.Test.YtlakbnpinennnaaGreatDoorBounds
namespace Go.Proofs.YtlakbnpinennnaaGreatDoor
open Go.RowKit
set_option linter.unusedVariables false

theorem boundsB_no {r : ReqV} (h : inB r.way 0 1 = false ∨ palletB r.pal.wd r.pal.dp r.pal.ht r.pal.gram = false ∨ inB r.classes 1 4 = false ∨ pairsB r.pairs = false ∨ typesB r.types = false ∨ inB r.master 0 999 = false ∨ itemsB r.items = false) : boundsB r = false := by
  rcases h with h | h | h | h | h | h | h <;> simp [boundsB, PalletV.ok, h]
theorem boundsB_yes {r : ReqV} (h1 : inB r.way 0 1 = true) (h2 : palletB r.pal.wd r.pal.dp r.pal.ht r.pal.gram = true) (h3 : inB r.classes 1 4 = true) (h4 : pairsB r.pairs = true) (h5 : typesB r.types = true) (h6 : inB r.master 0 999 = true) (h7 : itemsB r.items = true) : boundsB r = true := by
  simp [boundsB, PalletV.ok, h1, h2, h3, h4, h5, h6, h7]
set_option maxHeartbeats 1000000 in
theorem boundsOk_any (r : ReqV) (h : ReqH) (w : World) (hr : RdReq w r h) (hs : r.small) :
    Calls Tryz.prog 113 #[reqVal r h] w fun e w' => e = .returned (.bool (boundsB r)) ∧ Below w.heap.size w w' := by
  unfold ReqV.small at hs
  unfold reqVal
  go_enter Tryz.func113, Tryz.ntmps113
  go_wp2_with fail
  refine (within_any _ _ _ _).mono ?_
  rintro e w' ⟨rfl, hw⟩
  subst w'
  cases h1 : inB r.way 0 1
  · have HN := hide (boundsB_no (r := r) (.inl h1))
    go_wp2_with fail
    go_ret
    exact ⟨ret_bool (unhide HN).symm, (Below.refl _ _).alloc (Nat.le_refl _) _⟩
  go_wp2_with fail
  refine (palletOk_any _ _ _ _ _).mono ?_
  rintro e w1 ⟨rfl, hb1⟩
  have H1 : Hid (Below w.heap.size w w1) := ((Below.refl w.heap.size w).alloc (Nat.le_refl _) _).trans (hb1.mono (by simp))
  have z1 : w.heap.size < w1.heap.size := by have := hb1.size; simp at this; omega
  have A1 : Blk w1 w.heap.size [.int .i64 r.way, .int .i64 r.pal.wd, .int .i64 r.pal.dp, .int .i64 r.pal.ht, .int .i64 r.pal.gram, .int .i64 r.classes, .slice h.ap r.pairs.length h.cp, .slice h.at' r.types.length h.ct, .int .i64 r.master, .slice h.ai r.items.length h.ci] := Blk.below hb1 (by simp) (Blk.allocAt [.int .i64 r.way, .int .i64 r.pal.wd, .int .i64 r.pal.dp, .int .i64 r.pal.ht, .int .i64 r.pal.gram, .int .i64 r.classes, .slice h.ap r.pairs.length h.cp, .slice h.at' r.types.length h.ct, .int .i64 r.master, .slice h.ai r.items.length h.ci] rfl)
  have a1_0 : w1.cell? ⟨w.heap.size, 0, none⟩ = some (.int .i64 r.way) := (A1 0 (by simp)).1
  have a1_1 : w1.cell? ⟨w.heap.size, 1, none⟩ = some (.int .i64 r.pal.wd) := (A1 1 (by simp)).1
  have a1_2 : w1.cell? ⟨w.heap.size, 2, none⟩ = some (.int .i64 r.pal.dp) := (A1 2 (by simp)).1
  have a1_3 : w1.cell? ⟨w.heap.size, 3, none⟩ = some (.int .i64 r.pal.ht) := (A1 3 (by simp)).1
  have a1_4 : w1.cell? ⟨w.heap.size, 4, none⟩ = some (.int .i64 r.pal.gram) := (A1 4 (by simp)).1
  have a1_5 : w1.cell? ⟨w.heap.size, 5, none⟩ = some (.int .i64 r.classes) := (A1 5 (by simp)).1
  have a1_6 : w1.cell? ⟨w.heap.size, 6, none⟩ = some (.slice h.ap r.pairs.length h.cp) := (A1 6 (by simp)).1
  have a1_7 : w1.cell? ⟨w.heap.size, 7, none⟩ = some (.slice h.at' r.types.length h.ct) := (A1 7 (by simp)).1
  have a1_8 : w1.cell? ⟨w.heap.size, 8, none⟩ = some (.int .i64 r.master) := (A1 8 (by simp)).1
  have a1_9 : w1.cell? ⟨w.heap.size, 9, none⟩ = some (.slice h.ai r.items.length h.ci) := (A1 9 (by simp)).1
  have HA1 := hide A1
  clear hb1 A1
  cases h2 : palletB r.pal.wd r.pal.dp r.pal.ht r.pal.gram
  · have HN := hide (boundsB_no (r := r) (.inr (.inl h2)))
    go_wp2_with fail
    go_ret
    exact ⟨ret_bool (unhide HN).symm, unhide H1⟩
  go_wp2_with fail
  refine (within_any _ _ _ _).mono ?_
  rintro e w' ⟨rfl, hw⟩
  subst w'
  cases h3 : inB r.classes 1 4
  · have HN := hide (boundsB_no (r := r) (.inr (.inr (.inl h3))))
    go_wp2_with fail
    go_ret
    exact ⟨ret_bool (unhide HN).symm, unhide H1⟩
  go_wp2_with fail
  refine (pairsOk_any _ _ _ r.pairs _ ?hq2 (by omega)).mono ?_
  case hq2 => exact (hr.mono (unhide H1)).1
  rintro e w2 ⟨rfl, hb2⟩
  clear a1_0 a1_1 a1_2 a1_3 a1_4 a1_5 a1_6 a1_7 a1_8 a1_9
  have H2 : Hid (Below w.heap.size w w2) := (unhide H1).trans (hb2.mono (unhide H1).size)
  have z2 : w.heap.size < w2.heap.size := Nat.lt_of_lt_of_le z1 hb2.size
  have A2 := Blk.below hb2 (by omega) (unhide HA1)
  have a2_0 : w2.cell? ⟨w.heap.size, 0, none⟩ = some (.int .i64 r.way) := (A2 0 (by simp)).1
  have a2_1 : w2.cell? ⟨w.heap.size, 1, none⟩ = some (.int .i64 r.pal.wd) := (A2 1 (by simp)).1
  have a2_2 : w2.cell? ⟨w.heap.size, 2, none⟩ = some (.int .i64 r.pal.dp) := (A2 2 (by simp)).1
  have a2_3 : w2.cell? ⟨w.heap.size, 3, none⟩ = some (.int .i64 r.pal.ht) := (A2 3 (by simp)).1
  have a2_4 : w2.cell? ⟨w.heap.size, 4, none⟩ = some (.int .i64 r.pal.gram) := (A2 4 (by simp)).1
  have a2_5 : w2.cell? ⟨w.heap.size, 5, none⟩ = some (.int .i64 r.classes) := (A2 5 (by simp)).1
  have a2_6 : w2.cell? ⟨w.heap.size, 6, none⟩ = some (.slice h.ap r.pairs.length h.cp) := (A2 6 (by simp)).1
  have a2_7 : w2.cell? ⟨w.heap.size, 7, none⟩ = some (.slice h.at' r.types.length h.ct) := (A2 7 (by simp)).1
  have a2_8 : w2.cell? ⟨w.heap.size, 8, none⟩ = some (.int .i64 r.master) := (A2 8 (by simp)).1
  have a2_9 : w2.cell? ⟨w.heap.size, 9, none⟩ = some (.slice h.ai r.items.length h.ci) := (A2 9 (by simp)).1
  have HA2 := hide A2
  clear hb2 A2 HA1 H1
  cases h4 : pairsB r.pairs
  · have HN := hide (boundsB_no (r := r) (.inr (.inr (.inr (.inl h4)))))
    go_wp2_with fail
    go_ret
    exact ⟨ret_bool (unhide HN).symm, unhide H2⟩
  go_wp2_with fail
  refine (typesOk_any _ _ _ r.types _ ?hq3 (by omega)).mono ?_
  case hq3 => exact (hr.mono (unhide H2)).2.1
  rintro e w3 ⟨rfl, hb3⟩
  clear a2_0 a2_1 a2_2 a2_3 a2_4 a2_5 a2_6 a2_7 a2_8 a2_9
  have H3 : Hid (Below w.heap.size w w3) := (unhide H2).trans (hb3.mono (unhide H2).size)
  have z3 : w.heap.size < w3.heap.size := Nat.lt_of_lt_of_le z2 hb3.size
  have A3 := Blk.below hb3 (by omega) (unhide HA2)
  have a3_0 : w3.cell? ⟨w.heap.size, 0, none⟩ = some (.int .i64 r.way) := (A3 0 (by simp)).1
  have a3_1 : w3.cell? ⟨w.heap.size, 1, none⟩ = some (.int .i64 r.pal.wd) := (A3 1 (by simp)).1
  have a3_2 : w3.cell? ⟨w.heap.size, 2, none⟩ = some (.int .i64 r.pal.dp) := (A3 2 (by simp)).1
  have a3_3 : w3.cell? ⟨w.heap.size, 3, none⟩ = some (.int .i64 r.pal.ht) := (A3 3 (by simp)).1
  have a3_4 : w3.cell? ⟨w.heap.size, 4, none⟩ = some (.int .i64 r.pal.gram) := (A3 4 (by simp)).1
  have a3_5 : w3.cell? ⟨w.heap.size, 5, none⟩ = some (.int .i64 r.classes) := (A3 5 (by simp)).1
  have a3_6 : w3.cell? ⟨w.heap.size, 6, none⟩ = some (.slice h.ap r.pairs.length h.cp) := (A3 6 (by simp)).1
  have a3_7 : w3.cell? ⟨w.heap.size, 7, none⟩ = some (.slice h.at' r.types.length h.ct) := (A3 7 (by simp)).1
  have a3_8 : w3.cell? ⟨w.heap.size, 8, none⟩ = some (.int .i64 r.master) := (A3 8 (by simp)).1
  have a3_9 : w3.cell? ⟨w.heap.size, 9, none⟩ = some (.slice h.ai r.items.length h.ci) := (A3 9 (by simp)).1
  have HA3 := hide A3
  clear hb3 A3 HA2 H2
  cases h5 : typesB r.types
  · have HN := hide (boundsB_no (r := r) (.inr (.inr (.inr (.inr (.inl h5))))))
    go_wp2_with fail
    go_ret
    exact ⟨ret_bool (unhide HN).symm, unhide H3⟩
  go_wp2_with fail
  refine (within_any _ _ _ _).mono ?_
  rintro e w' ⟨rfl, hw⟩
  subst w'
  cases h6 : inB r.master 0 999
  · have HN := hide (boundsB_no (r := r) (.inr (.inr (.inr (.inr (.inr (.inl h6)))))))
    go_wp2_with fail
    go_ret
    exact ⟨ret_bool (unhide HN).symm, unhide H3⟩
  go_wp2_with fail
  refine (itemsOk_any _ _ _ r.items _ ?hq4 (by omega)).mono ?_
  case hq4 => exact (hr.mono (unhide H3)).2.2
  rintro e w4 ⟨rfl, hb4⟩
  clear a3_0 a3_1 a3_2 a3_3 a3_4 a3_5 a3_6 a3_7 a3_8 a3_9
  have H4 : Hid (Below w.heap.size w w4) := (unhide H3).trans (hb4.mono (unhide H3).size)
  have z4 : w.heap.size < w4.heap.size := Nat.lt_of_lt_of_le z3 hb4.size
  have A4 := Blk.below hb4 (by omega) (unhide HA3)
  have a4_0 : w4.cell? ⟨w.heap.size, 0, none⟩ = some (.int .i64 r.way) := (A4 0 (by simp)).1
  have a4_1 : w4.cell? ⟨w.heap.size, 1, none⟩ = some (.int .i64 r.pal.wd) := (A4 1 (by simp)).1
  have a4_2 : w4.cell? ⟨w.heap.size, 2, none⟩ = some (.int .i64 r.pal.dp) := (A4 2 (by simp)).1
  have a4_3 : w4.cell? ⟨w.heap.size, 3, none⟩ = some (.int .i64 r.pal.ht) := (A4 3 (by simp)).1
  have a4_4 : w4.cell? ⟨w.heap.size, 4, none⟩ = some (.int .i64 r.pal.gram) := (A4 4 (by simp)).1
  have a4_5 : w4.cell? ⟨w.heap.size, 5, none⟩ = some (.int .i64 r.classes) := (A4 5 (by simp)).1
  have a4_6 : w4.cell? ⟨w.heap.size, 6, none⟩ = some (.slice h.ap r.pairs.length h.cp) := (A4 6 (by simp)).1
  have a4_7 : w4.cell? ⟨w.heap.size, 7, none⟩ = some (.slice h.at' r.types.length h.ct) := (A4 7 (by simp)).1
  have a4_8 : w4.cell? ⟨w.heap.size, 8, none⟩ = some (.int .i64 r.master) := (A4 8 (by simp)).1
  have a4_9 : w4.cell? ⟨w.heap.size, 9, none⟩ = some (.slice h.ai r.items.length h.ci) := (A4 9 (by simp)).1
  have HA4 := hide A4
  clear hb4 A4 HA3 H3
  cases h7 : itemsB r.items
  · have HN := hide (boundsB_no (r := r) (.inr (.inr (.inr (.inr (.inr (.inr (h7))))))))
    go_wp2_with fail
    go_ret
    exact ⟨ret_bool (unhide HN).symm, unhide H4⟩
  have HN := hide (boundsB_yes h1 h2 h3 h4 h5 h6 h7)
  go_wp2_with fail
  go_ret
  exact ⟨ret_bool (unhide HN).symm, unhide H4⟩
end Go.Proofs.YtlakbnpinennnaaGreatDoor
