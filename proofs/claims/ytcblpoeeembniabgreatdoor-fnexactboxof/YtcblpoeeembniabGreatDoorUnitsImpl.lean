/- Units of the program. -/
import Derived.Test.YtcblpoeeembniabGreatDoorEachUnit
import Derived.Test.YtcblpoeeembniabGreatDoorPkF
namespace Go.Proofs.YtcblpoeeembniabGreatDoor
open Go.RowKit Go.Shelf
set_option linter.unusedVariables false
attribute [local go_sem] Oper.semAt_some

/-- Where what is gone through lies. -/
def soundA (r : ReqV) (h : ReqH) : Option Addr := if classI r = 0 then h.ai else none
def soundC (r : ReqV) (h : ReqH) : Nat := if classI r = 0 then h.ci else 0
def soundV (r : ReqV) (h : ReqH) : Value := .slice (soundA r h) (itemsR r).length (soundC r h)
theorem soundV_zero {r : ReqV} (h : ReqH) (hc : classI r = 0) : soundV r h = .slice h.ai r.items.length h.ci := by simp [soundV, soundA, soundC, itemsR, hc]
theorem soundV_not {r : ReqV} (h : ReqH) (hc : ¬ classI r = 0) : soundV r h = .slice none 0 0 := by simp [soundV, soundA, soundC, itemsR, hc]
theorem sound_rd {w : World} {r : ReqV} {h : ReqH} (hr : RdReq w r h) : RdR ItemV.cells 7 w (soundA r h) (itemsR r).length (itemsR r) := by
 by_cases hc : classI r = 0
 · rw [soundA, if_pos hc, itemsR_zero hc]; exact hr.2.2
 · rw [itemsR_not hc]; exact ⟨rfl, fun i hi => absurd hi (Nat.not_lt_zero _)⟩
theorem ret_val {a b : Value} (h : a = b) : Ending.returned a = .returned b := by rw [h]
theorem boxed_later {W W' : World} {B : Nat} {t : TypeId} {v : Value} (h : Boxed W B t v) (hb : Below W.heap.size W W') : Boxed W' B t v := (hb.block B h.lt).trans h

set_option maxHeartbeats 2000000 in
theorem soundItems_any (r : ReqV) (h : ReqH) (w : World) (hr : RdReq w r h) (hs : r.small) (hg : ErrT w) :
 Calls Tryz.prog 91 #[reqVal r h] w fun e w' => e = .returned (soundV r h) ∧ Below w.heap.size w w' := by
 unfold reqVal
 go_enter Tryz.func91, Tryz.ntmps91
 go_wp2_with fail
 generalize hW : (w.alloc (.cells #[.int .i64 r.way, .int .i64 r.pal.wd, .int .i64 r.pal.dp, .int .i64 r.pal.ht, .int .i64 r.pal.gram, .int .i64 r.classes, .slice h.ap r.pairs.length h.cp, .slice h.at' r.types.length h.ct, .int .i64 r.master, .slice h.ai r.items.length h.ci] 41)) = w1 at *
 obtain ⟨hb, Kaw1, zaw1⟩ := en1 hW
 have hb := unhide hb
 have Hw1 : Hid (Below w.heap.size w w1) := hb
 clear hb hW
 have Qrw1 : Hid (RdReq w1 r h) := hr.mono Hw1.out
 have Qgw1 : Hid (ErrT w1) := hg.later Hw1.out
 refine (class_any r h _ Qrw1.out hs Qgw1.out).mono ?_
 rintro e w2 ⟨rfl, hbw2⟩
 have Hw2 : Hid (Below w.heap.size w w2) := Hw1.out.trans (hbw2.mono Hw1.out.size)
 have Kaw2 := hide (Blk.below hbw2 zaw1 Kaw1.out)
 have zaw2 : w.heap.size < w2.heap.size := Nat.lt_of_lt_of_le zaw1 hbw2.size
 have Qrw2 : Hid (RdReq w2 r h) := Qrw1.out.mono hbw2
 have Qgw2 : Hid (ErrT w2) := Qgw1.out.later hbw2
 clear Hw1 Kaw1 zaw1 Qrw1 Qgw1
 clear hbw2
 obtain ⟨aw2_0, aw2_1, aw2_2, aw2_3, aw2_4, aw2_5, aw2_6, aw2_7, aw2_8, aw2_9⟩ := Blk.cs10 Kaw2.out
 by_cases hz : classI r = 0
 · have HZ := hide (soundV_zero h hz)
   rw [hz]
   go_wp2
   go_ret
   exact ⟨ret_val HZ.out.symm, unhide Hw2⟩
 · have HZ := hide (soundV_not h hz)
   have hne : (classI r != 0) = true := by simp [hz]
   go_wp2
   go_ret
   exact ⟨ret_val HZ.out.symm, unhide Hw2⟩

set_option maxRecDepth 100000 in
set_option maxHeartbeats 4000000 in
theorem units_any (r : ReqV) (h : ReqH) (w : World) (hr : RdReq w r h) (hs : r.small) (hg : ErrT w) :
 Calls Tryz.prog 72 #[reqVal r h] w fun e w' => ∃ g cap, e = .returned (.slice (some ⟨g, 0, none⟩) (unitsR r).length cap) ∧
  w'.ownsRow w.heap.size 3 1 (.slice (some ⟨g, 0, none⟩) (unitsR r).length cap) (unitsR r).length (ci (unitsR r)) ∧ Below w.heap.size w w' := by
 obtain ⟨i0, hi, hz0, hz1, hz2⟩ := info_parts Tryz.infoInt
 have HSN := hide (fun W hb => soundItems_any r h W (hr.mono hb) hs (hg.later hb))
 have hrd := sound_rd hr
 have hlt := rdr_lt (by omega) ItemV.len hrd
 have hgd := itemsR_good r
 have hN : (unitsL (itemsR r)).length ≤ 12 := hgd.units
 have HRD := hide hrd
 have HLT := hide hlt
 have HGD := hide hgd
 clear hr hg hrd hlt hgd
 unfold reqVal
 unfold reqVal at HSN
 unfold soundV at HSN
 unfold unitsR
 generalize soundA r h = sa at *
 generalize soundC r h = sc at *
 generalize itemsR r = xs at *
 refine (callsIn_wide (n := 3)).1 ?_
 refine callsIn_of_wp_marks Tryz.func72 rfl trivial ?_ rfl
 simp only [Tryz.ntmps72, List.size_toArray, List.length_cons, List.length_nil, Nat.reduceAdd, Nat.reduceSub, Array.replicate_succ, Array.replicate_zero, List.push_toArray, List.append_toArray, List.nil_append, List.cons_append]
 gi_wp2_with fail
 have b3 : Boxed (((w.alloc (.cells #[.int .i64 r.way, .int .i64 r.pal.wd, .int .i64 r.pal.dp, .int .i64 r.pal.ht, .int .i64 r.pal.gram, .int .i64 r.classes, .slice h.ap r.pairs.length h.cp, .slice h.at' r.types.length h.ct, .int .i64 r.master, .slice h.ai r.items.length h.ci] 41)).alloc (.cells #[] 3)).alloc (.cells #[.slice (some ⟨w.heap.size + 1, 0, none⟩) 0 0] 29)) (w.heap.size + 1 + 1) 29 (.slice (some ⟨w.heap.size + 1, 0, none⟩) 0 0) := by
  have := Boxed.new ((w.alloc (.cells #[.int .i64 r.way, .int .i64 r.pal.wd, .int .i64 r.pal.dp, .int .i64 r.pal.ht, .int .i64 r.pal.gram, .int .i64 r.classes, .slice h.ap r.pairs.length h.cp, .slice h.at' r.types.length h.ct, .int .i64 r.master, .slice h.ai r.items.length h.ci] 41)).alloc (.cells #[] 3)) 29 (.slice (some ⟨w.heap.size + 1, 0, none⟩) 0 0)
  simpa using this
 have o3 : (((w.alloc (.cells #[.int .i64 r.way, .int .i64 r.pal.wd, .int .i64 r.pal.dp, .int .i64 r.pal.ht, .int .i64 r.pal.gram, .int .i64 r.classes, .slice h.ap r.pairs.length h.cp, .slice h.at' r.types.length h.ct, .int .i64 r.master, .slice h.ai r.items.length h.ci] 41)).alloc (.cells #[] 3)).alloc (.cells #[.slice (some ⟨w.heap.size + 1, 0, none⟩) 0 0] 29)).ownsRow w.heap.size 3 1 (.slice (some ⟨w.heap.size + 1, 0, none⟩) 0 0) 0 [] := by
  have := World.ownsRow_lit (e := 3) (w.alloc (.cells #[.int .i64 r.way, .int .i64 r.pal.wd, .int .i64 r.pal.dp, .int .i64 r.pal.ht, .int .i64 r.pal.gram, .int .i64 r.classes, .slice h.ap r.pairs.length h.cp, .slice h.at' r.types.length h.ct, .int .i64 r.master, .slice h.ai r.items.length h.ci] 41)) #[] 0 (base := w.heap.size) (size := 1) (by simp) (Nat.zero_le _) rfl
  rw [World.size_alloc] at this
  exact own_later this ((Below.refl _ _).alloc (Nat.le_refl _) _)
 have h3 : Below w.heap.size w (((w.alloc (.cells #[.int .i64 r.way, .int .i64 r.pal.wd, .int .i64 r.pal.dp, .int .i64 r.pal.ht, .int .i64 r.pal.gram, .int .i64 r.classes, .slice h.ap r.pairs.length h.cp, .slice h.at' r.types.length h.ct, .int .i64 r.master, .slice h.ai r.items.length h.ci] 41)).alloc (.cells #[] 3)).alloc (.cells #[.slice (some ⟨w.heap.size + 1, 0, none⟩) 0 0] 29)) := (((Below.refl _ _).alloc (Nat.le_refl _) _).alloc (by simp) _).alloc (by simp; omega) _
 have z3 : w.heap.size + 1 + 1 < (((w.alloc (.cells #[.int .i64 r.way, .int .i64 r.pal.wd, .int .i64 r.pal.dp, .int .i64 r.pal.ht, .int .i64 r.pal.gram, .int .i64 r.classes, .slice h.ap r.pairs.length h.cp, .slice h.at' r.types.length h.ct, .int .i64 r.master, .slice h.ai r.items.length h.ci] 41)).alloc (.cells #[] 3)).alloc (.cells #[.slice (some ⟨w.heap.size + 1, 0, none⟩) 0 0] 29)).heap.size := by simp
 generalize (((w.alloc (.cells #[.int .i64 r.way, .int .i64 r.pal.wd, .int .i64 r.pal.dp, .int .i64 r.pal.ht, .int .i64 r.pal.gram, .int .i64 r.classes, .slice h.ap r.pairs.length h.cp, .slice h.at' r.types.length h.ct, .int .i64 r.master, .slice h.ai r.items.length h.ci] 41)).alloc (.cells #[] 3)).alloc (.cells #[.slice (some ⟨w.heap.size + 1, 0, none⟩) 0 0] 29)) = w3 at *
 refine ⟨trivial, ?_⟩
 refine (callsIn_wide.2 (HSN.out w3 h3)).mono ?_
 rintro e w1 ⟨rfl, hb1⟩
 have b1 := hide (boxed_later b3 hb1)
 have o1 := hide (own_later o3 hb1)
 have h1 := hide (h3.trans (hb1.mono h3.size))
 have z1 : w.heap.size + 1 + 1 < w1.heap.size := Nat.lt_of_lt_of_le z3 hb1.size
 clear b3 o3 h3 z3 hb1 HSN
 gi_wp2_with fail
 refine ⟨trivial, ?_⟩
 refine (eachUnit_in Fence.wide _ trivial rfl _ _ _ _).mono ?_
 rintro e w2 ⟨rfl, hw2⟩
 have hb2 : Below w1.heap.size w1 w2 := by rw [hw2]; exact (Below.refl _ _).alloc (Nat.le_refl _) _
 have k2 : w2.cell? ⟨w1.heap.size, 0, none⟩ = some (.slice sa xs.length sc) := by rw [hw2]; exact (Boxed.new w1 _ _).cell
 have z2 : w1.heap.size < w2.heap.size := by rw [hw2]; simp
 have b2 := boxed_later b1.out hb2
 have o2 := own_later o1.out hb2
 have h2 := h1.out.trans (hb2.mono h1.out.size)
 have r2 := rdr_low HRD.out h2 HLT.out
 have hs2 := h2.size
 generalize hBs : w1.heap.size = Bs at *
 have HBS := hide hBs
 clear b1 o1 h1 hb2 hw2 hBs
 gi_wp2_with fail
 refine wpIn_rangeFunc_ownG rfl (by omega) (gf := 121) (lb := #[.pointer (some ⟨Bs, 0, none⟩)]) rfl trivial (enters_of Tryz.func121 (by kernel_rfl) rfl)
  (each_stops Fence.wide (3 - 1) trivial rfl (by omega) Bs w.heap.size sa xs.length sc xs HGD.out w2 z2 hs2 k2 r2 HLT.out) belowK_t (belowK_b hs2) (Below.refl _ _) (fun _ => rfl)
  (fun pre W => (∃ v, Boxed W (w.heap.size + 1 + 1) 29 v ∧ W.ownsRow w.heap.size 3 1 v pre.length (ci (pre.map fun x => placeOf xs x.val)) ∧ ∃ g cap, v = .slice (some ⟨g, 0, none⟩) pre.length cap) ∧ Below w.heap.size w W)
  (fun _ _ _ => False)
  (OwnFrom.and (Own.from (holdsRow_own w.heap.size (w.heap.size + 1 + 1) 29 3 1 (fun pre : List (UnitOf xs) => pre.length) (fun pre => ci (pre.map fun x => placeOf xs x.val)) (fun pre v => ∃ g cap, v = .slice (some ⟨g, 0, none⟩) pre.length cap)) _) (ownFrom_below (Nat.le_refl _) hs2))
  (fun _ _ _ _ _ hs _ _ => hs)
  ⟨⟨_, b2, o2, _, _, rfl⟩, h2⟩
  ?act ?assign ?body ?done ?stop
 case assign =>
  intro l x W K hK
  gi_wp2
  exact hK
 case body =>
  rintro l pre x W ⟨⟨v, hv, hrow, _⟩, hB⟩ hlt
  have hc := hv.cell
  gi_wp2_with (gi_at_builtin; refine wpListIn_append_own _ rfl _ _ 29 rfl w.heap.size 3 i0 (.int .i64 0) 1 8 Tryz.underlying29 hi hz0 hz1 hz2 rfl (by decide) _ _ _ rfl (hrow.alloc _) ⟨W.heap.size, 0, none⟩ 1 1 [.int .i64 (placeOf xs x.val)] rfl rfl (cell_one_new _ _ _) (by simp [Value.oneCell']) (by (try unfold maxLen); omega) (by (try unfold maxLen); omega) (by have := hB.size; simp; omega) ?_; intro v' w5 hown' hgrow _; obtain ⟨g', cap', rfl⟩ := ownsRow_succ hown'; obtain ⟨hv1, hv2, hr2, hk2, hb2⟩ := hv.appended (by decide) hrow hB.size (by omega) hown' hgrow; have hc1 := hv1.cell; have hf1 := hv1.frozen)
  exact ⟨hk2.from _, hb2, ⟨_, hv2, by simpa [ci] using hr2, g', cap', by rw [List.length_append]; rfl⟩, hB.trans hb2⟩
 case done =>
  rintro D ys W hD hys ⟨⟨v, hv, hrow, g, cap, rfl⟩, hB⟩ hK
  have hc := hv.cell
  rw [hys.len] at hc hrow
  rw [hys.all] at hrow
  clear hys
  gi_wp2
  refine ⟨by simp, .inl ⟨_, _, rfl, run_takeDeferred hK, ?_⟩⟩
  exact ⟨_, results_tmp rfl _ _ _, g, cap, rfl, ownsRow_putObj hrow _ hK rfl, hB.trans (belowK_b (w := w) (Nat.le_refl _) W D _ _ (by omega) hK rfl rfl)⟩
 case stop =>
  rintro D c pre W _ _ h _
  exact h.elim
end Go.Proofs.YtcblpoeeembniabGreatDoor
