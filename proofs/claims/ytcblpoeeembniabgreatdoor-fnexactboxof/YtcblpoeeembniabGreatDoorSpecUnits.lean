/- Units of the model. -/
import Derived.Test.YtcblpoeeembniabGreatDoorUnitsPlain
import Derived.Test.YtcblpoeeembniabGreatDoorPkG
import Derived.Test.YtcblpoeeembniabGreatDoorPkA
import Derived.Test.YtcblpoeeembniabGreatDoorPkF
import Derived.Maps.AppendAt
namespace Go.Proofs.YtcblpoeeembniabGreatDoor
open Go.RowKit
set_option linter.unusedVariables false
set_option linter.unusedSimpArgs false

theorem rdr_below {α : Type} [Inhabited α] {cells : α → List Value} {k B : Nat} {w w' : World} {a : Option Addr} {n : Nat} {xs : List α} (h : RdR cells k w a n xs) (hb : Below B w w') (hlt : 0 < n → ∀ x, a = some x → x.block < B) : RdR cells k w' a n xs :=
 ⟨h.1, fun i hi => by
  obtain ⟨b, off, ha, hc⟩ := h.2 i hi
  have hl := hlt (by omega) _ ha
  exact ⟨b, off, ha, fun j hj => (hb.cell (p := ⟨b, off + i * k + j, none⟩) hl).trans (hc j hj)⟩⟩
theorem Blk.low {w w' : World} {g B : Nat} {cs : List Value} (h : Blk w g cs) (hb : Below B w w') (hg : g < B) : Blk w' g cs :=
 fun j hj => ⟨(hb.cell (p := ⟨g, j, none⟩) hg).trans (h j hj).1, (hb.frozen (p := ⟨g, j, none⟩) hg).trans (h j hj).2⟩
theorem rdr_lt7 {α : Type} [Inhabited α] {cells : α → List Value} {w : World} {a : Option Addr} {n : Nat} {xs : List α} (hlen : ∀ q, (cells q).length = 7) (h : RdR cells 7 w a n xs) : 0 < n → ∀ x, a = some x → x.block < w.heap.size := by
 intro hn x hx
 obtain ⟨b, off, ha, _⟩ := h.2 0 hn
 rw [ha] at hx
 injection hx with hx
 subst hx
 rw [ha] at h
 exact h.lt (by omega) hlen hn
theorem ret_val2 {a b : Value} (h : a = b) : Ending.returned a = .returned b := by rw [h]

set_option maxRecDepth 100000 in
set_option maxHeartbeats 4000000 in
theorem l6Units_any (r : ReqV) (h : ReqH) (w : World) (hr : RdReq w r h) (hg : Good r.items) :
 Calls Tryz.prog 68 #[reqVal r h] w fun e w' => ∃ g cap, e = .returned (.slice (some ⟨g, 0, none⟩) (unitsL r.items).length cap) ∧ w'.ownsRow w.heap.size 3 1 (.slice (some ⟨g, 0, none⟩) (unitsL r.items).length cap) (unitsL r.items).length (ci (unitsL r.items)) ∧ Below w.heap.size w w' := by
 obtain ⟨i0, hi, hz0, hz1, hz2⟩ := info_parts Tryz.infoInt
 have HR := hide hr
 have HG := hide hg
 have hm8 := hg.len
 clear hr hg
 unfold reqVal
 go_enter Tryz.func68, Tryz.ntmps68
 go_wp2
 have KA : Hid (Blk ((w.alloc (.cells #[.int .i64 r.way, .int .i64 r.pal.wd, .int .i64 r.pal.dp, .int .i64 r.pal.ht, .int .i64 r.pal.gram, .int .i64 r.classes, .slice h.ap r.pairs.length h.cp, .slice h.at' r.types.length h.ct, .int .i64 r.master, .slice h.ai r.items.length h.ci] 41)).alloc (.cells #[] 3)) w.heap.size [.int .i64 r.way, .int .i64 r.pal.wd, .int .i64 r.pal.dp, .int .i64 r.pal.ht, .int .i64 r.pal.gram, .int .i64 r.classes, .slice h.ap r.pairs.length h.cp, .slice h.at' r.types.length h.ct, .int .i64 r.master, .slice h.ai r.items.length h.ci]) := (Blk.allocAt [.int .i64 r.way, .int .i64 r.pal.wd, .int .i64 r.pal.dp, .int .i64 r.pal.ht, .int .i64 r.pal.gram, .int .i64 r.classes, .slice h.ap r.pairs.length h.cp, .slice h.at' r.types.length h.ct, .int .i64 r.master, .slice h.ai r.items.length h.ci] rfl).allocOld (by simp) _
 have O1 : Hid (((w.alloc (.cells #[.int .i64 r.way, .int .i64 r.pal.wd, .int .i64 r.pal.dp, .int .i64 r.pal.ht, .int .i64 r.pal.gram, .int .i64 r.classes, .slice h.ap r.pairs.length h.cp, .slice h.at' r.types.length h.ct, .int .i64 r.master, .slice h.ai r.items.length h.ci] 41)).alloc (.cells #[] 3)).ownsRow (w.heap.size + 1) 3 1 (.slice (some ⟨w.heap.size + 1, 0, none⟩) 0 0) 0 []) := by
  have := World.ownsRow_lit (e := 3) (w.alloc (.cells #[.int .i64 r.way, .int .i64 r.pal.wd, .int .i64 r.pal.dp, .int .i64 r.pal.ht, .int .i64 r.pal.gram, .int .i64 r.classes, .slice h.ap r.pairs.length h.cp, .slice h.at' r.types.length h.ct, .int .i64 r.master, .slice h.ai r.items.length h.ci] 41)) #[] 0 (base := w.heap.size + 1) (size := 1) (by simp) (Nat.zero_le _) rfl
  rw [World.size_alloc] at this
  exact this
 have H1 : Hid (Below w.heap.size w ((w.alloc (.cells #[.int .i64 r.way, .int .i64 r.pal.wd, .int .i64 r.pal.dp, .int .i64 r.pal.ht, .int .i64 r.pal.gram, .int .i64 r.classes, .slice h.ap r.pairs.length h.cp, .slice h.at' r.types.length h.ct, .int .i64 r.master, .slice h.ai r.items.length h.ci] 41)).alloc (.cells #[] 3))) := ((Below.refl _ _).alloc (Nat.le_refl _) _).alloc (by simp) _
 have z1 : w.heap.size + 1 < ((w.alloc (.cells #[.int .i64 r.way, .int .i64 r.pal.wd, .int .i64 r.pal.dp, .int .i64 r.pal.ht, .int .i64 r.pal.gram, .int .i64 r.classes, .slice h.ap r.pairs.length h.cp, .slice h.at' r.types.length h.ct, .int .i64 r.master, .slice h.ai r.items.length h.ci] 41)).alloc (.cells #[] 3)).heap.size := by simp
 generalize ((w.alloc (.cells #[.int .i64 r.way, .int .i64 r.pal.wd, .int .i64 r.pal.dp, .int .i64 r.pal.ht, .int .i64 r.pal.gram, .int .i64 r.classes, .slice h.ap r.pairs.length h.cp, .slice h.at' r.types.length h.ct, .int .i64 r.master, .slice h.ai r.items.length h.ci] 41)).alloc (.cells #[] 3)) = w1 at *
 have HI : Hid (RdR ItemV.cells 7 w1 h.ai r.items.length r.items) := (HR.out.mono H1.out).2.2
 have HLT : Hid (0 < r.items.length → ∀ x, h.ai = some x → x.block < w.heap.size + 1) := fun hn x hx => Nat.lt_succ_of_lt (rdr_lt7 ItemV.len HR.out.2.2 hn x hx)
 clear HR
 go_loopw [3, 4] (fun o i wr => ∃ k t g cap : Nat, k ≤ r.items.length ∧ t = (unitsTo r.items k).length ∧ i = .int .i64 k ∧ o = .slice (some ⟨g, 0, none⟩) t cap ∧ wr.ownsRow (w.heap.size + 1) 3 1 (.slice (some ⟨g, 0, none⟩) t cap) t (ci (unitsTo r.items k)) ∧ Below (w.heap.size + 1) w1 wr) (fun _ i _ => r.items.length - (intOf i).toNat)
 case atStart => exact ⟨0, 0, w.heap.size + 1, 0, Nat.zero_le _, rfl, rfl, rfl, unhide O1, Below.refl _ _⟩
 case round =>
  clear O1
  obtain ⟨k, t, g, cap, hk, ht, rfl, rfl, hown, hbel⟩ := hrel
  have a9 : wr.cell? ⟨w.heap.size, 9, none⟩ = some (.slice h.ai r.items.length h.ci) := (hbel.cell (p := ⟨w.heap.size, 9, none⟩) (by show w.heap.size < _; omega)).trans (KA.out 9 (by simp)).1
  have HT := hide ht
  have HOW := hide hown
  have HB := hide hbel
  by_cases hlk : k < r.items.length
  case neg =>
   obtain rfl : k = r.items.length := by omega
   have HE : Hid (unitsTo r.items r.items.length = unitsL r.items) := rfl
   clear ht hown hbel
   go_wp2
   go_ret
   have e := unhide HE
   have ht := unhide HT
   rw [e] at ht
   subst ht
   exact ⟨g, cap, rfl, by rw [← e]; exact World.ownsRow.mono (by rw [e]; have := unhide HOW; rwa [e] at this) (Nat.le_succ _), H1.out.trans (HB.out.mono (Nat.le_succ _))⟩
  obtain ⟨b, off, ha, hc⟩ := (rdr_below HI.out hbel HLT.out).2 k hlk
  rw [ha] at a9
  have hok := HG.out.at k hlk
  have hst := unitsTo_step r.items k
  generalize r.items.getD k default = q at hc hok hst
  have hq := item_nums hok
  obtain ⟨cn, hcn⟩ : ∃ cn : Nat, q.cnt = cn := ⟨q.cnt.toNat, by omega⟩
  have hc6 : cn ≤ 6 := by omega
  rw [hcn, Int.toNat_natCast] at hst
  have HST := hide hst
  have d6 : wr.cell? ⟨b, off + k * 7 + 6, none⟩ = some (.int .i64 cn) := (hc 6 (by omega)).trans (by rw [← hcn]; rfl)
  have hb0 : b < w.heap.size + 1 := HLT.out (by omega) _ ha
  have ht48 : t ≤ 48 := by
   have := unitsTo_len r.items (fun q hq => by have := item_nums (HG.out.ok q hq); omega) k (by omega)
   have h2 := cntSum_bd (r.items.take k) (List.all_eq_true.2 fun q hq => HG.out.ok q (List.mem_of_mem_take hq))
   rw [List.length_take] at h2
   omega
  have HTL := hide (show (unitsTo r.items k).length = t from ht.symm)
  clear hc hst hok hq hcn hown hbel ht HT ha
  go_wp2
  obtain ⟨wo, rfl⟩ : ∃ wo : World, wo = wr := ⟨_, rfl⟩
  go_loopw [3, 5] (fun o j wi => ∃ p v g cap : Nat, p ≤ cn ∧ v = t + p ∧ j = .int .i64 p ∧ o = .slice (some ⟨g, 0, none⟩) v cap ∧ wi.ownsRow (w.heap.size + 1) 3 1 (.slice (some ⟨g, 0, none⟩) v cap) v (ci (unitsTo r.items k ++ List.replicate p (k : Int))) ∧ Below (w.heap.size + 1) wo wi) (fun _ j _ => cn - (intOf j).toNat)
  case atStart => exact ⟨0, t, g, cap, Nat.zero_le _, rfl, rfl, rfl, by simpa using unhide HOW, Below.refl _ _⟩
  case round =>
   obtain ⟨p, v, g, cap, hp, hv, rfl, rfl, hown, hbel⟩ := hrel
   have e9 : wr.cell? ⟨w.heap.size, 9, none⟩ = some (.slice (some ⟨b, off, none⟩) r.items.length h.ci) := (hbel.cell (p := ⟨w.heap.size, 9, none⟩) (by show w.heap.size < _; omega)).trans a9
   have e6 : wr.cell? ⟨b, off + k * 7 + 6, none⟩ = some (.int .i64 cn) := (hbel.cell (p := ⟨b, off + k * 7 + 6, none⟩) hb0).trans d6
   have hl : (unitsTo r.items k ++ List.replicate p (k : Int)).length = v := by rw [List.length_append, unhide HTL, List.length_replicate]; omega
   have hsz := Nat.le_trans HB.out.size hbel.size
   have HOW2 := HOW
   clear HOW a9 d6
   have HV := hide hv
   have HL := hide hl
   have HOW := hide hown
   have HB2 := hide (HB.out.trans hbel)
   have HB3 := hide hbel
   clear hv hl hown hbel HOW2
   by_cases hlp : p < cn
   · have hv54 : v ≤ 60 := by have := unhide HV; omega
     go_wp2_with (first
      | (at_builtin; refine wpList_append_own _ rfl _ _ 29 rfl (w.heap.size + 1) 3 i0 (.int .i64 0) 1 8 Tryz.underlying29 hi hz0 hz1 hz2 rfl (by decide) (.slice (some ⟨g, 0, none⟩) v cap) v (ci (unitsTo r.items k ++ List.replicate p (k : Int))) rfl (HOW.out.alloc _) ⟨wr.heap.size, 0, none⟩ 1 1 [.int .i64 (k : Int)] rfl rfl (cell_one_new _ _ _) (by simp [Value.oneCell']) (by unfold maxLen; omega) (by omega) (by simp; omega) ?_; intro v' w5 h1 h2 h3)
      | go_in)
     obtain ⟨g', cap', hv', ho, hb'⟩ := app_ints HL.out HOW.out HB3.out (by omega) h1 h2 h3
     go_roundw
     case rel => exact ⟨p + 1, v + 1, g', cap', by omega, by have := unhide HV; omega, by go_num, hv', by rw [List.replicate_succ', ← List.append_assoc]; exact ho, hb'⟩
     case measure => simp [intOf]; omega
   · obtain rfl : p = cn := by omega
     have HR2 : Hid (unitsTo r.items k ++ List.replicate p (k : Int) = unitsTo r.items (k + 1)) := HST.out.symm
     go_wp2
     go_roundw
     case rel => exact ⟨k + 1, v, g, cap, by omega, by rw [← unhide HR2]; exact HL.out.symm, by go_num, rfl, by rw [← unhide HR2]; exact unhide HOW, unhide HB2⟩
     case measure => simp [intOf]; omega

set_option maxRecDepth 100000 in
set_option maxHeartbeats 2000000 in
theorem specUnits_any (r : ReqV) (h : ReqH) (w : World) (hr : RdReq w r h) (hs : r.small) :
 Calls Tryz.prog 84 #[reqVal r h] w fun e w' => ∃ g cap, e = .returned (.slice (some ⟨g, 0, none⟩) (unitsR r).length cap) ∧ w'.ownsRow w.heap.size 3 1 (.slice (some ⟨g, 0, none⟩) (unitsR r).length cap) (unitsR r).length (ci (unitsR r)) ∧ Below w.heap.size w w' := by
 unfold reqVal
 go_enter Tryz.func84, Tryz.ntmps84
 go_wp2_with fail
 generalize hW : (w.alloc (.cells #[.int .i64 r.way, .int .i64 r.pal.wd, .int .i64 r.pal.dp, .int .i64 r.pal.ht, .int .i64 r.pal.gram, .int .i64 r.classes, .slice h.ap r.pairs.length h.cp, .slice h.at' r.types.length h.ct, .int .i64 r.master, .slice h.ai r.items.length h.ci] 41)) = w1 at *
 obtain ⟨hb, Kaw1, zaw1⟩ := en1 hW
 have hb := unhide hb
 have Hw1 : Hid (Below w.heap.size w w1) := hb
 clear hb hW
 have Qrw1 : Hid (RdReq w1 r h) := hr.mono Hw1.out
 refine (specClass_any r h _ Qrw1.out hs).mono ?_
 rintro e w2 ⟨rfl, hbw2⟩
 have Hw2 : Hid (Below w.heap.size w w2) := Hw1.out.trans (hbw2.mono Hw1.out.size)
 have Kaw2 := hide (Blk.below hbw2 zaw1 Kaw1.out)
 have zaw2 : w.heap.size < w2.heap.size := Nat.lt_of_lt_of_le zaw1 hbw2.size
 have Qrw2 : Hid (RdReq w2 r h) := Qrw1.out.mono hbw2
 clear Hw1 Kaw1 zaw1 Qrw1
 clear hbw2
 obtain ⟨aw2_0, aw2_1, aw2_2, aw2_3, aw2_4, aw2_5, aw2_6, aw2_7, aw2_8, aw2_9⟩ := Blk.cs10 Kaw2.out
 by_cases hz : classI r = 0
 · have HZ := hide (show unitsR r = unitsL r.items by rw [unitsR, itemsR_zero hz])
   rw [hz]
   have hsz := Hw2.out.size
   go_wp2_with fail
   refine (l6Units_any r h _ Qrw2.out (good_items hz)).mono ?_
   rintro e w3 ⟨g, cap, rfl, ho, hbw3⟩
   clear aw2_0 aw2_1 aw2_2 aw2_3 aw2_4 aw2_5 aw2_6 aw2_7 aw2_8 aw2_9
   have Hw3 : Hid (Below w.heap.size w w3) := Hw2.out.trans (hbw3.mono Hw2.out.size)
   have Kaw3 := hide (Blk.below hbw3 zaw2 Kaw2.out)
   have zaw3 : w.heap.size < w3.heap.size := Nat.lt_of_lt_of_le zaw2 hbw3.size
   have Qrw3 : Hid (RdReq w3 r h) := Qrw2.out.mono hbw3
   clear Hw2 Kaw2 zaw2 Qrw2
   clear hbw3
   go_wp2
   go_ret
   refine ⟨g, cap, by rw [unhide HZ]; rfl, ?_, unhide Hw3⟩
   rw [unhide HZ]
   exact World.ownsRow.mono ho (by omega)
 · have HZ := hide (show unitsR r = [] by rw [unitsR, itemsR_not hz]; rfl)
   have hne : (classI r != 0) = true := by simp [hz]
   go_wp2
   go_ret
   have hsz := Hw2.out.size
   refine ⟨w2.heap.size, 0, by rw [unhide HZ]; rfl, ?_, Hw2.out.alloc hsz _⟩
   rw [unhide HZ]
   exact World.ownsRow_lit (e := 3) w2 #[] 0 hsz (Nat.zero_le _) rfl
end Go.Proofs.YtcblpoeeembniabGreatDoor
