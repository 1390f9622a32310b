/- IsPacking of the model. -/
import Derived.Test.YtdmaldjnjffnlabGreatDoorTakePlain
import Derived.Test.YtdmaldjnjffnlabGreatDoorLowPlain
import Derived.Test.YtdmaldjnjffnlabGreatDoorSpecNext
import Derived.Test.YtdmaldjnjffnlabGreatDoorPackSpec
import Derived.Test.YtdmaldjnjffnlabGreatDoorInvR
import Derived.Deep.DeepMust
import Derived.Deep.DeepCutAuto
import Derived.Deep.RegionHeld3
namespace Go.Proofs.YtdmaldjnjffnlabGreatDoor
open Go Go.RowKit
set_option linter.unusedVariables false
set_option linter.unusedSimpArgs false

theorem same_len {kn fl : List Int} (h : kn.length ≠ fl.length) : sameB kn fl = false := by simp [sameB, h]
theorem same_miss {kn fl : List Int} {j : Nat} (hj : j < fl.length) (h : fl.count (fl.getD j 0) ≠ kn.count (fl.getD j 0)) : sameB kn fl = false := by
  have e : fl.getD j 0 = fl[j] := by simp [List.getD_eq_getElem?_getD, hj]
  rw [e] at h
  have : (fl.all fun x => decide (fl.count x = kn.count x)) = false := List.all_eq_false.2 ⟨fl[j], List.getElem_mem hj, by simp [h]⟩
  simp [sameB, this]
theorem same_all {kn fl : List Int} (hl : kn.length = fl.length) (h : ∀ j, j < fl.length → fl.count (fl.getD j 0) = kn.count (fl.getD j 0)) : sameB kn fl = true := by
  have : (fl.all fun x => decide (fl.count x = kn.count x)) = true := List.all_eq_true.2 fun x hx => by
    obtain ⟨j, hj, e⟩ := List.mem_iff_getElem.1 hx
    have := h j hj
    have e2 : fl.getD j 0 = x := by simp [List.getD_eq_getElem?_getD, hj, e]
    rw [e2] at this
    simp [this]
  simp [sameB, hl, this]
theorem packs_same {r : ReqV} {us : List Int} {css : List (List Int)} (hz : classI r = 0) (hc : css.all (cartonB r) = true) : packsB r us css = sameB (knownL (itemsR r) us) css.flatten := by simp [packsB, hz, hc]
theorem count_step {us : List Int} {k : Nat} {x : Int} (h : k < us.length) : (us.take (k + 1)).count x = (us.take k).count x + (if us.getD k 0 = x then 1 else 0) := by
  have e : us.getD k 0 = us[k] := by simp [List.getD_eq_getElem?_getD, h]
  rw [List.take_succ_eq_append_getElem h, List.count_append, e, List.count_singleton]
  simp
theorem flat_le (css : List (List Int)) (k : Nat) : (css.take k).flatten.length ≤ css.flatten.length := by
  rw [← List.take_append_drop k css, List.flatten_append, List.length_append]
  simp
theorem Rd.atS {w : World} {b n : Nat} {us : List Int} (h : Rd w (some ⟨b, 0, none⟩) n us) (i : Nat) (hi : i < n) : w.cell? ⟨b, i, none⟩ = some (.int .i64 (us.getD i 0)) := by
  obtain ⟨b', off, e, hc⟩ := h.2 i hi
  injection e with e
  injection e with e1 e2
  subst e1 e2
  rwa [Nat.zero_add] at hc
set_option maxRecDepth 100000 in
set_option maxHeartbeats 2000000 in
theorem l8Times_any (a : Option Addr) (n c : Nat) (us : List Int) (x : Int) (w : World) (hu : Rd w a n us) (hn : n ≤ 1048600) :
    Calls Tryz.prog 68 #[.slice a n c, .int .i64 x] w fun e w' => e = .returned (.int .i64 ((us.count x : Nat) : Int)) ∧ w' = w := by
  have HU := hide hu
  have hul := hu.1
  clear hu
  go_enter Tryz.func68, Tryz.ntmps68
  go_wp2
  go_loopw [5, 6] (fun t i wr => ∃ k : Nat, k ≤ n ∧ i = .int .i64 k ∧ t = .int .i64 (((us.take k).count x : Nat) : Int) ∧ wr = w) (fun _ i _ => n - (intOf i).toNat)
  case atStart => exact ⟨0, Nat.zero_le _, rfl, by simp, rfl⟩
  case round =>
    obtain ⟨k, hk, rfl, rfl, rfl⟩ := hrel
    by_cases hlk : k < n
    case neg =>
      obtain rfl : k = n := by omega
      have e : us.take k = us := List.take_of_length_le (by omega)
      rw [e]
      clear e
      go_wp2
      go_ret
      exact ⟨rfl, rfl⟩
    obtain ⟨b, off, hua, hc⟩ := (unhide HU).2 k hlk
    have hku : k < us.length := by omega
    have HST := hide (count_step (x := x) hku)
    have hq : (us.take k).count x ≤ k := Nat.le_trans List.count_le_length (by rw [List.length_take]; omega)
    generalize us.getD k 0 = y at *
    generalize (us.take k).count x = q at *
    subst hua
    by_cases hyx : y = x
    · have HS2 : Hid ((us.take (k + 1)).count x = q + 1) := by rw [Hid, unhide HST, if_pos hyx]
      subst hyx
      go_wp2
      go_roundw
      case rel => exact ⟨k + 1, by omega, by go_num, by rw [unhide HS2]; simp, trivial⟩
      case measure => simp [intOf]; omega
    · have HS2 : Hid ((us.take (k + 1)).count x = q) := by rw [Hid, unhide HST, if_neg hyx, Nat.add_zero]
      have hd : (y == x) = false := beq_eq_false_iff_ne.2 hyx
      go_wp2
      go_roundw
      case rel => exact ⟨k + 1, by omega, by go_num, by rw [unhide HS2], trivial⟩
      case measure => simp [intOf]; omega
set_option maxRecDepth 100000 in
set_option maxHeartbeats 8000000 in
theorem specIsPacking_any (r : ReqV) (h : ReqH) (a : Option Addr) (n c : Nat) (us : List Int) (a2 : Option Addr) (n2 c2 : Nat) (css : List (List Int)) (w : World) (hr : RdReq w r h) (hs : r.small) (hu : Rd w a n us) (hn : n ≤ 1048576) (hc2 : Rd2 w a2 n2 css) (hn2 : n2 ≤ 1048576) (hcl0 : ∀ k, k < n2 → (css.getD k []).length ≤ 1048576) (htot : css.flatten.length ≤ 1048576) :
    Calls Tryz.prog 17 #[reqVal r h, .slice a n c, .slice a2 n2 c2] w fun e w' => e = .returned (.bool (packsB r us css)) ∧ Below w.heap.size w w' := by
  obtain ⟨i0, hi, hz0, hz1, hz2⟩ := info_parts Tryz.infoInts
  have htl : r.types.length ≤ 1048600 := by unfold ReqV.small at hs; omega
  have HR := hide hr
  have HU := hide hu
  have hul := hu.1
  have HC := hide hc2
  have hcsl := hc2.1
  have HCL := hide hcl0
  have HFL := hide (flat_le css)
  clear hr hu hc2 hcl0
  unfold reqVal
  go_enter Tryz.func17, Tryz.ntmps17
  go_wp2_with fail
  have BW : Hid (Below w.heap.size w (w.alloc (.cells #[.int .i64 r.way, .int .i64 r.pal.wd, .int .i64 r.pal.dp, .int .i64 r.pal.ht, .int .i64 r.pal.gram, .int .i64 r.classes, .slice h.ap r.pairs.length h.cp, .slice h.at' r.types.length h.ct, .int .i64 r.master, .slice h.ai r.items.length h.ci] 37))) := ((Below.refl _ _).alloc (by simp) _)
  have KaW : Hid (Blk (w.alloc (.cells #[.int .i64 r.way, .int .i64 r.pal.wd, .int .i64 r.pal.dp, .int .i64 r.pal.ht, .int .i64 r.pal.gram, .int .i64 r.classes, .slice h.ap r.pairs.length h.cp, .slice h.at' r.types.length h.ct, .int .i64 r.master, .slice h.ai r.items.length h.ci] 37)) w.heap.size [.int .i64 r.way, .int .i64 r.pal.wd, .int .i64 r.pal.dp, .int .i64 r.pal.ht, .int .i64 r.pal.gram, .int .i64 r.classes, .slice h.ap r.pairs.length h.cp, .slice h.at' r.types.length h.ct, .int .i64 r.master, .slice h.ai r.items.length h.ci]) := (Blk.allocAt (w := w) [.int .i64 r.way, .int .i64 r.pal.wd, .int .i64 r.pal.dp, .int .i64 r.pal.ht, .int .i64 r.pal.gram, .int .i64 r.classes, .slice h.ap r.pairs.length h.cp, .slice h.at' r.types.length h.ct, .int .i64 r.master, .slice h.ai r.items.length h.ci] (by simp))
  have ZaW : w.heap.size < (w.alloc (.cells #[.int .i64 r.way, .int .i64 r.pal.wd, .int .i64 r.pal.dp, .int .i64 r.pal.ht, .int .i64 r.pal.gram, .int .i64 r.classes, .slice h.ap r.pairs.length h.cp, .slice h.at' r.types.length h.ct, .int .i64 r.master, .slice h.ai r.items.length h.ci] 37)).heap.size := by simp
  have Ga : w.heap.size ≤ w.heap.size := by omega
  generalize (w.alloc (.cells #[.int .i64 r.way, .int .i64 r.pal.wd, .int .i64 r.pal.dp, .int .i64 r.pal.ht, .int .i64 r.pal.gram, .int .i64 r.classes, .slice h.ap r.pairs.length h.cp, .slice h.at' r.types.length h.ct, .int .i64 r.master, .slice h.ai r.items.length h.ci] 37)) = W at *
  refine (specClass_any r h _ ((unhide HR).mono (unhide BW)) hs).mono ?_
  rintro e v1 ⟨rfl, hb⟩
  have Bv1 := hide ((unhide BW).trans (hb.mono (unhide BW).size))
  have Kav1 := hide (Blk.below hb ZaW (unhide KaW))
  have Zav1 := Nat.lt_of_lt_of_le ZaW hb.size
  clear hb
  clear BW KaW ZaW
  by_cases hz : classI r = 0
  case neg =>
    have hnz : (classI r != 0) = true := by simp [hz]
    have HE : Hid (packsB r us css = false) := packs_not hz
    clear hz
    go_wp2
    go_ret
    exact ⟨ret_boolF (unhide HE).symm, unhide Bv1⟩
  have HZ := hide hz
  rw [hz]
  clear hz
  obtain ⟨ca0, ca1, ca2, ca3, ca4, ca5, ca6, ca7, ca8, ca9⟩ := Blk.cs10 (unhide Kav1)
  go_wp2_with fail
  clear ca0 ca1 ca2 ca3 ca4 ca5 ca6 ca7 ca8 ca9
  refine (specMasterOf_any r h _ ((unhide HR).mono (unhide Bv1)) htl).mono ?_
  rintro e v2 ⟨rfl, hb⟩
  have Bv2 := hide ((unhide Bv1).trans (hb.mono (unhide Bv1).size))
  have Kav2 := hide (Blk.below hb Zav1 (unhide Kav1))
  have Zav2 := Nat.lt_of_lt_of_le Zav1 hb.size
  clear hb
  clear Bv1 Kav1 Zav1
  obtain ⟨ca0, ca1, ca2, ca3, ca4, ca5, ca6, ca7, ca8, ca9⟩ := Blk.cs10 (unhide Kav2)
  go_wp2_with fail
  clear ca0 ca1 ca2 ca3 ca4 ca5 ca6 ca7 ca8 ca9
  have Bv3 : Hid (Below w.heap.size w (v2.alloc (.cells #[.int .i64 (masterV r).id, .int .i64 (masterV r).wd, .int .i64 (masterV r).ht, .int .i64 (masterV r).dp, .int .i64 (masterV r).tare, .int .i64 (masterV r).gram, .int .i64 (masterV r).cost] 55))) := (unhide Bv2).alloc (unhide Bv2).size _
  have Ktv3 : Hid (Blk (v2.alloc (.cells #[.int .i64 (masterV r).id, .int .i64 (masterV r).wd, .int .i64 (masterV r).ht, .int .i64 (masterV r).dp, .int .i64 (masterV r).tare, .int .i64 (masterV r).gram, .int .i64 (masterV r).cost] 55)) v2.heap.size [.int .i64 (masterV r).id, .int .i64 (masterV r).wd, .int .i64 (masterV r).ht, .int .i64 (masterV r).dp, .int .i64 (masterV r).tare, .int .i64 (masterV r).gram, .int .i64 (masterV r).cost]) := Blk.allocAt [.int .i64 (masterV r).id, .int .i64 (masterV r).wd, .int .i64 (masterV r).ht, .int .i64 (masterV r).dp, .int .i64 (masterV r).tare, .int .i64 (masterV r).gram, .int .i64 (masterV r).cost] rfl
  have Ztv3 : v2.heap.size < (v2.alloc (.cells #[.int .i64 (masterV r).id, .int .i64 (masterV r).wd, .int .i64 (masterV r).ht, .int .i64 (masterV r).dp, .int .i64 (masterV r).tare, .int .i64 (masterV r).gram, .int .i64 (masterV r).cost] 55)).heap.size := by simp
  have Gt : w.heap.size ≤ v2.heap.size := (unhide Bv2).size
  have Kav3 : Hid (Blk (v2.alloc (.cells #[.int .i64 (masterV r).id, .int .i64 (masterV r).wd, .int .i64 (masterV r).ht, .int .i64 (masterV r).dp, .int .i64 (masterV r).tare, .int .i64 (masterV r).gram, .int .i64 (masterV r).cost] 55)) w.heap.size [.int .i64 r.way, .int .i64 r.pal.wd, .int .i64 r.pal.dp, .int .i64 r.pal.ht, .int .i64 r.pal.gram, .int .i64 r.classes, .slice h.ap r.pairs.length h.cp, .slice h.at' r.types.length h.ct, .int .i64 r.master, .slice h.ai r.items.length h.ci]) := (unhide Kav2).allocOld Zav2 _
  have Zav3 : w.heap.size < (v2.alloc (.cells #[.int .i64 (masterV r).id, .int .i64 (masterV r).wd, .int .i64 (masterV r).ht, .int .i64 (masterV r).dp, .int .i64 (masterV r).tare, .int .i64 (masterV r).gram, .int .i64 (masterV r).cost] 55)).heap.size := by simp <;> omega
  have Nqat : w.heap.size ≠ v2.heap.size := Nat.ne_of_lt Zav2
  have Nqta : v2.heap.size ≠ w.heap.size := Ne.symm Nqat
  clear Bv2 Kav2 Zav2
  generalize (v2.alloc (.cells #[.int .i64 (masterV r).id, .int .i64 (masterV r).wd, .int .i64 (masterV r).ht, .int .i64 (masterV r).dp, .int .i64 (masterV r).tare, .int .i64 (masterV r).gram, .int .i64 (masterV r).cost] 55)) = v3 at *
  obtain ⟨ca0, ca1, ca2, ca3, ca4, ca5, ca6, ca7, ca8, ca9⟩ := Blk.cs10 (unhide Kav3)
  go_wp2_with fail
  clear ca0 ca1 ca2 ca3 ca4 ca5 ca6 ca7 ca8 ca9
  refine (l6Units_zero r h _ ((unhide HR).mono (unhide Bv3)) (unhide HZ)).mono ?_
  rintro e v4 ⟨gp, cp, rfl, hgo, hb⟩
  have Bv4 := hide ((unhide Bv3).trans (hb.mono (unhide Bv3).size))
  have Kav4 := hide (Blk.below hb Zav3 (unhide Kav3))
  have Zav4 := Nat.lt_of_lt_of_le Zav3 hb.size
  have Ktv4 := hide (Blk.below hb Ztv3 (unhide Ktv3))
  have Ztv4 := Nat.lt_of_lt_of_le Ztv3 hb.size
  clear hb
  clear Bv3 Kav3 Zav3 Ktv3 Ztv3
  have UNb := hide (Rd.of_owns hgo)
  have hN12 := unitsR_len r
  clear hgo
  have HNE : Hid ((unitsR r).length = (unitsL (itemsR r)).length) := rfl
  generalize hN : (unitsR r).length = N at *
  clear hN
  obtain ⟨wb, hwb⟩ : ∃ wb : World, wb = v4 := ⟨_, rfl⟩
  subst hwb
  have HWB := Bv4
  have Kawb := Kav4
  have Ktwb := Ktv4
  have Zawb := Zav4
  have Ztwb := Ztv4
  have HPC := hide (fun (k : Nat) (hk : k < css.length) (hh : cartonB r (css.getD k []) = false) => packs_carton (us := us) hk hh)
  have HCB : Hid (∀ cc : List Int, cartonB r cc = (!cc.isEmpty && (decide (volOf (itemsR r) cc ≤ vol (masterV r).wd (masterV r).ht (masterV r).dp) && decide (gramOf (itemsR r) cc ≤ (masterV r).gram)))) := fun cc => rfl
  have HPS := hide (fun (hc : css.all (cartonB r) = true) => packs_same (us := us) (unhide HZ) hc)
  have HO := hide (own_lit0 (e := 3) (size := 1) wb (Nat.le_refl _))
  have HB0 : Hid (Below wb.heap.size wb (wb.alloc (.cells #[] 3))) := (Below.refl _ _).alloc (Nat.le_refl _) _
  go_wp2
  generalize (wb.alloc (.cells #[] 3)) = w0 at *
  go_loopw [10, 11] (fun o i wr => ∃ (k g cap m : Nat), k ≤ n2 ∧ i = .int .i64 k ∧ m = (css.take k).flatten.length ∧ o = .slice (some ⟨g, 0, none⟩) m cap ∧ wr.ownsRow wb.heap.size 3 1 (.slice (some ⟨g, 0, none⟩) m cap) m (ci (css.take k).flatten) ∧ (css.take k).all (cartonB r) = true ∧ Below wb.heap.size wb wr) (fun _ i _ => n2 - (intOf i).toNat)
  case atStart => exact ⟨0, wb.heap.size, 0, 0, Nat.zero_le _, rfl, rfl, rfl, unhide HO, rfl, unhide HB0⟩
  case round =>
  clear HO HB0
  obtain ⟨k, g, cap, m, hk, rfl, hm, rfl, hown, hall, hb⟩ := hrel
  have HOW := hide hown
  have HM := hide hm
  have hml : m ≤ css.flatten.length := by rw [hm]; exact (unhide HFL) k
  by_cases hlk : k < n2
  case pos =>
    obtain ⟨b, off, ai, cj, hua, hcw, hRC⟩ := ((unhide HC).mono ((unhide HWB).trans (hb.mono (unhide HWB).size))).2 k hlk
    have hkc : k < css.length := by omega
    have hcl := (unhide HCL) k hlk
    subst hua
    have HRC := hide hRC
    have HFS := hide (flat_step css k hkc)
    have HFN := (unhide HFL) (k + 1)
    have HAT := hide (all_take (cartonB r) css k hkc hall)
    have HPK := hide ((unhide HPC) k hkc)
    have HCK := hide ((unhide HCB) (css.getD k []))
    have HWR := hide ((unhide HWB).trans (hb.mono (unhide HWB).size))
    have HBR := hide hb
    have UN := hide ((unhide UNb).mono hb)
    have Kawr := hide (Blk.below hb Zawb (unhide Kawb))
    have Ktwr := hide (Blk.below hb Ztwb (unhide Ktwb))
    have Zawr := Nat.lt_of_lt_of_le Zawb hb.size
    have Ztwr := Nat.lt_of_lt_of_le Ztwb hb.size
    have Bwr : Hid (Below wr.heap.size wr wr) := Below.refl _ _
    have hfn : (css.take (k + 1)).flatten.length = m + (css.getD k []).length := by rw [unhide HFS, List.length_append, ← hm]
    generalize css.getD k [] = cc at *
    have hcu : ∀ u, Below wr.heap.size wr u → u.cell? ⟨b, off + k, none⟩ = some (.slice ai cc.length cj) := fun u hb => (hb.cell (World.block_lt_of_cell? wr _ hcw)).trans hcw
    clear hown hall hRC hb hm
    go_upto_region 9 with fail
    go_cut [12] (fun v wc => ∃ gl, v = .pointer (some ⟨gl, 0, none⟩) ∧ Blk wc gl [.int .i64 (volOf (itemsR r) cc), .int .i64 (gramOf (itemsR r) cc)] ∧ Blk wc v2.heap.size [.int .i64 (masterV r).id, .int .i64 (masterV r).wd, .int .i64 (masterV r).ht, .int .i64 (masterV r).dp, .int .i64 (masterV r).tare, .int .i64 (masterV r).gram, .int .i64 (masterV r).cost] ∧ Below wr.heap.size wr wc)
    case first =>
      refine wp_region_noPanic ?_
      have Bu0 : Hid (Below wr.heap.size wr wr.drew) := (unhide Bwr).drew
      have Kau0 : Hid (Blk wr.drew w.heap.size [.int .i64 r.way, .int .i64 r.pal.wd, .int .i64 r.pal.dp, .int .i64 r.pal.ht, .int .i64 r.pal.gram, .int .i64 r.classes, .slice h.ap r.pairs.length h.cp, .slice h.at' r.types.length h.ct, .int .i64 r.master, .slice h.ai r.items.length h.ci]) := unhide Kawr
      have Zau0 : w.heap.size < wr.drew.heap.size := Zawr
      have Ktu0 : Hid (Blk wr.drew v2.heap.size [.int .i64 (masterV r).id, .int .i64 (masterV r).wd, .int .i64 (masterV r).ht, .int .i64 (masterV r).dp, .int .i64 (masterV r).tare, .int .i64 (masterV r).gram, .int .i64 (masterV r).cost]) := unhide Ktwr
      have Ztu0 : v2.heap.size < wr.drew.heap.size := Ztwr
      obtain ⟨S, hSdef⟩ : ∃ S : World → Prop, S = (fun w' => w'.cell? ⟨w.heap.size, 0, none⟩ = some (.int .i64 r.way) ∧ w'.cell? ⟨w.heap.size, 1, none⟩ = some (.int .i64 r.pal.wd) ∧ w'.cell? ⟨w.heap.size, 2, none⟩ = some (.int .i64 r.pal.dp) ∧ w'.cell? ⟨w.heap.size, 3, none⟩ = some (.int .i64 r.pal.ht) ∧ w'.cell? ⟨w.heap.size, 4, none⟩ = some (.int .i64 r.pal.gram) ∧ w'.cell? ⟨w.heap.size, 5, none⟩ = some (.int .i64 r.classes) ∧ w'.cell? ⟨w.heap.size, 6, none⟩ = some (.slice h.ap r.pairs.length h.cp) ∧ w'.cell? ⟨w.heap.size, 7, none⟩ = some (.slice h.at' r.types.length h.ct) ∧ w'.cell? ⟨w.heap.size, 8, none⟩ = some (.int .i64 r.master) ∧ w'.cell? ⟨w.heap.size, 9, none⟩ = some (.slice h.ai r.items.length h.ci) ∧ w'.cell? ⟨b, off + k, none⟩ = some (.slice ai cc.length cj)) := ⟨_, rfl⟩
      have hSmk : ∀ wq, Blk wq w.heap.size [.int .i64 r.way, .int .i64 r.pal.wd, .int .i64 r.pal.dp, .int .i64 r.pal.ht, .int .i64 r.pal.gram, .int .i64 r.classes, .slice h.ap r.pairs.length h.cp, .slice h.at' r.types.length h.ct, .int .i64 r.master, .slice h.ai r.items.length h.ci] → (wq.cell? ⟨b, off + k, none⟩ = some (.slice ai cc.length cj)) → S wq := fun wq ka p0 => by rw [hSdef]; exact ⟨(ka 0 (by simp)).1, (ka 1 (by simp)).1, (ka 2 (by simp)).1, (ka 3 (by simp)).1, (ka 4 (by simp)).1, (ka 5 (by simp)).1, (ka 6 (by simp)).1, (ka 7 (by simp)).1, (ka 8 (by simp)).1, (ka 9 (by simp)).1, p0⟩
      have hSd : ∀ wq, S wq → (fun w' => w'.cell? ⟨w.heap.size, 0, none⟩ = some (.int .i64 r.way) ∧ w'.cell? ⟨w.heap.size, 1, none⟩ = some (.int .i64 r.pal.wd) ∧ w'.cell? ⟨w.heap.size, 2, none⟩ = some (.int .i64 r.pal.dp) ∧ w'.cell? ⟨w.heap.size, 3, none⟩ = some (.int .i64 r.pal.ht) ∧ w'.cell? ⟨w.heap.size, 4, none⟩ = some (.int .i64 r.pal.gram) ∧ w'.cell? ⟨w.heap.size, 5, none⟩ = some (.int .i64 r.classes) ∧ w'.cell? ⟨w.heap.size, 6, none⟩ = some (.slice h.ap r.pairs.length h.cp) ∧ w'.cell? ⟨w.heap.size, 7, none⟩ = some (.slice h.at' r.types.length h.ct) ∧ w'.cell? ⟨w.heap.size, 8, none⟩ = some (.int .i64 r.master) ∧ w'.cell? ⟨w.heap.size, 9, none⟩ = some (.slice h.ai r.items.length h.ci) ∧ w'.cell? ⟨b, off + k, none⟩ = some (.slice ai cc.length cj)) wq := fun wq h => by rw [hSdef] at h; exact h
      clear hSdef
      have hHeld : S wr.drew := hSmk wr.drew (unhide Kau0) (hcu _ (unhide Bu0))
      refine wp_region_to (S := S) (T := []) (by kernel_rfl) hHeld (fun _ => ?_)
      generalize wr.drew = u0 at *
      refine wpTo_tk (i := 0) (v := ?_) rfl (by kernel_rfl) (Or.inl ⟨by rfl, ?_⟩) (by assumption) ?_
      rotate_left
      · intro w hSw
        have hSw := hSd _ hSw
        (try dsimp only at hSw)
        go_simp <;> with_reducible rfl
      refine wpTo_tk (i := 1) (v := ?_) rfl (by kernel_rfl) (Or.inl ⟨by rfl, ?_⟩) (by assumption) ?_
      rotate_left
      · intro w hSw
        have hSw := hSd _ hSw
        (try dsimp only at hSw)
        go_simp <;> with_reducible rfl
      refine wpTo_tk (i := 2) (v := ?_) rfl (by kernel_rfl) (Or.inl ⟨by rfl, ?_⟩) (by assumption) ?_
      rotate_left
      · intro w hSw
        have hSw := hSd _ hSw
        (try dsimp only at hSw)
        go_simp <;> with_reducible rfl
      refine wpTo_tk (i := 3) (v := ?_) rfl (by kernel_rfl) (Or.inl ⟨by rfl, ?_⟩) (by assumption) ?_
      rotate_left
      · intro w hSw
        have hSw := hSd _ hSw
        (try dsimp only at hSw)
        go_simp <;> with_reducible rfl
      refine wpTo_tk (i := 4) (v := ?_) rfl (by kernel_rfl) (Or.inl ⟨by rfl, ?_⟩) (by assumption) ?_
      rotate_left
      · intro w hSw
        have hSw := hSd _ hSw
        (try dsimp only at hSw)
        go_simp <;> with_reducible rfl
      refine wpTo_tk (i := 5) (v := ?_) rfl (by kernel_rfl) (Or.inl ⟨by rfl, ?_⟩) (by assumption) ?_
      rotate_left
      · intro w hSw
        have hSw := hSd _ hSw
        (try dsimp only at hSw)
        go_simp <;> with_reducible rfl
      try simp only [Act.put, List.getElem_toArray, List.getElem_cons_zero, List.getElem_cons_succ, List.setIfInBounds_toArray, List.set_cons_zero, List.set_cons_succ]
      try simp only [Act.put, List.getElem_toArray, List.getElem_cons_zero, List.getElem_cons_succ, List.setIfInBounds_toArray, List.set_cons_zero, List.set_cons_succ]
      refine wpTo_inv (fun a0 listed ai wi => ∃ (b6 b7 b8 : Bool) (gl : Nat), listed = #[true, true, true, true, true, true, b6, b7, b8] ∧ ai = fillS b7 12 (.pointer (some ⟨gl, 0, none⟩)) (fillS b6 38 (.agg #[.int .i64 (volOf (itemsR r) cc), .int .i64 (gramOf (itemsR r) cc)]) (a0)) ∧ Hid (Below u0.heap.size u0 wi) ∧ Hid (Tk b7 → Fk b8 → Blk wi gl [.int .i64 0, .int .i64 0] ∧ gl < wi.heap.size ∧ u0.heap.size ≤ gl) ∧ Hid (Tk b8 → Blk wi gl [.int .i64 (volOf (itemsR r) cc), .int .i64 (gramOf (itemsR r) cc)]) ∧ Hid (Tk b8 → Tk b6 ∧ Tk b7)) ⟨false, false, false, 0, rfl, by simp only [fillS_false], (Below.refl _ _), (fun h _ => by cases h), (fun h => by cases h), (fun h => by cases h)⟩ ?hS ?hT ?step ?fin _ (by decide)
      case hS =>
        rintro listed ai wi ⟨b6, b7, b8, gl, rfl, ha, FB, FKl, FP0, FC8⟩ hTf
        exact hSmk wi (Blk.below ((unhide FB)) Zau0 (unhide Kau0)) (hcu _ ((unhide Bu0).trans (((unhide FB)).mono (unhide Bu0).size)))
      case hT =>
        exact fun _ _ _ _ f hf => by cases hf
      case step =>
        rintro listed ai wi i o ⟨b6, b7, b8, gl, rfl, ha, FB, FKl, FP0, FC8⟩ ho hl hall
        have hi : i < 9 := (Array.getElem?_eq_some_iff.1 ho).1
        obtain rfl | rfl | rfl | rfl | rfl | rfl | rfl | rfl | rfl : i = 0 ∨ i = 1 ∨ i = 2 ∨ i = 3 ∨ i = 4 ∨ i = 5 ∨ i = 6 ∨ i = 7 ∨ i = 8 := by omega
        · exact absurd hl (by simp)
        · exact absurd hl (by simp)
        · exact absurd hl (by simp)
        · exact absurd hl (by simp)
        · exact absurd hl (by simp)
        · exact absurd hl (by simp)
        · obtain rfl := Option.some.inj ho
          obtain rfl : b6 = false := by simpa using hl
          obtain rfl : b8 = false := Tk_no (fun p => by have h8 := (unhide FC8) p; simp [Tk] at h8)
          clear ho hl hall hi
          simp only [fillS, pickS_true, pickS_false, Act.put, Array.getD_eq_getD_getElem?, List.getElem?_toArray, List.getElem?_cons_zero, List.getElem?_cons_succ, Option.getD_some, List.getElem_toArray, List.getElem_cons_zero, List.getElem_cons_succ, List.setIfInBounds_toArray, List.set_cons_zero, List.set_cons_succ] at ha
          subst ha
          refine wpOp_stepS (o := _) rfl (fun K hK => ?_)
          go_simp
          refine (l7Of_any r h (some ⟨gp, 0, none⟩) N cp ai cc.length cj cc wi ((unhide HR).mono ((unhide HWR).trans (((unhide Bu0).trans ((unhide FB).mono (unhide Bu0).size)).mono (unhide HWR).size))) ((unhide UN).mono ((unhide Bu0).trans ((unhide FB).mono (unhide Bu0).size))) ((unhide HRC).mono ((unhide Bu0).trans ((unhide FB).mono (unhide Bu0).size))) (by omega)).mono ?_
          rintro e wz ⟨rfl, hb⟩
          go_wp2_with fail
          refine hK.out _ _ ?_
          exact ⟨true, b7, false, gl, rfl, by simp only [fillS, pickS_true, pickS_false, Act.put, Array.getD_eq_getD_getElem?, List.getElem?_toArray, List.getElem?_cons_zero, List.getElem?_cons_succ, Option.getD_some, List.getElem_toArray, List.getElem_cons_zero, List.getElem_cons_succ, List.setIfInBounds_toArray, List.set_cons_zero, List.set_cons_succ], (((unhide FB).trans (hb.mono (unhide FB).size))), (fun p7 q8 => ⟨Blk.below hb (unhide FKl p7 q8).2.1 (unhide FKl p7 q8).1, Nat.lt_of_lt_of_le (unhide FKl p7 q8).2.1 hb.size, (unhide FKl p7 q8).2.2⟩), (fun p8 => (by cases p8)), (fun p8 => (by cases p8))⟩
        · obtain rfl := Option.some.inj ho
          obtain rfl : b7 = false := by simpa using hl
          obtain rfl : b8 = false := Tk_no (fun p => by have h8 := (unhide FC8) p; simp [Tk] at h8)
          clear ho hl hall hi
          simp only [fillS, pickS_true, pickS_false, Act.put, Array.getD_eq_getD_getElem?, List.getElem?_toArray, List.getElem?_cons_zero, List.getElem?_cons_succ, Option.getD_some, List.getElem_toArray, List.getElem_cons_zero, List.getElem_cons_succ, List.setIfInBounds_toArray, List.set_cons_zero, List.set_cons_succ] at ha
          subst ha
          refine wpOp_stepS (o := _) rfl (fun K hK => ?_)
          go_simp
          refine hK.out _ _ ?_
          exact ⟨b6, true, false, wi.heap.size, rfl, by simp only [fillS, pickS_true, pickS_false, Act.put, Array.getD_eq_getD_getElem?, List.getElem?_toArray, List.getElem?_cons_zero, List.getElem?_cons_succ, Option.getD_some, List.getElem_toArray, List.getElem_cons_zero, List.getElem_cons_succ, List.setIfInBounds_toArray, List.set_cons_zero, List.set_cons_succ], (((unhide FB).alloc (unhide FB).size _)), (fun p7 q8 => ⟨Blk.allocAt [.int .i64 0, .int .i64 0] (by rfl), lt_alloc_new wi _, ((unhide FB)).size⟩), (fun p8 => (by cases p8)), (fun p8 => (by cases p8))⟩
        · obtain rfl := Option.some.inj ho
          obtain rfl : b8 = false := by simpa using hl
          obtain rfl : b7 = true := by simpa using hall ⟨7, .data⟩ (by simp) rfl
          obtain rfl : b6 = true := by simpa using hall ⟨6, .data⟩ (by simp) rfl
          clear ho hl hall hi
          simp only [fillS, pickS_true, pickS_false, Act.put, Array.getD_eq_getD_getElem?, List.getElem?_toArray, List.getElem?_cons_zero, List.getElem?_cons_succ, Option.getD_some, List.getElem_toArray, List.getElem_cons_zero, List.getElem_cons_succ, List.setIfInBounds_toArray, List.set_cons_zero, List.set_cons_succ] at ha
          subst ha
          refine wpOp_stepS (o := _) rfl (fun K hK => ?_)
          go_simp
          have kl := ((unhide FKl) rfl rfl).1
          have p0 := (kl 0 (by simp)).1
          have q0 := (kl 0 (by simp)).2
          have p1 := (kl 1 (by simp)).1
          have q1 := (kl 1 (by simp)).2
          go_simp
          refine hK.out _ _ ?_
          exact ⟨true, true, true, gl, rfl, by simp only [fillS, pickS_true, pickS_false, Act.put, Array.getD_eq_getD_getElem?, List.getElem?_toArray, List.getElem?_cons_zero, List.getElem?_cons_succ, Option.getD_some, List.getElem_toArray, List.getElem_cons_zero, List.getElem_cons_succ, List.setIfInBounds_toArray, List.set_cons_zero, List.set_cons_succ], ((((unhide FB).setCell ((unhide FKl) rfl rfl).2.2 _).setCell ((unhide FKl) rfl rfl).2.2 _)), (fun p7 q8 => (by cases q8)), (fun p8 => Blk.fill2 ((unhide FKl) rfl rfl).1), (fun p8 => ⟨rfl, rfl⟩)⟩
      case fin =>
        rintro listed ai wi ⟨b6, b7, b8, gl, rfl, ha, FB, FKl, FP0, FC8⟩ hall
        obtain rfl : b6 = true := by
          have h9 := hall 6 _ rfl (by
            intro e he hbd
            simp at he
            rcases he with rfl | rfl | rfl <;> simp
            )
          simpa using h9
        obtain rfl : b7 = true := by
          have h9 := hall 7 _ rfl (by
            intro e he hbd
            simp at he
            )
          simpa using h9
        obtain rfl : b8 = true := by
          have h9 := hall 8 _ rfl (by
            intro e he hbd
            simp at he
            rcases he with rfl | rfl | rfl | rfl | rfl | rfl | rfl | rfl | rfl | rfl | rfl <;> simp
            )
          simpa using h9
        clear hall
        simp only [fillS, pickS_true, pickS_false, Act.put, Array.getD_eq_getD_getElem?, List.getElem?_toArray, List.getElem?_cons_zero, List.getElem?_cons_succ, Option.getD_some, List.getElem_toArray, List.getElem_cons_zero, List.getElem_cons_succ, List.setIfInBounds_toArray, List.set_cons_zero, List.set_cons_succ] at ha
        subst ha
        refine NoPanic.normal ?_
        have Bwi := hide ((unhide Bu0).trans ((unhide FB).mono (unhide Bu0).size))
        have Kawi := hide (Blk.below (unhide FB) Zau0 (unhide Kau0))
        have Zawi := Nat.lt_of_lt_of_le Zau0 (unhide FB).size
        have Ktwi := hide (Blk.below (unhide FB) Ztu0 (unhide Ktu0))
        have Ztwi := Nat.lt_of_lt_of_le Ztu0 (unhide FB).size
        have HP0 := hide ((unhide FP0) rfl)
        clear FB FKl FP0 FC8
        go_wp2_with fail
        go_meet
        case rel => exact ⟨_, rfl, unhide HP0, unhide Ktwi, unhide Bwi⟩
    case rest =>
      clear Bwr Kawr Ktwr Zawr Ztwr
      obtain ⟨gl, rfl, kl, kt, hbc⟩ := hcut
      have hcell := hcu _ hbc
      have HOC := hide (own_later (unhide HOW) hbc)
      have HRCc := hide ((unhide HRC).mono hbc)
      have HBC := hide ((unhide HBR).trans (hbc.mono (unhide HBR).size))
      have HWC := hide ((unhide HWR).trans (hbc.mono (unhide HWR).size))
      have l0 := (kl 0 (by simp)).1
      have l1 := (kl 1 (by simp)).1
      have t1 := (kt 1 (by simp)).1
      have t2 := (kt 2 (by simp)).1
      have t3 := (kt 3 (by simp)).1
      have t5 := (kt 5 (by simp)).1
      clear kl kt hbc hcu hcw
      simp only [List.getElem?_cons_zero, List.getElem?_cons_succ] at l0 l1 t1 t2 t3 t5
      by_cases hcc0 : cc.length = 0
      · have HP0 := hide ((unhide HPK) (by rw [unhide HCK, List.isEmpty_iff_length_eq_zero.2 hcc0]; rfl))
        rw [hcc0] at hcell
        go_upto_region 10 with fail
        go_quiet ((go_at_call 52; exact Calls.quiet_of_same (specVolume_any _ _ _ _)))
        go_wp2
        go_ret
        exact ⟨ret_boolF (unhide HP0).symm, (unhide HWC).drewsN nq⟩
      have hne0 : cc.isEmpty = false := by
        cases he : cc.isEmpty
        · rfl
        · exact absurd (List.isEmpty_iff_length_eq_zero.1 he) hcc0
      have hzI : ¬ ((cc.length : Nat) : Int) = 0 := by omega
      have hzb : (((cc.length : Nat) : Int) == 0) = false := beq_eq_false_iff_ne.2 hzI
      rw [hne0] at HCK
      clear hne0
      generalize volOf (itemsR r) cc = V at *
      generalize gramOf (itemsR r) cc = G at *
      by_cases h1 : V ≤ vol (masterV r).wd (masterV r).ht (masterV r).dp
      case neg =>
        have HP0 := hide ((unhide HPK) (by rw [unhide HCK, decide_eq_false h1]; rfl))
        have h1d : decide (vol (masterV r).wd (masterV r).ht (masterV r).dp < V) = true := decide_eq_true (by omega)
        go_upto_region 10 with fail
        go_quiet ((go_at_call 52; exact Calls.quiet_of_same (specVolume_any _ _ _ _)))
        go_wp2
        go_ret
        exact ⟨ret_boolF (unhide HP0).symm, (unhide HWC).drewsN nq⟩
      have h1d : decide (vol (masterV r).wd (masterV r).ht (masterV r).dp < V) = false := decide_eq_false (by omega)
      by_cases h2 : G ≤ (masterV r).gram
      case neg =>
        have HP0 := hide ((unhide HPK) (by rw [unhide HCK, decide_eq_false h2, Bool.and_false]; rfl))
        have h2d : decide ((masterV r).gram < G) = true := decide_eq_true (by omega)
        go_upto_region 10 with fail
        go_quiet ((go_at_call 52; exact Calls.quiet_of_same (specVolume_any _ _ _ _)))
        go_wp2
        go_ret
        exact ⟨ret_boolF (unhide HP0).symm, (unhide HWC).drewsN nq⟩
      have h2d : decide ((masterV r).gram < G) = false := decide_eq_false (by omega)
      have HA2 := hide ((unhide HAT) (by rw [unhide HCK, decide_eq_true h1, decide_eq_true h2]; rfl))
      obtain ⟨b3, off3, hai, _⟩ := (unhide HRCc).2 0 (by omega)
      subst hai
      go_upto_region 10 with fail
      go_quiet ((go_at_call 52; exact Calls.quiet_of_same (specVolume_any _ _ _ _)))
      have O12 := hide (own_later (unhide HOC) ((Below.refl wc.heap.size wc).drewsN nq))
      have R12 := hide ((unhide HRCc).mono ((Below.refl wc.heap.size wc).drewsN nq))
      have B12 := hide ((unhide HBC).drewsN nq)
      have hsz12 := (unhide B12).size
      clear l0 l1 t1 t2 t3 t5 h1 h2
      go_wp2_with (first
        | (at_builtin; refine wpList_append_lies _ rfl _ _ 29 rfl wb.heap.size 3 i0 (.int .i64 0) 1 8 Tryz.underlying29 hi hz0 hz1 hz2 rfl (by omega) (.slice (some ⟨g, 0, none⟩) m cap) m (ci (css.take k).flatten) rfl (unhide O12) ⟨b3, off3, none⟩ cc.length cj (cc.map (Value.int .i64)) rfl ((unhide R12).news_len) ((unhide R12).news) (news_one cc) (by omega) (by unfold maxLen; omega) (by omega) hsz12 _ rfl ?_; intro g3 cap3 w3 ho3 hg3 hat3 hlt3)
        | fail)
      have B4 : Hid (Below wb.heap.size wb w3) := (unhide B12).grown hg3 hsz12 (fun q hq => by have := own_base (unhide O12); simp [Value.ownBlock] at hq; omega)
      have O4 : Hid (w3.ownsRow wb.heap.size 3 1 (.slice (some ⟨g3, 0, none⟩) (m + cc.length) cap3) (m + cc.length) (ci (css.take (k + 1)).flatten)) := by
        rw [unhide HFS]
        have := ho3
        rw [show ci (css.take k).flatten ++ cc.map (Value.int .i64) = ci ((css.take k).flatten ++ cc) by simp [ci]] at this
        exact this
      clear ho3 hg3 hat3 hlt3
      go_wp2
      go_roundw
      case rel => exact ⟨k + 1, g3, cap3, m + cc.length, by omega, by go_num, hfn.symm, rfl, unhide O4, unhide HA2, unhide B4⟩
      case measure => simp [intOf]; omega
  obtain rfl : k = n2 := by omega
  have e : css.take k = css := List.take_of_length_le (by omega)
  rw [e] at hall hm HOW
  have HPF := hide ((unhide HPS) hall)
  have HWR := hide ((unhide HWB).trans (hb.mono (unhide HWB).size))
  have UR := hide ((unhide UNb).mono hb)
  clear hown hall hb e HM
  generalize css.flatten = fl at *
  go_wp2_with fail
  refine (l7Known_any (itemsR r) (some ⟨gp, 0, none⟩) N cp a n c us wr (unhide HNE) (by omega) ((unhide HU).mono (unhide HWR)) (by omega)).mono ?_
  rintro e w2 ⟨tg, tc, rfl, hto, hb2⟩
  have RF := hide (Rd.of_owns (own_later (unhide HOW) hb2))
  have RK : Hid (Rd w2 (some ⟨tg, 0, none⟩) (knownL (itemsR r) us).length (knownL (itemsR r) us)) := Rd.of_owns hto
  have HW2 := hide ((unhide HWR).trans (hb2.mono (unhide HWR).size))
  have hkl := knownL_len (itemsR r) us
  clear hto hb2 HOW UR HWR
  generalize knownL (itemsR r) us = kn at *
  subst hm
  by_cases hlen : kn.length = fl.length
  case neg =>
    have HP0 : Hid (packsB r us css = false) := by rw [Hid, unhide HPF]; exact same_len hlen
    have hln : ¬ ((kn.length : Nat) : Int) = ((fl.length : Nat) : Int) := by omega
    have hlb : (((kn.length : Nat) : Int) != ((fl.length : Nat) : Int)) = true := bne_iff_ne.2 hln
    clear hlen
    go_wp2
    go_ret
    exact ⟨ret_boolF (unhide HP0).symm, unhide HW2⟩
  have hlb : (((kn.length : Nat) : Int) != ((fl.length : Nat) : Int)) = false := by simp [hlen]
  have HSM := hide (fun (j : Nat) (hj : j < fl.length) (hh : fl.count (fl.getD j 0) ≠ kn.count (fl.getD j 0)) => same_miss (kn := kn) hj hh)
  have HSA := hide (fun (hh : ∀ j, j < fl.length → fl.count (fl.getD j 0) = kn.count (fl.getD j 0)) => same_all hlen hh)
  obtain ⟨M, hM⟩ : ∃ M, M = fl.length := ⟨_, rfl⟩
  obtain ⟨K, hK⟩ : ∃ K, K = kn.length := ⟨_, rfl⟩
  rw [← hM] at RF hlb htot hlen HSM HSA ⊢
  rw [← hK] at RK hlb hlen hkl ⊢
  have HMM := hide hM
  have HKK := hide hK
  clear hM hK wr
  have hlen2 := hlen.symm
  clear hlen
  subst hlen2
  go_wp2
  go_loopw [14] (fun i wr => ∃ (j : Nat), j ≤ M ∧ i = .int .i64 j ∧ (∀ q, q < j → fl.count (fl.getD q 0) = kn.count (fl.getD q 0)) ∧ Below w2.heap.size w2 wr) (fun i _ => M - (intOf i).toNat)
  case atStart => exact ⟨0, Nat.zero_le _, rfl, fun q hq => absurd hq (Nat.not_lt_zero _), Below.refl _ _⟩
  case round =>
    obtain ⟨j, hj, rfl, hzs, hb⟩ := hrel
    have HZS := hide hzs
    have HB := hide hb
    by_cases hlj : j < M
    case neg =>
      have hjn : ¬ ((j : Int) < (M : Int)) := by omega
      have HP1 : Hid (packsB r us css = true) := by rw [Hid, unhide HPF]; exact (unhide HSA) (fun q hq => (unhide HZS) q (by omega))
      have HBF := hide ((unhide HW2).trans (hb.mono (unhide HW2).size))
      clear hzs hb
      go_wp2
      go_ret
      exact ⟨ret_boolF (unhide HP1).symm, unhide HBF⟩
    have RFr := hide ((unhide RF).mono hb)
    have RKr := hide ((unhide RK).mono hb)
    have hcf := Rd.atS (unhide RFr) j hlj
    have HMS := hide ((unhide HSM) j hlj)
    have HZJ := hide (fun (h0 : fl.count (fl.getD j 0) = kn.count (fl.getD j 0)) (q : Nat) (hq : q < j + 1) => show fl.count (fl.getD q 0) = kn.count (fl.getD q 0) from by
      by_cases e : q = j
      · rw [e]; exact h0
      · exact (unhide HZS) q (by omega))
    generalize fl.getD j 0 = x at *
    have hcx : ∀ u, Below wr.heap.size wr u → u.cell? ⟨g, j, none⟩ = some (.int .i64 x) := fun u hb => (hb.cell (World.block_lt_of_cell? wr _ hcf)).trans hcf
    have hq1 : fl.count x ≤ 1048576 := Nat.le_trans List.count_le_length (by rw [← unhide HMM]; exact htot)
    have hq2 : kn.count x ≤ 1048576 := Nat.le_trans List.count_le_length (by rw [← unhide HKK]; omega)
    have Bwr : Hid (Below wr.heap.size wr wr) := Below.refl _ _
    have HC1 := hide (fun (W : World) (hW : Below wr.heap.size wr W) => l8Times_any (some ⟨g, 0, none⟩) M cap fl x W ((unhide RFr).mono hW) (by omega))
    have HC2 := hide (fun (W : World) (hW : Below wr.heap.size wr W) => l8Times_any (some ⟨tg, 0, none⟩) M tc kn x W ((unhide RKr).mono hW) (by omega))
    clear hzs hb
    by_cases hpq : fl.count x = kn.count x
    · have HZ2 := hide ((unhide HZJ) hpq)
      have hpb : ((((fl.count x : Nat) : Int)) != ((kn.count x : Nat) : Int)) = false := by simp [hpq]
      generalize fl.count x = p at *
      generalize kn.count x = q at *
      subst hpq
      go_upto_region 19 with fail
      go_cut [96] (fun v wc => v = .bool false ∧ Below wr.heap.size wr wc)
      case first =>
        refine wp_region_noPanic ?_
        have Bu0 : Hid (Below wr.heap.size wr wr.drew) := (unhide Bwr).drew
        obtain ⟨S, hSdef⟩ : ∃ S : World → Prop, S = (fun w' => w'.cell? ⟨g, j, none⟩ = some (.int .i64 x)) := ⟨_, rfl⟩
        have hSmk : ∀ wq, (wq.cell? ⟨g, j, none⟩ = some (.int .i64 x)) → S wq := fun wq p0 => by rw [hSdef]; exact p0
        have hSd : ∀ wq, S wq → (fun w' => w'.cell? ⟨g, j, none⟩ = some (.int .i64 x)) wq := fun wq h => by rw [hSdef] at h; exact h
        clear hSdef
        have hHeld : S wr.drew := hSmk wr.drew (hcx _ (unhide Bu0))
        refine wp_region_to (S := S) (T := []) (by kernel_rfl) hHeld (fun _ => ?_)
        generalize wr.drew = u0 at *
        refine wpTo_tk (i := 0) (v := ?_) rfl (by kernel_rfl) (Or.inl ⟨by rfl, ?_⟩) (by assumption) ?_
        rotate_left
        · intro w hSw
          have hSw := hSd _ hSw
          (try dsimp only at hSw)
          go_simp <;> with_reducible rfl
        refine wpTo_tk (i := 1) (v := ?_) rfl (by kernel_rfl) (Or.inl ⟨by rfl, ?_⟩) (by assumption) ?_
        rotate_left
        · intro w hSw
          have hSw := hSd _ hSw
          (try dsimp only at hSw)
          go_simp <;> with_reducible rfl
        refine wpTo_tk (i := 2) (v := ?_) rfl (by kernel_rfl) (Or.inl ⟨by rfl, ?_⟩) (by assumption) ?_
        rotate_left
        · intro w hSw
          have hSw := hSd _ hSw
          (try dsimp only at hSw)
          go_simp <;> with_reducible rfl
        refine wpTo_tk (i := 3) (v := ?_) rfl (by kernel_rfl) (Or.inl ⟨by rfl, ?_⟩) (by assumption) ?_
        rotate_left
        · intro w hSw
          have hSw := hSd _ hSw
          (try dsimp only at hSw)
          go_simp <;> with_reducible rfl
        refine wpTo_tk (i := 4) (v := ?_) rfl (by kernel_rfl) (Or.inl ⟨by rfl, ?_⟩) (by assumption) ?_
        rotate_left
        · intro w hSw
          have hSw := hSd _ hSw
          (try dsimp only at hSw)
          go_simp <;> with_reducible rfl
        refine wpTo_tk (i := 6) (v := ?_) rfl (by kernel_rfl) (Or.inl ⟨by rfl, ?_⟩) (by assumption) ?_
        rotate_left
        · intro w hSw
          have hSw := hSd _ hSw
          (try dsimp only at hSw)
          go_simp <;> with_reducible rfl
        try simp only [Act.put, List.getElem_toArray, List.getElem_cons_zero, List.getElem_cons_succ, List.setIfInBounds_toArray, List.set_cons_zero, List.set_cons_succ]
        refine wpTo_tk (i := 7) (v := ?_) rfl (by kernel_rfl) (Or.inl ⟨by rfl, ?_⟩) (by assumption) ?_
        rotate_left
        · intro w hSw
          have hSw := hSd _ hSw
          (try dsimp only at hSw)
          go_simp <;> with_reducible rfl
        refine wpTo_tk (i := 8) (v := ?_) rfl (by kernel_rfl) (Or.inl ⟨by rfl, ?_⟩) (by assumption) ?_
        rotate_left
        · intro w hSw
          have hSw := hSd _ hSw
          (try dsimp only at hSw)
          go_simp <;> with_reducible rfl
        refine wpTo_tk (i := 9) (v := ?_) rfl (by kernel_rfl) (Or.inl ⟨by rfl, ?_⟩) (by assumption) ?_
        rotate_left
        · intro w hSw
          have hSw := hSd _ hSw
          (try dsimp only at hSw)
          go_simp <;> with_reducible rfl
        refine wpTo_tk (i := 10) (v := ?_) rfl (by kernel_rfl) (Or.inl ⟨by rfl, ?_⟩) (by assumption) ?_
        rotate_left
        · intro w hSw
          have hSw := hSd _ hSw
          (try dsimp only at hSw)
          go_simp <;> with_reducible rfl
        try simp only [Act.put, List.getElem_toArray, List.getElem_cons_zero, List.getElem_cons_succ, List.setIfInBounds_toArray, List.set_cons_zero, List.set_cons_succ]
        refine wpTo_inv (fun a0 listed ai wi => ∃ (b5 b11 b12 : Bool), listed = #[true, true, true, true, true, b5, true, true, true, true, true, b11, b12] ∧ ai = fillS b12 96 (.bool false) (fillS b11 95 (.int .i64 (p : Int)) (fillS b5 89 (.int .i64 (p : Int)) (a0))) ∧ Hid (Below u0.heap.size u0 wi) ∧ Hid (Tk b11 → Tk b5) ∧ Hid (Tk b12 → Tk b5 ∧ Tk b11)) ⟨false, false, false, rfl, by simp only [fillS_false], (Below.refl _ _), (fun h => by cases h), (fun h => by cases h)⟩ ?hS ?hT ?step ?fin _ (by decide)
        case hS =>
          rintro listed ai wi ⟨b5, b11, b12, rfl, ha, FB, FC11, FC12⟩ hTf
          exact hSmk wi (hcx _ ((unhide Bu0).trans (((unhide FB)).mono (unhide Bu0).size)))
        case hT =>
          exact fun _ _ _ _ f hf => by cases hf
        case step =>
          rintro listed ai wi i o ⟨b5, b11, b12, rfl, ha, FB, FC11, FC12⟩ ho hl hall
          have hi : i < 13 := (Array.getElem?_eq_some_iff.1 ho).1
          obtain rfl | rfl | rfl | rfl | rfl | rfl | rfl | rfl | rfl | rfl | rfl | rfl | rfl : i = 0 ∨ i = 1 ∨ i = 2 ∨ i = 3 ∨ i = 4 ∨ i = 5 ∨ i = 6 ∨ i = 7 ∨ i = 8 ∨ i = 9 ∨ i = 10 ∨ i = 11 ∨ i = 12 := by omega
          · exact absurd hl (by simp)
          · exact absurd hl (by simp)
          · exact absurd hl (by simp)
          · exact absurd hl (by simp)
          · exact absurd hl (by simp)
          · obtain rfl := Option.some.inj ho
            obtain rfl : b5 = false := by simpa using hl
            obtain rfl : b11 = false := Tk_no (fun p => by have h8 := (unhide FC11) p; simp [Tk] at h8)
            obtain rfl : b12 = false := Tk_no (fun p => by have h8 := (unhide FC12) p; simp [Tk] at h8)
            clear ho hl hall hi
            simp only [fillS, pickS_true, pickS_false, Act.put, Array.getD_eq_getD_getElem?, List.getElem?_toArray, List.getElem?_cons_zero, List.getElem?_cons_succ, Option.getD_some, List.getElem_toArray, List.getElem_cons_zero, List.getElem_cons_succ, List.setIfInBounds_toArray, List.set_cons_zero, List.set_cons_succ] at ha
            subst ha
            refine wpOp_stepS (o := _) rfl (fun K hK => ?_)
            go_simp
            refine ((unhide HC1) wi ((unhide Bu0).trans ((unhide FB).mono (unhide Bu0).size))).mono ?_
            rintro e wz ⟨rfl, hwz⟩
            subst wz
            go_wp2_with fail
            refine hK.out _ _ ?_
            exact ⟨true, false, false, rfl, by simp only [fillS, pickS_true, pickS_false, Act.put, Array.getD_eq_getD_getElem?, List.getElem?_toArray, List.getElem?_cons_zero, List.getElem?_cons_succ, Option.getD_some, List.getElem_toArray, List.getElem_cons_zero, List.getElem_cons_succ, List.setIfInBounds_toArray, List.set_cons_zero, List.set_cons_succ], ((unhide FB)), (fun p11 => (by cases p11)), (fun p12 => (by cases p12))⟩
          · exact absurd hl (by simp)
          · exact absurd hl (by simp)
          · exact absurd hl (by simp)
          · exact absurd hl (by simp)
          · exact absurd hl (by simp)
          · obtain rfl := Option.some.inj ho
            obtain rfl : b11 = false := by simpa using hl
            obtain rfl : b5 = true := by simpa using hall ⟨5, .chain⟩ (by simp) rfl
            obtain rfl : b12 = false := Tk_no (fun p => by have h8 := (unhide FC12) p; simp [Tk] at h8)
            clear ho hl hall hi
            simp only [fillS, pickS_true, pickS_false, Act.put, Array.getD_eq_getD_getElem?, List.getElem?_toArray, List.getElem?_cons_zero, List.getElem?_cons_succ, Option.getD_some, List.getElem_toArray, List.getElem_cons_zero, List.getElem_cons_succ, List.setIfInBounds_toArray, List.set_cons_zero, List.set_cons_succ] at ha
            subst ha
            refine wpOp_stepS (o := _) rfl (fun K hK => ?_)
            go_simp
            refine ((unhide HC2) wi ((unhide Bu0).trans ((unhide FB).mono (unhide Bu0).size))).mono ?_
            rintro e wz ⟨rfl, hwz⟩
            subst wz
            go_wp2_with fail
            refine hK.out _ _ ?_
            exact ⟨true, true, false, rfl, by simp only [fillS, pickS_true, pickS_false, Act.put, Array.getD_eq_getD_getElem?, List.getElem?_toArray, List.getElem?_cons_zero, List.getElem?_cons_succ, Option.getD_some, List.getElem_toArray, List.getElem_cons_zero, List.getElem_cons_succ, List.setIfInBounds_toArray, List.set_cons_zero, List.set_cons_succ], ((unhide FB)), (fun p11 => rfl), (fun p12 => (by cases p12))⟩
          · obtain rfl := Option.some.inj ho
            obtain rfl : b12 = false := by simpa using hl
            obtain rfl : b5 = true := by simpa using hall ⟨5, .data⟩ (by simp) rfl
            obtain rfl : b11 = true := by simpa using hall ⟨11, .data⟩ (by simp) rfl
            clear ho hl hall hi
            simp only [fillS, pickS_true, pickS_false, Act.put, Array.getD_eq_getD_getElem?, List.getElem?_toArray, List.getElem?_cons_zero, List.getElem?_cons_succ, Option.getD_some, List.getElem_toArray, List.getElem_cons_zero, List.getElem_cons_succ, List.setIfInBounds_toArray, List.set_cons_zero, List.set_cons_succ] at ha
            subst ha
            refine wpOp_stepS (o := _) rfl (fun K hK => ?_)
            go_simp
            refine hK.out _ _ ?_
            exact ⟨true, true, true, rfl, by simp only [fillS, pickS_true, pickS_false, Act.put, Array.getD_eq_getD_getElem?, List.getElem?_toArray, List.getElem?_cons_zero, List.getElem?_cons_succ, Option.getD_some, List.getElem_toArray, List.getElem_cons_zero, List.getElem_cons_succ, List.setIfInBounds_toArray, List.set_cons_zero, List.set_cons_succ], ((unhide FB)), (fun p11 => (unhide FC11 p11)), (fun p12 => ⟨rfl, rfl⟩)⟩
        case fin =>
          rintro listed ai wi ⟨b5, b11, b12, rfl, ha, FB, FC11, FC12⟩ hall
          obtain rfl : b5 = true := by
            have h9 := hall 5 _ rfl (by
              intro e he hbd
              simp at he
              rcases he with rfl | rfl <;> simp
              )
            simpa using h9
          obtain rfl : b11 = true := by
            have h9 := hall 11 _ rfl (by
              intro e he hbd
              simp at he
              rcases he with rfl | rfl | rfl <;> simp
              )
            simpa using h9
          obtain rfl : b12 = true := by
            have h9 := hall 12 _ rfl (by
              intro e he hbd
              simp at he
              rcases he with rfl | rfl <;> simp
              )
            simpa using h9
          clear hall
          simp only [fillS, pickS_true, pickS_false, Act.put, Array.getD_eq_getD_getElem?, List.getElem?_toArray, List.getElem?_cons_zero, List.getElem?_cons_succ, Option.getD_some, List.getElem_toArray, List.getElem_cons_zero, List.getElem_cons_succ, List.setIfInBounds_toArray, List.set_cons_zero, List.set_cons_succ] at ha
          subst ha
          refine NoPanic.normal ?_
          have Bwi := hide ((unhide Bu0).trans ((unhide FB).mono (unhide Bu0).size))
          clear FB FC11 FC12
          go_wp2_with fail
          go_meet
          case rel => exact ⟨rfl, unhide Bwi⟩
      case rest =>
        obtain ⟨rfl, hbc⟩ := hcut
        have HB3 := hide ((unhide HB).trans (hbc.mono (unhide HB).size))
        clear hbc HC1 HC2
        go_wp2
        go_roundw
        case rel => exact ⟨j + 1, by omega, by go_num, unhide HZ2, unhide HB3⟩
        case measure => simp [intOf]; omega
    · have HP0 : Hid (packsB r us css = false) := by rw [Hid, unhide HPF]; exact (unhide HMS) hpq
      have hpb : ((((fl.count x : Nat) : Int)) != ((kn.count x : Nat) : Int)) = true := by simp; omega
      have HBF := hide ((unhide HW2).trans ((unhide HB).mono (unhide HW2).size))
      generalize fl.count x = p at *
      generalize kn.count x = q at *
      go_upto_region 19 with fail
      go_cut [96] (fun v wc => v = .bool true ∧ Below wr.heap.size wr wc)
      case first =>
        refine wp_region_noPanic ?_
        have Bu0 : Hid (Below wr.heap.size wr wr.drew) := (unhide Bwr).drew
        obtain ⟨S, hSdef⟩ : ∃ S : World → Prop, S = (fun w' => w'.cell? ⟨g, j, none⟩ = some (.int .i64 x)) := ⟨_, rfl⟩
        have hSmk : ∀ wq, (wq.cell? ⟨g, j, none⟩ = some (.int .i64 x)) → S wq := fun wq p0 => by rw [hSdef]; exact p0
        have hSd : ∀ wq, S wq → (fun w' => w'.cell? ⟨g, j, none⟩ = some (.int .i64 x)) wq := fun wq h => by rw [hSdef] at h; exact h
        clear hSdef
        have hHeld : S wr.drew := hSmk wr.drew (hcx _ (unhide Bu0))
        refine wp_region_to (S := S) (T := []) (by kernel_rfl) hHeld (fun _ => ?_)
        generalize wr.drew = u0 at *
        refine wpTo_tk (i := 0) (v := ?_) rfl (by kernel_rfl) (Or.inl ⟨by rfl, ?_⟩) (by assumption) ?_
        rotate_left
        · intro w hSw
          have hSw := hSd _ hSw
          (try dsimp only at hSw)
          go_simp <;> with_reducible rfl
        refine wpTo_tk (i := 1) (v := ?_) rfl (by kernel_rfl) (Or.inl ⟨by rfl, ?_⟩) (by assumption) ?_
        rotate_left
        · intro w hSw
          have hSw := hSd _ hSw
          (try dsimp only at hSw)
          go_simp <;> with_reducible rfl
        refine wpTo_tk (i := 2) (v := ?_) rfl (by kernel_rfl) (Or.inl ⟨by rfl, ?_⟩) (by assumption) ?_
        rotate_left
        · intro w hSw
          have hSw := hSd _ hSw
          (try dsimp only at hSw)
          go_simp <;> with_reducible rfl
        refine wpTo_tk (i := 3) (v := ?_) rfl (by kernel_rfl) (Or.inl ⟨by rfl, ?_⟩) (by assumption) ?_
        rotate_left
        · intro w hSw
          have hSw := hSd _ hSw
          (try dsimp only at hSw)
          go_simp <;> with_reducible rfl
        refine wpTo_tk (i := 4) (v := ?_) rfl (by kernel_rfl) (Or.inl ⟨by rfl, ?_⟩) (by assumption) ?_
        rotate_left
        · intro w hSw
          have hSw := hSd _ hSw
          (try dsimp only at hSw)
          go_simp <;> with_reducible rfl
        refine wpTo_tk (i := 6) (v := ?_) rfl (by kernel_rfl) (Or.inl ⟨by rfl, ?_⟩) (by assumption) ?_
        rotate_left
        · intro w hSw
          have hSw := hSd _ hSw
          (try dsimp only at hSw)
          go_simp <;> with_reducible rfl
        try simp only [Act.put, List.getElem_toArray, List.getElem_cons_zero, List.getElem_cons_succ, List.setIfInBounds_toArray, List.set_cons_zero, List.set_cons_succ]
        refine wpTo_tk (i := 7) (v := ?_) rfl (by kernel_rfl) (Or.inl ⟨by rfl, ?_⟩) (by assumption) ?_
        rotate_left
        · intro w hSw
          have hSw := hSd _ hSw
          (try dsimp only at hSw)
          go_simp <;> with_reducible rfl
        refine wpTo_tk (i := 8) (v := ?_) rfl (by kernel_rfl) (Or.inl ⟨by rfl, ?_⟩) (by assumption) ?_
        rotate_left
        · intro w hSw
          have hSw := hSd _ hSw
          (try dsimp only at hSw)
          go_simp <;> with_reducible rfl
        refine wpTo_tk (i := 9) (v := ?_) rfl (by kernel_rfl) (Or.inl ⟨by rfl, ?_⟩) (by assumption) ?_
        rotate_left
        · intro w hSw
          have hSw := hSd _ hSw
          (try dsimp only at hSw)
          go_simp <;> with_reducible rfl
        refine wpTo_tk (i := 10) (v := ?_) rfl (by kernel_rfl) (Or.inl ⟨by rfl, ?_⟩) (by assumption) ?_
        rotate_left
        · intro w hSw
          have hSw := hSd _ hSw
          (try dsimp only at hSw)
          go_simp <;> with_reducible rfl
        try simp only [Act.put, List.getElem_toArray, List.getElem_cons_zero, List.getElem_cons_succ, List.setIfInBounds_toArray, List.set_cons_zero, List.set_cons_succ]
        refine wpTo_inv (fun a0 listed ai wi => ∃ (b5 b11 b12 : Bool), listed = #[true, true, true, true, true, b5, true, true, true, true, true, b11, b12] ∧ ai = fillS b12 96 (.bool true) (fillS b11 95 (.int .i64 (q : Int)) (fillS b5 89 (.int .i64 (p : Int)) (a0))) ∧ Hid (Below u0.heap.size u0 wi) ∧ Hid (Tk b11 → Tk b5) ∧ Hid (Tk b12 → Tk b5 ∧ Tk b11)) ⟨false, false, false, rfl, by simp only [fillS_false], (Below.refl _ _), (fun h => by cases h), (fun h => by cases h)⟩ ?hS ?hT ?step ?fin _ (by decide)
        case hS =>
          rintro listed ai wi ⟨b5, b11, b12, rfl, ha, FB, FC11, FC12⟩ hTf
          exact hSmk wi (hcx _ ((unhide Bu0).trans (((unhide FB)).mono (unhide Bu0).size)))
        case hT =>
          exact fun _ _ _ _ f hf => by cases hf
        case step =>
          rintro listed ai wi i o ⟨b5, b11, b12, rfl, ha, FB, FC11, FC12⟩ ho hl hall
          have hi : i < 13 := (Array.getElem?_eq_some_iff.1 ho).1
          obtain rfl | rfl | rfl | rfl | rfl | rfl | rfl | rfl | rfl | rfl | rfl | rfl | rfl : i = 0 ∨ i = 1 ∨ i = 2 ∨ i = 3 ∨ i = 4 ∨ i = 5 ∨ i = 6 ∨ i = 7 ∨ i = 8 ∨ i = 9 ∨ i = 10 ∨ i = 11 ∨ i = 12 := by omega
          · exact absurd hl (by simp)
          · exact absurd hl (by simp)
          · exact absurd hl (by simp)
          · exact absurd hl (by simp)
          · exact absurd hl (by simp)
          · obtain rfl := Option.some.inj ho
            obtain rfl : b5 = false := by simpa using hl
            obtain rfl : b11 = false := Tk_no (fun p => by have h8 := (unhide FC11) p; simp [Tk] at h8)
            obtain rfl : b12 = false := Tk_no (fun p => by have h8 := (unhide FC12) p; simp [Tk] at h8)
            clear ho hl hall hi
            simp only [fillS, pickS_true, pickS_false, Act.put, Array.getD_eq_getD_getElem?, List.getElem?_toArray, List.getElem?_cons_zero, List.getElem?_cons_succ, Option.getD_some, List.getElem_toArray, List.getElem_cons_zero, List.getElem_cons_succ, List.setIfInBounds_toArray, List.set_cons_zero, List.set_cons_succ] at ha
            subst ha
            refine wpOp_stepS (o := _) rfl (fun K hK => ?_)
            go_simp
            refine ((unhide HC1) wi ((unhide Bu0).trans ((unhide FB).mono (unhide Bu0).size))).mono ?_
            rintro e wz ⟨rfl, hwz⟩
            subst wz
            go_wp2_with fail
            refine hK.out _ _ ?_
            exact ⟨true, false, false, rfl, by simp only [fillS, pickS_true, pickS_false, Act.put, Array.getD_eq_getD_getElem?, List.getElem?_toArray, List.getElem?_cons_zero, List.getElem?_cons_succ, Option.getD_some, List.getElem_toArray, List.getElem_cons_zero, List.getElem_cons_succ, List.setIfInBounds_toArray, List.set_cons_zero, List.set_cons_succ], ((unhide FB)), (fun p11 => (by cases p11)), (fun p12 => (by cases p12))⟩
          · exact absurd hl (by simp)
          · exact absurd hl (by simp)
          · exact absurd hl (by simp)
          · exact absurd hl (by simp)
          · exact absurd hl (by simp)
          · obtain rfl := Option.some.inj ho
            obtain rfl : b11 = false := by simpa using hl
            obtain rfl : b5 = true := by simpa using hall ⟨5, .chain⟩ (by simp) rfl
            obtain rfl : b12 = false := Tk_no (fun p => by have h8 := (unhide FC12) p; simp [Tk] at h8)
            clear ho hl hall hi
            simp only [fillS, pickS_true, pickS_false, Act.put, Array.getD_eq_getD_getElem?, List.getElem?_toArray, List.getElem?_cons_zero, List.getElem?_cons_succ, Option.getD_some, List.getElem_toArray, List.getElem_cons_zero, List.getElem_cons_succ, List.setIfInBounds_toArray, List.set_cons_zero, List.set_cons_succ] at ha
            subst ha
            refine wpOp_stepS (o := _) rfl (fun K hK => ?_)
            go_simp
            refine ((unhide HC2) wi ((unhide Bu0).trans ((unhide FB).mono (unhide Bu0).size))).mono ?_
            rintro e wz ⟨rfl, hwz⟩
            subst wz
            go_wp2_with fail
            refine hK.out _ _ ?_
            exact ⟨true, true, false, rfl, by simp only [fillS, pickS_true, pickS_false, Act.put, Array.getD_eq_getD_getElem?, List.getElem?_toArray, List.getElem?_cons_zero, List.getElem?_cons_succ, Option.getD_some, List.getElem_toArray, List.getElem_cons_zero, List.getElem_cons_succ, List.setIfInBounds_toArray, List.set_cons_zero, List.set_cons_succ], ((unhide FB)), (fun p11 => rfl), (fun p12 => (by cases p12))⟩
          · obtain rfl := Option.some.inj ho
            obtain rfl : b12 = false := by simpa using hl
            obtain rfl : b5 = true := by simpa using hall ⟨5, .data⟩ (by simp) rfl
            obtain rfl : b11 = true := by simpa using hall ⟨11, .data⟩ (by simp) rfl
            clear ho hl hall hi
            simp only [fillS, pickS_true, pickS_false, Act.put, Array.getD_eq_getD_getElem?, List.getElem?_toArray, List.getElem?_cons_zero, List.getElem?_cons_succ, Option.getD_some, List.getElem_toArray, List.getElem_cons_zero, List.getElem_cons_succ, List.setIfInBounds_toArray, List.set_cons_zero, List.set_cons_succ] at ha
            subst ha
            refine wpOp_stepS (o := _) rfl (fun K hK => ?_)
            go_simp
            refine hK.out _ _ ?_
            exact ⟨true, true, true, rfl, by simp only [fillS, pickS_true, pickS_false, Act.put, Array.getD_eq_getD_getElem?, List.getElem?_toArray, List.getElem?_cons_zero, List.getElem?_cons_succ, Option.getD_some, List.getElem_toArray, List.getElem_cons_zero, List.getElem_cons_succ, List.setIfInBounds_toArray, List.set_cons_zero, List.set_cons_succ], ((unhide FB)), (fun p11 => (unhide FC11 p11)), (fun p12 => ⟨rfl, rfl⟩)⟩
        case fin =>
          rintro listed ai wi ⟨b5, b11, b12, rfl, ha, FB, FC11, FC12⟩ hall
          obtain rfl : b5 = true := by
            have h9 := hall 5 _ rfl (by
              intro e he hbd
              simp at he
              rcases he with rfl | rfl <;> simp
              )
            simpa using h9
          obtain rfl : b11 = true := by
            have h9 := hall 11 _ rfl (by
              intro e he hbd
              simp at he
              rcases he with rfl | rfl | rfl <;> simp
              )
            simpa using h9
          obtain rfl : b12 = true := by
            have h9 := hall 12 _ rfl (by
              intro e he hbd
              simp at he
              rcases he with rfl | rfl <;> simp
              )
            simpa using h9
          clear hall
          simp only [fillS, pickS_true, pickS_false, Act.put, Array.getD_eq_getD_getElem?, List.getElem?_toArray, List.getElem?_cons_zero, List.getElem?_cons_succ, Option.getD_some, List.getElem_toArray, List.getElem_cons_zero, List.getElem_cons_succ, List.setIfInBounds_toArray, List.set_cons_zero, List.set_cons_succ] at ha
          subst ha
          refine NoPanic.normal ?_
          have Bwi := hide ((unhide Bu0).trans ((unhide FB).mono (unhide Bu0).size))
          clear FB FC11 FC12
          go_wp2_with fail
          go_meet
          case rel => exact ⟨rfl, unhide Bwi⟩
      case rest =>
        obtain ⟨rfl, hbc⟩ := hcut
        have HB3 := hide ((unhide HBF).trans (hbc.mono (unhide HBF).size))
        clear hbc HC1 HC2
        go_wp2
        go_ret
        exact ⟨ret_boolF (unhide HP0).symm, unhide HB3⟩
end Go.Proofs.YtdmaldjnjffnlabGreatDoor
