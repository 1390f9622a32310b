/- Lower bounds of the model. -/
import Derived.Test.YtdmaldjnjffnlaaGreatDoorLowPlain
import Derived.Test.YtdmaldjnjffnlaaGreatDoorPackSpec
import Derived.Test.YtdmaldjnjffnlaaGreatDoorPkD
import Derived.Test.YtdmaldjnjffnlaaGreatDoorSpecVol
import Derived.Test.YtdmaldjnjffnlaaGreatDoorInvR
import Derived.Deep.DeepMust
import Derived.Deep.DeepCutAuto
import Derived.Deep.RegionHeld3
namespace Go.Proofs.YtdmaldjnjffnlaaGreatDoor
open Go Go.RowKit
set_option linter.unusedVariables false
set_option linter.unusedSimpArgs false

theorem l8Up_any (n b : Int) (w : World) (hn : 0 ≤ n ∧ n ≤ 8388800000000000) (hb : 1 ≤ b ∧ b ≤ 8000000000) :
    Calls Tryz.prog 53 #[.int .i64 n, .int .i64 b] w fun e w' => e = .returned (.int .i64 (ceilI n b)) ∧ w' = w := by
  go_enter Tryz.func53, Tryz.ntmps53
  go_wp2
  go_ret
  exact ⟨rfl, rfl⟩
set_option maxRecDepth 100000 in
set_option maxHeartbeats 4000000 in
theorem specLowerVolume_any (r : ReqV) (h : ReqH) (a : Option Addr) (n c : Nat) (us : List Int) (w : World) (hr : RdReq w r h) (hs : r.small) (hu : Rd w a n us) (hn : n ≤ 1048576) :
    Calls Tryz.prog 23 #[reqVal r h, .slice a n c] w fun e w' => e = .returned (.int .i64 (lowVol r us)) ∧ Below w.heap.size w w' := by
  have htl : r.types.length ≤ 1048600 := by unfold ReqV.small at hs; omega
  have HR := hide hr
  have HU := hide hu
  have hul := hu.1
  clear hr hu
  unfold reqVal
  go_enter Tryz.func23, Tryz.ntmps23
  go_wp2_with fail
  have BW : Hid (Below w.heap.size w (w.alloc (.cells #[.int .i64 r.way, .int .i64 r.pal.wd, .int .i64 r.pal.dp, .int .i64 r.pal.ht, .int .i64 r.pal.gram, .int .i64 r.classes, .slice h.ap r.pairs.length h.cp, .slice h.at' r.types.length h.ct, .int .i64 r.master, .slice h.ai r.items.length h.ci] 38))) := ((Below.refl _ _).alloc (by simp) _)
  have KaW : Hid (Blk (w.alloc (.cells #[.int .i64 r.way, .int .i64 r.pal.wd, .int .i64 r.pal.dp, .int .i64 r.pal.ht, .int .i64 r.pal.gram, .int .i64 r.classes, .slice h.ap r.pairs.length h.cp, .slice h.at' r.types.length h.ct, .int .i64 r.master, .slice h.ai r.items.length h.ci] 38)) w.heap.size [.int .i64 r.way, .int .i64 r.pal.wd, .int .i64 r.pal.dp, .int .i64 r.pal.ht, .int .i64 r.pal.gram, .int .i64 r.classes, .slice h.ap r.pairs.length h.cp, .slice h.at' r.types.length h.ct, .int .i64 r.master, .slice h.ai r.items.length h.ci]) := (Blk.allocAt (w := w) [.int .i64 r.way, .int .i64 r.pal.wd, .int .i64 r.pal.dp, .int .i64 r.pal.ht, .int .i64 r.pal.gram, .int .i64 r.classes, .slice h.ap r.pairs.length h.cp, .slice h.at' r.types.length h.ct, .int .i64 r.master, .slice h.ai r.items.length h.ci] (by simp))
  have ZaW : w.heap.size < (w.alloc (.cells #[.int .i64 r.way, .int .i64 r.pal.wd, .int .i64 r.pal.dp, .int .i64 r.pal.ht, .int .i64 r.pal.gram, .int .i64 r.classes, .slice h.ap r.pairs.length h.cp, .slice h.at' r.types.length h.ct, .int .i64 r.master, .slice h.ai r.items.length h.ci] 38)).heap.size := by simp
  have Ga : w.heap.size ≤ w.heap.size := by omega
  generalize (w.alloc (.cells #[.int .i64 r.way, .int .i64 r.pal.wd, .int .i64 r.pal.dp, .int .i64 r.pal.ht, .int .i64 r.pal.gram, .int .i64 r.classes, .slice h.ap r.pairs.length h.cp, .slice h.at' r.types.length h.ct, .int .i64 r.master, .slice h.ai r.items.length h.ci] 38)) = W at *
  refine (specClass_any r h _ ((unhide HR).mono (unhide BW)) hs).mono ?_
  rintro e v1 ⟨rfl, hb⟩
  have Bv1 := hide ((unhide BW).trans (hb.mono (unhide BW).size))
  have Kav1 := hide (Blk.below hb ZaW (unhide KaW))
  have Zav1 := Nat.lt_of_lt_of_le ZaW hb.size
  clear hb
  clear BW KaW ZaW
  by_cases hz : classI r = 0
  case neg =>
    have hne : (classI r != 0) = true := by simp [hz]
    have HE : Hid (lowVol r us = 0) := by simp [Hid, lowVol, hz]
    clear hz
    go_wp2
    go_ret
    exact ⟨ret_intF (unhide HE).symm, unhide Bv1⟩
  have HLOW : Hid (ceilI (volOf (itemsR r) us) (vol (masterV r).wd (masterV r).ht (masterV r).dp) = lowVol r us) := by simp [Hid, lowVol, hz, mostV]
  have HBD : Hid ((0 ≤ volOf (itemsR r) us ∧ volOf (itemsR r) us ≤ 8388800000000000) ∧ 1 ≤ (vol (masterV r).wd (masterV r).ht (masterV r).dp) ∧ (vol (masterV r).wd (masterV r).ht (masterV r).dp) ≤ 8000000000) := by
    have h1 := volOf_bd (itemsR r) us 1048576 (by omega)
    have h2 := most_pos hz
    simp only [mostV] at h2
    exact ⟨by omega, by omega⟩
  have HZ := hide hz
  rw [hz]
  clear hz
  obtain ⟨ca0, ca1, ca2, ca3, ca4, ca5, ca6, ca7, ca8, ca9⟩ := Blk.cs10 (unhide Kav1)
  go_wp2_with fail
  clear ca0 ca1 ca2 ca3 ca4 ca5 ca6 ca7 ca8 ca9
  refine (specMasterOf_any r h _ ((unhide HR).mono (unhide Bv1)) htl).mono ?_
  rintro e v2 ⟨rfl, hb⟩
  have Bv2 := hide ((unhide Bv1).trans (hb.mono (unhide Bv1).size))
  have Kav2 := hide (Blk.below hb Zav1 (unhide Kav1))
  have Zav2 := Nat.lt_of_lt_of_le Zav1 hb.size
  clear hb
  clear Bv1 Kav1 Zav1
  obtain ⟨ca0, ca1, ca2, ca3, ca4, ca5, ca6, ca7, ca8, ca9⟩ := Blk.cs10 (unhide Kav2)
  go_wp2_with fail
  clear ca0 ca1 ca2 ca3 ca4 ca5 ca6 ca7 ca8 ca9
  have Bv3 : Hid (Below w.heap.size w (v2.alloc (.cells #[.int .i64 (masterV r).id, .int .i64 (masterV r).wd, .int .i64 (masterV r).ht, .int .i64 (masterV r).dp, .int .i64 (masterV r).tare, .int .i64 (masterV r).gram, .int .i64 (masterV r).cost] 68))) := (unhide Bv2).alloc (unhide Bv2).size _
  have Ktv3 : Hid (Blk (v2.alloc (.cells #[.int .i64 (masterV r).id, .int .i64 (masterV r).wd, .int .i64 (masterV r).ht, .int .i64 (masterV r).dp, .int .i64 (masterV r).tare, .int .i64 (masterV r).gram, .int .i64 (masterV r).cost] 68)) v2.heap.size [.int .i64 (masterV r).id, .int .i64 (masterV r).wd, .int .i64 (masterV r).ht, .int .i64 (masterV r).dp, .int .i64 (masterV r).tare, .int .i64 (masterV r).gram, .int .i64 (masterV r).cost]) := Blk.allocAt [.int .i64 (masterV r).id, .int .i64 (masterV r).wd, .int .i64 (masterV r).ht, .int .i64 (masterV r).dp, .int .i64 (masterV r).tare, .int .i64 (masterV r).gram, .int .i64 (masterV r).cost] rfl
  have Ztv3 : v2.heap.size < (v2.alloc (.cells #[.int .i64 (masterV r).id, .int .i64 (masterV r).wd, .int .i64 (masterV r).ht, .int .i64 (masterV r).dp, .int .i64 (masterV r).tare, .int .i64 (masterV r).gram, .int .i64 (masterV r).cost] 68)).heap.size := by simp
  have Gt : w.heap.size ≤ v2.heap.size := (unhide Bv2).size
  have Kav3 : Hid (Blk (v2.alloc (.cells #[.int .i64 (masterV r).id, .int .i64 (masterV r).wd, .int .i64 (masterV r).ht, .int .i64 (masterV r).dp, .int .i64 (masterV r).tare, .int .i64 (masterV r).gram, .int .i64 (masterV r).cost] 68)) w.heap.size [.int .i64 r.way, .int .i64 r.pal.wd, .int .i64 r.pal.dp, .int .i64 r.pal.ht, .int .i64 r.pal.gram, .int .i64 r.classes, .slice h.ap r.pairs.length h.cp, .slice h.at' r.types.length h.ct, .int .i64 r.master, .slice h.ai r.items.length h.ci]) := (unhide Kav2).allocOld Zav2 _
  have Zav3 : w.heap.size < (v2.alloc (.cells #[.int .i64 (masterV r).id, .int .i64 (masterV r).wd, .int .i64 (masterV r).ht, .int .i64 (masterV r).dp, .int .i64 (masterV r).tare, .int .i64 (masterV r).gram, .int .i64 (masterV r).cost] 68)).heap.size := by simp <;> omega
  have Nqat : w.heap.size ≠ v2.heap.size := Nat.ne_of_lt Zav2
  have Nqta : v2.heap.size ≠ w.heap.size := Ne.symm Nqat
  clear Bv2 Kav2 Zav2
  generalize (v2.alloc (.cells #[.int .i64 (masterV r).id, .int .i64 (masterV r).wd, .int .i64 (masterV r).ht, .int .i64 (masterV r).dp, .int .i64 (masterV r).tare, .int .i64 (masterV r).gram, .int .i64 (masterV r).cost] 68)) = v3 at *
  go_upto_region 4 with fail
  go_cut [4] (fun v wc => v = .int .i64 (lowVol r us) ∧ Below w.heap.size w wc)
  case first =>
    refine wp_region_noPanic ?_
    have Bu0 : Hid (Below w.heap.size w v3.drew) := (unhide Bv3).drew
    have Kau0 : Hid (Blk v3.drew w.heap.size [.int .i64 r.way, .int .i64 r.pal.wd, .int .i64 r.pal.dp, .int .i64 r.pal.ht, .int .i64 r.pal.gram, .int .i64 r.classes, .slice h.ap r.pairs.length h.cp, .slice h.at' r.types.length h.ct, .int .i64 r.master, .slice h.ai r.items.length h.ci]) := unhide Kav3
    have Zau0 : w.heap.size < v3.drew.heap.size := Zav3
    have Ktu0 : Hid (Blk v3.drew v2.heap.size [.int .i64 (masterV r).id, .int .i64 (masterV r).wd, .int .i64 (masterV r).ht, .int .i64 (masterV r).dp, .int .i64 (masterV r).tare, .int .i64 (masterV r).gram, .int .i64 (masterV r).cost]) := unhide Ktv3
    have Ztu0 : v2.heap.size < v3.drew.heap.size := Ztv3
    obtain ⟨S, hSdef⟩ : ∃ S : World → Prop, S = (fun w' => w'.cell? ⟨w.heap.size, 0, none⟩ = some (.int .i64 r.way) ∧ w'.cell? ⟨w.heap.size, 1, none⟩ = some (.int .i64 r.pal.wd) ∧ w'.cell? ⟨w.heap.size, 2, none⟩ = some (.int .i64 r.pal.dp) ∧ w'.cell? ⟨w.heap.size, 3, none⟩ = some (.int .i64 r.pal.ht) ∧ w'.cell? ⟨w.heap.size, 4, none⟩ = some (.int .i64 r.pal.gram) ∧ w'.cell? ⟨w.heap.size, 5, none⟩ = some (.int .i64 r.classes) ∧ w'.cell? ⟨w.heap.size, 6, none⟩ = some (.slice h.ap r.pairs.length h.cp) ∧ w'.cell? ⟨w.heap.size, 7, none⟩ = some (.slice h.at' r.types.length h.ct) ∧ w'.cell? ⟨w.heap.size, 8, none⟩ = some (.int .i64 r.master) ∧ w'.cell? ⟨w.heap.size, 9, none⟩ = some (.slice h.ai r.items.length h.ci) ∧ w'.cell? ⟨v2.heap.size, 0, none⟩ = some (.int .i64 (masterV r).id) ∧ w'.cell? ⟨v2.heap.size, 1, none⟩ = some (.int .i64 (masterV r).wd) ∧ w'.cell? ⟨v2.heap.size, 2, none⟩ = some (.int .i64 (masterV r).ht) ∧ w'.cell? ⟨v2.heap.size, 3, none⟩ = some (.int .i64 (masterV r).dp) ∧ w'.cell? ⟨v2.heap.size, 4, none⟩ = some (.int .i64 (masterV r).tare) ∧ w'.cell? ⟨v2.heap.size, 5, none⟩ = some (.int .i64 (masterV r).gram) ∧ w'.cell? ⟨v2.heap.size, 6, none⟩ = some (.int .i64 (masterV r).cost)) := ⟨_, rfl⟩
    have hSmk : ∀ wq, Blk wq w.heap.size [.int .i64 r.way, .int .i64 r.pal.wd, .int .i64 r.pal.dp, .int .i64 r.pal.ht, .int .i64 r.pal.gram, .int .i64 r.classes, .slice h.ap r.pairs.length h.cp, .slice h.at' r.types.length h.ct, .int .i64 r.master, .slice h.ai r.items.length h.ci] → Blk wq v2.heap.size [.int .i64 (masterV r).id, .int .i64 (masterV r).wd, .int .i64 (masterV r).ht, .int .i64 (masterV r).dp, .int .i64 (masterV r).tare, .int .i64 (masterV r).gram, .int .i64 (masterV r).cost] → S wq := fun wq ka kt => by rw [hSdef]; exact ⟨(ka 0 (by simp)).1, (ka 1 (by simp)).1, (ka 2 (by simp)).1, (ka 3 (by simp)).1, (ka 4 (by simp)).1, (ka 5 (by simp)).1, (ka 6 (by simp)).1, (ka 7 (by simp)).1, (ka 8 (by simp)).1, (ka 9 (by simp)).1, (kt 0 (by simp)).1, (kt 1 (by simp)).1, (kt 2 (by simp)).1, (kt 3 (by simp)).1, (kt 4 (by simp)).1, (kt 5 (by simp)).1, (kt 6 (by simp)).1⟩
    have hSd : ∀ wq, S wq → (fun w' => w'.cell? ⟨w.heap.size, 0, none⟩ = some (.int .i64 r.way) ∧ w'.cell? ⟨w.heap.size, 1, none⟩ = some (.int .i64 r.pal.wd) ∧ w'.cell? ⟨w.heap.size, 2, none⟩ = some (.int .i64 r.pal.dp) ∧ w'.cell? ⟨w.heap.size, 3, none⟩ = some (.int .i64 r.pal.ht) ∧ w'.cell? ⟨w.heap.size, 4, none⟩ = some (.int .i64 r.pal.gram) ∧ w'.cell? ⟨w.heap.size, 5, none⟩ = some (.int .i64 r.classes) ∧ w'.cell? ⟨w.heap.size, 6, none⟩ = some (.slice h.ap r.pairs.length h.cp) ∧ w'.cell? ⟨w.heap.size, 7, none⟩ = some (.slice h.at' r.types.length h.ct) ∧ w'.cell? ⟨w.heap.size, 8, none⟩ = some (.int .i64 r.master) ∧ w'.cell? ⟨w.heap.size, 9, none⟩ = some (.slice h.ai r.items.length h.ci) ∧ w'.cell? ⟨v2.heap.size, 0, none⟩ = some (.int .i64 (masterV r).id) ∧ w'.cell? ⟨v2.heap.size, 1, none⟩ = some (.int .i64 (masterV r).wd) ∧ w'.cell? ⟨v2.heap.size, 2, none⟩ = some (.int .i64 (masterV r).ht) ∧ w'.cell? ⟨v2.heap.size, 3, none⟩ = some (.int .i64 (masterV r).dp) ∧ w'.cell? ⟨v2.heap.size, 4, none⟩ = some (.int .i64 (masterV r).tare) ∧ w'.cell? ⟨v2.heap.size, 5, none⟩ = some (.int .i64 (masterV r).gram) ∧ w'.cell? ⟨v2.heap.size, 6, none⟩ = some (.int .i64 (masterV r).cost)) wq := fun wq h => by rw [hSdef] at h; exact h
    clear hSdef
    have hHeld : S v3.drew := hSmk v3.drew (unhide Kau0) (unhide Ktu0)
    refine wp_region_to (S := S) (T := []) (by kernel_rfl) hHeld (fun _ => ?_)
    generalize v3.drew = u0 at *
    refine wpTo_tk (i := 0) (v := ?_) rfl (by kernel_rfl) (Or.inl ⟨by rfl, ?_⟩) (by assumption) ?_
    rotate_left
    · intro w hSw
      have hSw := hSd _ hSw
      (try dsimp only at hSw)
      go_simp <;> with_reducible rfl
    refine wpTo_tk (i := 1) (v := ?_) rfl (by kernel_rfl) (Or.inl ⟨by rfl, ?_⟩) (by assumption) ?_
    rotate_left
    · intro w hSw
      have hSw := hSd _ hSw
      (try dsimp only at hSw)
      go_simp <;> with_reducible rfl
    refine wpTo_tk (i := 3) (v := ?_) rfl (by kernel_rfl) (Or.inl ⟨by rfl, ?_⟩) (by assumption) ?_
    rotate_left
    · intro w hSw
      have hSw := hSd _ hSw
      (try dsimp only at hSw)
      go_simp <;> with_reducible rfl
    refine wpTo_tk (i := 6) (v := ?_) rfl (by kernel_rfl) (Or.inl ⟨by rfl, ?_⟩) (by assumption) ?_
    rotate_left
    · intro w hSw
      have hSw := hSd _ hSw
      (try dsimp only at hSw)
      go_simp <;> with_reducible rfl
    refine wpTo_tk (i := 7) (v := ?_) rfl (by kernel_rfl) (Or.inl ⟨by rfl, ?_⟩) (by assumption) ?_
    rotate_left
    · intro w hSw
      have hSw := hSd _ hSw
      (try dsimp only at hSw)
      go_simp <;> with_reducible rfl
    refine wpTo_tk (i := 8) (v := ?_) rfl (by kernel_rfl) (Or.inl ⟨by rfl, ?_⟩) (by assumption) ?_
    rotate_left
    · intro w hSw
      have hSw := hSd _ hSw
      (try dsimp only at hSw)
      go_simp <;> with_reducible rfl
    refine wpTo_tk (i := 9) (v := ?_) rfl (by kernel_rfl) (Or.inl ⟨by rfl, ?_⟩) (by assumption) ?_
    rotate_left
    · intro w hSw
      have hSw := hSd _ hSw
      (try dsimp only at hSw)
      go_simp <;> with_reducible rfl
    refine wpTo_tk (i := 10) (v := ?_) rfl (by kernel_rfl) (Or.inl ⟨by rfl, ?_⟩) (by assumption) ?_
    rotate_left
    · intro w hSw
      have hSw := hSd _ hSw
      (try dsimp only at hSw)
      go_simp <;> with_reducible rfl
    refine wpTo_tk (i := 11) (v := ?_) rfl (by kernel_rfl) (Or.inl ⟨by rfl, ?_⟩) (by assumption) ?_
    rotate_left
    · intro w hSw
      have hSw := hSd _ hSw
      (try dsimp only at hSw)
      go_simp <;> with_reducible rfl
    try simp only [Act.put, List.getElem_toArray, List.getElem_cons_zero, List.getElem_cons_succ, List.setIfInBounds_toArray, List.set_cons_zero, List.set_cons_succ]
    try simp only [Act.put, List.getElem_toArray, List.getElem_cons_zero, List.getElem_cons_succ, List.setIfInBounds_toArray, List.set_cons_zero, List.set_cons_succ]
    refine wpTo_inv (fun a0 listed ai wi => ∃ (b2 b4 b5 b12 b13 b14 : Bool) (gU cU : Nat), listed = #[true, true, b2, true, b4, b5, true, true, true, true, true, true, b12, b13, b14] ∧ ai = fillS b14 4 (.int .i64 (lowVol r us)) (fillS b13 28 (.int .i64 (lowVol r us)) (fillS b12 27 (.int .i64 (vol (masterV r).wd (masterV r).ht (masterV r).dp)) (fillS b5 20 (.int .i64 (volOf (itemsR r) us)) (fillS b4 19 (.agg #[.int .i64 (volOf (itemsR r) us), .int .i64 (gramOf (itemsR r) us)]) (fillS b2 17 (.slice (some ⟨gU, 0, none⟩) (unitsR r).length cU) (a0)))))) ∧ Hid (Below u0.heap.size u0 wi) ∧ Hid (Tk b2 → Rd wi (some ⟨gU, 0, none⟩) (unitsR r).length (unitsR r)) ∧ Hid (Tk b4 → Tk b2) ∧ Hid (Tk b5 → Tk b2 ∧ Tk b4) ∧ Hid (Tk b12 → Tk b2 ∧ Tk b4) ∧ Hid (Tk b13 → Tk b2 ∧ Tk b4 ∧ Tk b5 ∧ Tk b12) ∧ Hid (Tk b14 → Tk b2 ∧ Tk b4 ∧ Tk b5 ∧ Tk b12 ∧ Tk b13)) ⟨false, false, false, false, false, false, 0, 0, rfl, by simp only [fillS_false], (Below.refl _ _), (fun h => by cases h), (fun h => by cases h), (fun h => by cases h), (fun h => by cases h), (fun h => by cases h), (fun h => by cases h)⟩ ?hS ?hT ?step ?fin _ (by decide)
    case hS =>
      rintro listed ai wi ⟨b2, b4, b5, b12, b13, b14, gU, cU, rfl, ha, FB, FU, FC4, FC5, FC12, FC13, FC14⟩ hTf
      exact hSmk wi (Blk.below ((unhide FB)) Zau0 (unhide Kau0)) (Blk.below ((unhide FB)) Ztu0 (unhide Ktu0))
    case hT =>
      exact fun _ _ _ _ f hf => by cases hf
    case step =>
      rintro listed ai wi i o ⟨b2, b4, b5, b12, b13, b14, gU, cU, rfl, ha, FB, FU, FC4, FC5, FC12, FC13, FC14⟩ ho hl hall
      have hi : i < 15 := (Array.getElem?_eq_some_iff.1 ho).1
      obtain rfl | rfl | rfl | rfl | rfl | rfl | rfl | rfl | rfl | rfl | rfl | rfl | rfl | rfl | rfl : i = 0 ∨ i = 1 ∨ i = 2 ∨ i = 3 ∨ i = 4 ∨ i = 5 ∨ i = 6 ∨ i = 7 ∨ i = 8 ∨ i = 9 ∨ i = 10 ∨ i = 11 ∨ i = 12 ∨ i = 13 ∨ i = 14 := by omega
      · exact absurd hl (by simp)
      · exact absurd hl (by simp)
      · obtain rfl := Option.some.inj ho
        obtain rfl : b2 = false := by simpa using hl
        obtain rfl : b4 = false := Tk_no (fun p => by have h8 := (unhide FC4) p; simp [Tk] at h8)
        obtain rfl : b5 = false := Tk_no (fun p => by have h8 := (unhide FC5) p; simp [Tk] at h8)
        obtain rfl : b12 = false := Tk_no (fun p => by have h8 := (unhide FC12) p; simp [Tk] at h8)
        obtain rfl : b13 = false := Tk_no (fun p => by have h8 := (unhide FC13) p; simp [Tk] at h8)
        obtain rfl : b14 = false := Tk_no (fun p => by have h8 := (unhide FC14) p; simp [Tk] at h8)
        clear ho hl hall hi
        simp only [fillS, pickS_true, pickS_false, Act.put, Array.getD_eq_getD_getElem?, List.getElem?_toArray, List.getElem?_cons_zero, List.getElem?_cons_succ, Option.getD_some, List.getElem_toArray, List.getElem_cons_zero, List.getElem_cons_succ, List.setIfInBounds_toArray, List.set_cons_zero, List.set_cons_succ] at ha
        subst ha
        refine wpOp_stepS (o := _) rfl (fun K hK => ?_)
        go_simp
        refine (l6Units_zero r h wi ((unhide HR).mono ((unhide Bu0).trans ((unhide FB).mono (unhide Bu0).size))) (unhide HZ)).mono ?_
        rintro e wz ⟨gUn, cUn, rfl, hgo, hb⟩
        go_wp2_with fail
        refine hK.out _ _ ?_
        exact ⟨true, false, false, false, false, false, gUn, cUn, rfl, by simp only [fillS, pickS_true, pickS_false, Act.put, Array.getD_eq_getD_getElem?, List.getElem?_toArray, List.getElem?_cons_zero, List.getElem?_cons_succ, Option.getD_some, List.getElem_toArray, List.getElem_cons_zero, List.getElem_cons_succ, List.setIfInBounds_toArray, List.set_cons_zero, List.set_cons_succ], (((unhide FB).trans (hb.mono (unhide FB).size))), (fun p2 => Rd.of_owns hgo), (fun p4 => (by cases p4)), (fun p5 => (by cases p5)), (fun p12 => (by cases p12)), (fun p13 => (by cases p13)), (fun p14 => (by cases p14))⟩
      · exact absurd hl (by simp)
      · obtain rfl := Option.some.inj ho
        obtain rfl : b4 = false := by simpa using hl
        obtain rfl : b2 = true := by simpa using hall ⟨2, .data⟩ (by simp) rfl
        obtain rfl : b5 = false := Tk_no (fun p => by have h8 := (unhide FC5) p; simp [Tk] at h8)
        obtain rfl : b12 = false := Tk_no (fun p => by have h8 := (unhide FC12) p; simp [Tk] at h8)
        obtain rfl : b13 = false := Tk_no (fun p => by have h8 := (unhide FC13) p; simp [Tk] at h8)
        obtain rfl : b14 = false := Tk_no (fun p => by have h8 := (unhide FC14) p; simp [Tk] at h8)
        clear ho hl hall hi
        simp only [fillS, pickS_true, pickS_false, Act.put, Array.getD_eq_getD_getElem?, List.getElem?_toArray, List.getElem?_cons_zero, List.getElem?_cons_succ, Option.getD_some, List.getElem_toArray, List.getElem_cons_zero, List.getElem_cons_succ, List.setIfInBounds_toArray, List.set_cons_zero, List.set_cons_succ] at ha
        subst ha
        refine wpOp_stepS (o := _) rfl (fun K hK => ?_)
        go_simp
        refine (l7Of_any r h (some ⟨gU, 0, none⟩) _ cU a n c us wi ((unhide HR).mono ((unhide Bu0).trans ((unhide FB).mono (unhide Bu0).size))) ((unhide FU) rfl) ((unhide HU).mono ((unhide Bu0).trans ((unhide FB).mono (unhide Bu0).size))) (by omega)).mono ?_
        rintro e wz ⟨rfl, hb⟩
        go_wp2_with fail
        refine hK.out _ _ ?_
        exact ⟨true, true, false, false, false, false, gU, cU, rfl, by simp only [fillS, pickS_true, pickS_false, Act.put, Array.getD_eq_getD_getElem?, List.getElem?_toArray, List.getElem?_cons_zero, List.getElem?_cons_succ, Option.getD_some, List.getElem_toArray, List.getElem_cons_zero, List.getElem_cons_succ, List.setIfInBounds_toArray, List.set_cons_zero, List.set_cons_succ], (((unhide FB).trans (hb.mono (unhide FB).size))), (fun p2 => (Rd.mono (unhide FU p2) hb)), (fun p4 => rfl), (fun p5 => (by cases p5)), (fun p12 => (by cases p12)), (fun p13 => (by cases p13)), (fun p14 => (by cases p14))⟩
      · obtain rfl := Option.some.inj ho
        obtain rfl : b5 = false := by simpa using hl
        obtain rfl : b4 = true := by simpa using hall ⟨4, .data⟩ (by simp) rfl
        obtain rfl := (unhide FC4) rfl
        obtain rfl : b13 = false := Tk_no (fun p => by have h8 := (unhide FC13) p; simp [Tk] at h8)
        obtain rfl : b14 = false := Tk_no (fun p => by have h8 := (unhide FC14) p; simp [Tk] at h8)
        clear ho hl hall hi
        simp only [fillS, pickS_true, pickS_false, Act.put, Array.getD_eq_getD_getElem?, List.getElem?_toArray, List.getElem?_cons_zero, List.getElem?_cons_succ, Option.getD_some, List.getElem_toArray, List.getElem_cons_zero, List.getElem_cons_succ, List.setIfInBounds_toArray, List.set_cons_zero, List.set_cons_succ] at ha
        subst ha
        refine wpOp_stepS (o := _) rfl (fun K hK => ?_)
        go_simp
        refine hK.out _ _ ?_
        exact ⟨true, true, true, b12, false, false, gU, cU, rfl, by simp only [fillS, pickS_true, pickS_false, Act.put, Array.getD_eq_getD_getElem?, List.getElem?_toArray, List.getElem?_cons_zero, List.getElem?_cons_succ, Option.getD_some, List.getElem_toArray, List.getElem_cons_zero, List.getElem_cons_succ, List.setIfInBounds_toArray, List.set_cons_zero, List.set_cons_succ], ((unhide FB)), (fun p2 => (unhide FU p2)), (fun p4 => (unhide FC4 p4)), (fun p5 => ⟨rfl, rfl⟩), (fun p12 => (unhide FC12 p12)), (fun p13 => (by cases p13)), (fun p14 => (by cases p14))⟩
      · exact absurd hl (by simp)
      · exact absurd hl (by simp)
      · exact absurd hl (by simp)
      · exact absurd hl (by simp)
      · exact absurd hl (by simp)
      · exact absurd hl (by simp)
      · obtain rfl := Option.some.inj ho
        obtain rfl : b12 = false := by simpa using hl
        obtain rfl : b4 = true := by simpa using hall ⟨4, .chain⟩ (by simp) rfl
        obtain rfl := (unhide FC4) rfl
        obtain rfl : b13 = false := Tk_no (fun p => by have h8 := (unhide FC13) p; simp [Tk] at h8)
        obtain rfl : b14 = false := Tk_no (fun p => by have h8 := (unhide FC14) p; simp [Tk] at h8)
        clear ho hl hall hi
        simp only [fillS, pickS_true, pickS_false, Act.put, Array.getD_eq_getD_getElem?, List.getElem?_toArray, List.getElem?_cons_zero, List.getElem?_cons_succ, Option.getD_some, List.getElem_toArray, List.getElem_cons_zero, List.getElem_cons_succ, List.setIfInBounds_toArray, List.set_cons_zero, List.set_cons_succ] at ha
        subst ha
        refine wpOp_stepS (o := _) rfl (fun K hK => ?_)
        go_simp
        refine (specVolume_any _ _ _ _).mono ?_
        rintro e wz ⟨rfl, hwz⟩
        subst wz
        go_wp2_with fail
        refine hK.out _ _ ?_
        exact ⟨true, true, b5, true, false, false, gU, cU, rfl, by simp only [fillS, pickS_true, pickS_false, Act.put, Array.getD_eq_getD_getElem?, List.getElem?_toArray, List.getElem?_cons_zero, List.getElem?_cons_succ, Option.getD_some, List.getElem_toArray, List.getElem_cons_zero, List.getElem_cons_succ, List.setIfInBounds_toArray, List.set_cons_zero, List.set_cons_succ], ((unhide FB)), (fun p2 => (unhide FU p2)), (fun p4 => (unhide FC4 p4)), (fun p5 => (unhide FC5 p5)), (fun p12 => ⟨rfl, rfl⟩), (fun p13 => (by cases p13)), (fun p14 => (by cases p14))⟩
      · obtain rfl := Option.some.inj ho
        obtain rfl : b13 = false := by simpa using hl
        obtain rfl : b5 = true := by simpa using hall ⟨5, .data⟩ (by simp) rfl
        obtain ⟨rfl, rfl⟩ := (unhide FC5) rfl
        obtain rfl : b12 = true := by simpa using hall ⟨12, .data⟩ (by simp) rfl
        obtain rfl : b14 = false := Tk_no (fun p => by have h8 := (unhide FC14) p; simp [Tk] at h8)
        clear ho hl hall hi
        simp only [fillS, pickS_true, pickS_false, Act.put, Array.getD_eq_getD_getElem?, List.getElem?_toArray, List.getElem?_cons_zero, List.getElem?_cons_succ, Option.getD_some, List.getElem_toArray, List.getElem_cons_zero, List.getElem_cons_succ, List.setIfInBounds_toArray, List.set_cons_zero, List.set_cons_succ] at ha
        subst ha
        refine wpOp_stepS (o := _) rfl (fun K hK => ?_)
        go_simp
        refine (l8Up_any (volOf (itemsR r) us) (vol (masterV r).wd (masterV r).ht (masterV r).dp) wi (unhide HBD).1 (unhide HBD).2).mono ?_
        rintro e wz ⟨rfl, hwz⟩; rw [unhide HLOW]
        subst wz
        go_wp2_with fail
        refine hK.out _ _ ?_
        exact ⟨true, true, true, true, true, false, gU, cU, rfl, by simp only [fillS, pickS_true, pickS_false, Act.put, Array.getD_eq_getD_getElem?, List.getElem?_toArray, List.getElem?_cons_zero, List.getElem?_cons_succ, Option.getD_some, List.getElem_toArray, List.getElem_cons_zero, List.getElem_cons_succ, List.setIfInBounds_toArray, List.set_cons_zero, List.set_cons_succ], ((unhide FB)), (fun p2 => (unhide FU p2)), (fun p4 => (unhide FC4 p4)), (fun p5 => (unhide FC5 p5)), (fun p12 => (unhide FC12 p12)), (fun p13 => ⟨rfl, rfl, rfl, rfl⟩), (fun p14 => (by cases p14))⟩
      · obtain rfl := Option.some.inj ho
        obtain rfl : b14 = false := by simpa using hl
        obtain rfl : b13 = true := by simpa using hall ⟨13, .data⟩ (by simp) rfl
        obtain ⟨rfl, rfl, rfl, rfl⟩ := (unhide FC13) rfl
        clear ho hl hall hi
        simp only [fillS, pickS_true, pickS_false, Act.put, Array.getD_eq_getD_getElem?, List.getElem?_toArray, List.getElem?_cons_zero, List.getElem?_cons_succ, Option.getD_some, List.getElem_toArray, List.getElem_cons_zero, List.getElem_cons_succ, List.setIfInBounds_toArray, List.set_cons_zero, List.set_cons_succ] at ha
        subst ha
        refine wpOp_stepS (o := _) rfl (fun K hK => ?_)
        go_simp
        refine hK.out _ _ ?_
        exact ⟨true, true, true, true, true, true, gU, cU, rfl, by simp only [fillS, pickS_true, pickS_false, Act.put, Array.getD_eq_getD_getElem?, List.getElem?_toArray, List.getElem?_cons_zero, List.getElem?_cons_succ, Option.getD_some, List.getElem_toArray, List.getElem_cons_zero, List.getElem_cons_succ, List.setIfInBounds_toArray, List.set_cons_zero, List.set_cons_succ], ((unhide FB)), (fun p2 => (unhide FU p2)), (fun p4 => (unhide FC4 p4)), (fun p5 => (unhide FC5 p5)), (fun p12 => (unhide FC12 p12)), (fun p13 => (unhide FC13 p13)), (fun p14 => ⟨rfl, rfl, rfl, rfl, rfl⟩)⟩
    case fin =>
      rintro listed ai wi ⟨b2, b4, b5, b12, b13, b14, gU, cU, rfl, ha, FB, FU, FC4, FC5, FC12, FC13, FC14⟩ hall
      obtain rfl : b2 = true := by
        have h9 := hall 2 _ rfl (by
          intro e he hbd
          simp at he
          subst he
          simp
          )
        simpa using h9
      obtain rfl : b4 = true := by
        have h9 := hall 4 _ rfl (by
          intro e he hbd
          simp at he
          rcases he with rfl | rfl | rfl | rfl <;> simp
          )
        simpa using h9
      obtain rfl : b5 = true := by
        have h9 := hall 5 _ rfl (by
          intro e he hbd
          simp at he
          subst he
          simp
          )
        simpa using h9
      obtain rfl : b12 = true := by
        have h9 := hall 12 _ rfl (by
          intro e he hbd
          simp at he
          rcases he with rfl | rfl | rfl | rfl <;> simp
          )
        simpa using h9
      obtain rfl : b13 = true := by
        have h9 := hall 13 _ rfl (by
          intro e he hbd
          simp at he
          rcases he with rfl | rfl | rfl <;> simp
          )
        simpa using h9
      obtain rfl : b14 = true := by
        have h9 := hall 14 _ rfl (by
          intro e he hbd
          simp at he
          rcases he with rfl | rfl | rfl | rfl | rfl | rfl | rfl | rfl | rfl | rfl | rfl | rfl | rfl | rfl | rfl | rfl <;> simp
          )
        simpa using h9
      clear hall
      simp only [fillS, pickS_true, pickS_false, Act.put, Array.getD_eq_getD_getElem?, List.getElem?_toArray, List.getElem?_cons_zero, List.getElem?_cons_succ, Option.getD_some, List.getElem_toArray, List.getElem_cons_zero, List.getElem_cons_succ, List.setIfInBounds_toArray, List.set_cons_zero, List.set_cons_succ] at ha
      subst ha
      refine NoPanic.normal ?_
      have Bwi := hide ((unhide Bu0).trans ((unhide FB).mono (unhide Bu0).size))
      have Kawi := hide (Blk.below (unhide FB) Zau0 (unhide Kau0))
      have Zawi := Nat.lt_of_lt_of_le Zau0 (unhide FB).size
      have Ktwi := hide (Blk.below (unhide FB) Ztu0 (unhide Ktu0))
      have Ztwi := Nat.lt_of_lt_of_le Ztu0 (unhide FB).size
      clear FB FU FC4 FC5 FC12 FC13 FC14
      go_wp2_with fail
      go_meet
      case rel => exact ⟨rfl, unhide Bwi⟩
  case rest =>
    obtain ⟨rfl, hb⟩ := hcut
    have HB := hide hb
    clear hb
    go_wp2
    go_ret
    exact ⟨rfl, unhide HB⟩
set_option maxRecDepth 100000 in
set_option maxHeartbeats 4000000 in
theorem specLowerGram_any (r : ReqV) (h : ReqH) (a : Option Addr) (n c : Nat) (us : List Int) (w : World) (hr : RdReq w r h) (hs : r.small) (hu : Rd w a n us) (hn : n ≤ 1048576) :
    Calls Tryz.prog 25 #[reqVal r h, .slice a n c] w fun e w' => e = .returned (.int .i64 (lowGram r us)) ∧ Below w.heap.size w w' := by
  have htl : r.types.length ≤ 1048600 := by unfold ReqV.small at hs; omega
  have HR := hide hr
  have HU := hide hu
  have hul := hu.1
  clear hr hu
  unfold reqVal
  go_enter Tryz.func25, Tryz.ntmps25
  go_wp2_with fail
  have BW : Hid (Below w.heap.size w (w.alloc (.cells #[.int .i64 r.way, .int .i64 r.pal.wd, .int .i64 r.pal.dp, .int .i64 r.pal.ht, .int .i64 r.pal.gram, .int .i64 r.classes, .slice h.ap r.pairs.length h.cp, .slice h.at' r.types.length h.ct, .int .i64 r.master, .slice h.ai r.items.length h.ci] 38))) := ((Below.refl _ _).alloc (by simp) _)
  have KaW : Hid (Blk (w.alloc (.cells #[.int .i64 r.way, .int .i64 r.pal.wd, .int .i64 r.pal.dp, .int .i64 r.pal.ht, .int .i64 r.pal.gram, .int .i64 r.classes, .slice h.ap r.pairs.length h.cp, .slice h.at' r.types.length h.ct, .int .i64 r.master, .slice h.ai r.items.length h.ci] 38)) w.heap.size [.int .i64 r.way, .int .i64 r.pal.wd, .int .i64 r.pal.dp, .int .i64 r.pal.ht, .int .i64 r.pal.gram, .int .i64 r.classes, .slice h.ap r.pairs.length h.cp, .slice h.at' r.types.length h.ct, .int .i64 r.master, .slice h.ai r.items.length h.ci]) := (Blk.allocAt (w := w) [.int .i64 r.way, .int .i64 r.pal.wd, .int .i64 r.pal.dp, .int .i64 r.pal.ht, .int .i64 r.pal.gram, .int .i64 r.classes, .slice h.ap r.pairs.length h.cp, .slice h.at' r.types.length h.ct, .int .i64 r.master, .slice h.ai r.items.length h.ci] (by simp))
  have ZaW : w.heap.size < (w.alloc (.cells #[.int .i64 r.way, .int .i64 r.pal.wd, .int .i64 r.pal.dp, .int .i64 r.pal.ht, .int .i64 r.pal.gram, .int .i64 r.classes, .slice h.ap r.pairs.length h.cp, .slice h.at' r.types.length h.ct, .int .i64 r.master, .slice h.ai r.items.length h.ci] 38)).heap.size := by simp
  have Ga : w.heap.size ≤ w.heap.size := by omega
  generalize (w.alloc (.cells #[.int .i64 r.way, .int .i64 r.pal.wd, .int .i64 r.pal.dp, .int .i64 r.pal.ht, .int .i64 r.pal.gram, .int .i64 r.classes, .slice h.ap r.pairs.length h.cp, .slice h.at' r.types.length h.ct, .int .i64 r.master, .slice h.ai r.items.length h.ci] 38)) = W at *
  refine (specClass_any r h _ ((unhide HR).mono (unhide BW)) hs).mono ?_
  rintro e v1 ⟨rfl, hb⟩
  have Bv1 := hide ((unhide BW).trans (hb.mono (unhide BW).size))
  have Kav1 := hide (Blk.below hb ZaW (unhide KaW))
  have Zav1 := Nat.lt_of_lt_of_le ZaW hb.size
  clear hb
  clear BW KaW ZaW
  by_cases hz : classI r = 0
  case neg =>
    have hne : (classI r != 0) = true := by simp [hz]
    have HE : Hid (lowGram r us = 0) := by simp [Hid, lowGram, hz]
    clear hz
    go_wp2
    go_ret
    exact ⟨ret_intF (unhide HE).symm, unhide Bv1⟩
  have HLOW : Hid (ceilI (gramOf (itemsR r) us) (masterV r).gram = lowGram r us) := by simp [Hid, lowGram, hz, mostV]
  have HBD : Hid ((0 ≤ gramOf (itemsR r) us ∧ gramOf (itemsR r) us ≤ 8388800000000000) ∧ 1 ≤ (masterV r).gram ∧ (masterV r).gram ≤ 8000000000) := by
    have h1 := gramOf_bd (itemsR r) (itemsR_good r).gram us 1048576 (by omega)
    have h2 := most_pos hz
    simp only [mostV] at h2
    exact ⟨by omega, by omega⟩
  have HZ := hide hz
  rw [hz]
  clear hz
  obtain ⟨ca0, ca1, ca2, ca3, ca4, ca5, ca6, ca7, ca8, ca9⟩ := Blk.cs10 (unhide Kav1)
  go_wp2_with fail
  clear ca0 ca1 ca2 ca3 ca4 ca5 ca6 ca7 ca8 ca9
  refine (specMasterOf_any r h _ ((unhide HR).mono (unhide Bv1)) htl).mono ?_
  rintro e v2 ⟨rfl, hb⟩
  have Bv2 := hide ((unhide Bv1).trans (hb.mono (unhide Bv1).size))
  have Kav2 := hide (Blk.below hb Zav1 (unhide Kav1))
  have Zav2 := Nat.lt_of_lt_of_le Zav1 hb.size
  clear hb
  clear Bv1 Kav1 Zav1
  obtain ⟨ca0, ca1, ca2, ca3, ca4, ca5, ca6, ca7, ca8, ca9⟩ := Blk.cs10 (unhide Kav2)
  go_wp2_with fail
  clear ca0 ca1 ca2 ca3 ca4 ca5 ca6 ca7 ca8 ca9
  have Bv3 : Hid (Below w.heap.size w (v2.alloc (.cells #[.int .i64 (masterV r).id, .int .i64 (masterV r).wd, .int .i64 (masterV r).ht, .int .i64 (masterV r).dp, .int .i64 (masterV r).tare, .int .i64 (masterV r).gram, .int .i64 (masterV r).cost] 68))) := (unhide Bv2).alloc (unhide Bv2).size _
  have Ktv3 : Hid (Blk (v2.alloc (.cells #[.int .i64 (masterV r).id, .int .i64 (masterV r).wd, .int .i64 (masterV r).ht, .int .i64 (masterV r).dp, .int .i64 (masterV r).tare, .int .i64 (masterV r).gram, .int .i64 (masterV r).cost] 68)) v2.heap.size [.int .i64 (masterV r).id, .int .i64 (masterV r).wd, .int .i64 (masterV r).ht, .int .i64 (masterV r).dp, .int .i64 (masterV r).tare, .int .i64 (masterV r).gram, .int .i64 (masterV r).cost]) := Blk.allocAt [.int .i64 (masterV r).id, .int .i64 (masterV r).wd, .int .i64 (masterV r).ht, .int .i64 (masterV r).dp, .int .i64 (masterV r).tare, .int .i64 (masterV r).gram, .int .i64 (masterV r).cost] rfl
  have Ztv3 : v2.heap.size < (v2.alloc (.cells #[.int .i64 (masterV r).id, .int .i64 (masterV r).wd, .int .i64 (masterV r).ht, .int .i64 (masterV r).dp, .int .i64 (masterV r).tare, .int .i64 (masterV r).gram, .int .i64 (masterV r).cost] 68)).heap.size := by simp
  have Gt : w.heap.size ≤ v2.heap.size := (unhide Bv2).size
  have Kav3 : Hid (Blk (v2.alloc (.cells #[.int .i64 (masterV r).id, .int .i64 (masterV r).wd, .int .i64 (masterV r).ht, .int .i64 (masterV r).dp, .int .i64 (masterV r).tare, .int .i64 (masterV r).gram, .int .i64 (masterV r).cost] 68)) w.heap.size [.int .i64 r.way, .int .i64 r.pal.wd, .int .i64 r.pal.dp, .int .i64 r.pal.ht, .int .i64 r.pal.gram, .int .i64 r.classes, .slice h.ap r.pairs.length h.cp, .slice h.at' r.types.length h.ct, .int .i64 r.master, .slice h.ai r.items.length h.ci]) := (unhide Kav2).allocOld Zav2 _
  have Zav3 : w.heap.size < (v2.alloc (.cells #[.int .i64 (masterV r).id, .int .i64 (masterV r).wd, .int .i64 (masterV r).ht, .int .i64 (masterV r).dp, .int .i64 (masterV r).tare, .int .i64 (masterV r).gram, .int .i64 (masterV r).cost] 68)).heap.size := by simp <;> omega
  have Nqat : w.heap.size ≠ v2.heap.size := Nat.ne_of_lt Zav2
  have Nqta : v2.heap.size ≠ w.heap.size := Ne.symm Nqat
  clear Bv2 Kav2 Zav2
  generalize (v2.alloc (.cells #[.int .i64 (masterV r).id, .int .i64 (masterV r).wd, .int .i64 (masterV r).ht, .int .i64 (masterV r).dp, .int .i64 (masterV r).tare, .int .i64 (masterV r).gram, .int .i64 (masterV r).cost] 68)) = v3 at *
  go_upto_region 4 with fail
  go_cut [4] (fun v wc => v = .int .i64 (lowGram r us) ∧ Below w.heap.size w wc)
  case first =>
    refine wp_region_noPanic ?_
    have Bu0 : Hid (Below w.heap.size w v3.drew) := (unhide Bv3).drew
    have Kau0 : Hid (Blk v3.drew w.heap.size [.int .i64 r.way, .int .i64 r.pal.wd, .int .i64 r.pal.dp, .int .i64 r.pal.ht, .int .i64 r.pal.gram, .int .i64 r.classes, .slice h.ap r.pairs.length h.cp, .slice h.at' r.types.length h.ct, .int .i64 r.master, .slice h.ai r.items.length h.ci]) := unhide Kav3
    have Zau0 : w.heap.size < v3.drew.heap.size := Zav3
    have Ktu0 : Hid (Blk v3.drew v2.heap.size [.int .i64 (masterV r).id, .int .i64 (masterV r).wd, .int .i64 (masterV r).ht, .int .i64 (masterV r).dp, .int .i64 (masterV r).tare, .int .i64 (masterV r).gram, .int .i64 (masterV r).cost]) := unhide Ktv3
    have Ztu0 : v2.heap.size < v3.drew.heap.size := Ztv3
    obtain ⟨S, hSdef⟩ : ∃ S : World → Prop, S = (fun w' => w'.cell? ⟨w.heap.size, 0, none⟩ = some (.int .i64 r.way) ∧ w'.cell? ⟨w.heap.size, 1, none⟩ = some (.int .i64 r.pal.wd) ∧ w'.cell? ⟨w.heap.size, 2, none⟩ = some (.int .i64 r.pal.dp) ∧ w'.cell? ⟨w.heap.size, 3, none⟩ = some (.int .i64 r.pal.ht) ∧ w'.cell? ⟨w.heap.size, 4, none⟩ = some (.int .i64 r.pal.gram) ∧ w'.cell? ⟨w.heap.size, 5, none⟩ = some (.int .i64 r.classes) ∧ w'.cell? ⟨w.heap.size, 6, none⟩ = some (.slice h.ap r.pairs.length h.cp) ∧ w'.cell? ⟨w.heap.size, 7, none⟩ = some (.slice h.at' r.types.length h.ct) ∧ w'.cell? ⟨w.heap.size, 8, none⟩ = some (.int .i64 r.master) ∧ w'.cell? ⟨w.heap.size, 9, none⟩ = some (.slice h.ai r.items.length h.ci) ∧ w'.cell? ⟨v2.heap.size, 0, none⟩ = some (.int .i64 (masterV r).id) ∧ w'.cell? ⟨v2.heap.size, 1, none⟩ = some (.int .i64 (masterV r).wd) ∧ w'.cell? ⟨v2.heap.size, 2, none⟩ = some (.int .i64 (masterV r).ht) ∧ w'.cell? ⟨v2.heap.size, 3, none⟩ = some (.int .i64 (masterV r).dp) ∧ w'.cell? ⟨v2.heap.size, 4, none⟩ = some (.int .i64 (masterV r).tare) ∧ w'.cell? ⟨v2.heap.size, 5, none⟩ = some (.int .i64 (masterV r).gram) ∧ w'.cell? ⟨v2.heap.size, 6, none⟩ = some (.int .i64 (masterV r).cost)) := ⟨_, rfl⟩
    have hSmk : ∀ wq, Blk wq w.heap.size [.int .i64 r.way, .int .i64 r.pal.wd, .int .i64 r.pal.dp, .int .i64 r.pal.ht, .int .i64 r.pal.gram, .int .i64 r.classes, .slice h.ap r.pairs.length h.cp, .slice h.at' r.types.length h.ct, .int .i64 r.master, .slice h.ai r.items.length h.ci] → Blk wq v2.heap.size [.int .i64 (masterV r).id, .int .i64 (masterV r).wd, .int .i64 (masterV r).ht, .int .i64 (masterV r).dp, .int .i64 (masterV r).tare, .int .i64 (masterV r).gram, .int .i64 (masterV r).cost] → S wq := fun wq ka kt => by rw [hSdef]; exact ⟨(ka 0 (by simp)).1, (ka 1 (by simp)).1, (ka 2 (by simp)).1, (ka 3 (by simp)).1, (ka 4 (by simp)).1, (ka 5 (by simp)).1, (ka 6 (by simp)).1, (ka 7 (by simp)).1, (ka 8 (by simp)).1, (ka 9 (by simp)).1, (kt 0 (by simp)).1, (kt 1 (by simp)).1, (kt 2 (by simp)).1, (kt 3 (by simp)).1, (kt 4 (by simp)).1, (kt 5 (by simp)).1, (kt 6 (by simp)).1⟩
    have hSd : ∀ wq, S wq → (fun w' => w'.cell? ⟨w.heap.size, 0, none⟩ = some (.int .i64 r.way) ∧ w'.cell? ⟨w.heap.size, 1, none⟩ = some (.int .i64 r.pal.wd) ∧ w'.cell? ⟨w.heap.size, 2, none⟩ = some (.int .i64 r.pal.dp) ∧ w'.cell? ⟨w.heap.size, 3, none⟩ = some (.int .i64 r.pal.ht) ∧ w'.cell? ⟨w.heap.size, 4, none⟩ = some (.int .i64 r.pal.gram) ∧ w'.cell? ⟨w.heap.size, 5, none⟩ = some (.int .i64 r.classes) ∧ w'.cell? ⟨w.heap.size, 6, none⟩ = some (.slice h.ap r.pairs.length h.cp) ∧ w'.cell? ⟨w.heap.size, 7, none⟩ = some (.slice h.at' r.types.length h.ct) ∧ w'.cell? ⟨w.heap.size, 8, none⟩ = some (.int .i64 r.master) ∧ w'.cell? ⟨w.heap.size, 9, none⟩ = some (.slice h.ai r.items.length h.ci) ∧ w'.cell? ⟨v2.heap.size, 0, none⟩ = some (.int .i64 (masterV r).id) ∧ w'.cell? ⟨v2.heap.size, 1, none⟩ = some (.int .i64 (masterV r).wd) ∧ w'.cell? ⟨v2.heap.size, 2, none⟩ = some (.int .i64 (masterV r).ht) ∧ w'.cell? ⟨v2.heap.size, 3, none⟩ = some (.int .i64 (masterV r).dp) ∧ w'.cell? ⟨v2.heap.size, 4, none⟩ = some (.int .i64 (masterV r).tare) ∧ w'.cell? ⟨v2.heap.size, 5, none⟩ = some (.int .i64 (masterV r).gram) ∧ w'.cell? ⟨v2.heap.size, 6, none⟩ = some (.int .i64 (masterV r).cost)) wq := fun wq h => by rw [hSdef] at h; exact h
    clear hSdef
    have hHeld : S v3.drew := hSmk v3.drew (unhide Kau0) (unhide Ktu0)
    refine wp_region_to (S := S) (T := []) (by kernel_rfl) hHeld (fun _ => ?_)
    generalize v3.drew = u0 at *
    refine wpTo_tk (i := 0) (v := ?_) rfl (by kernel_rfl) (Or.inl ⟨by rfl, ?_⟩) (by assumption) ?_
    rotate_left
    · intro w hSw
      have hSw := hSd _ hSw
      (try dsimp only at hSw)
      go_simp <;> with_reducible rfl
    refine wpTo_tk (i := 1) (v := ?_) rfl (by kernel_rfl) (Or.inl ⟨by rfl, ?_⟩) (by assumption) ?_
    rotate_left
    · intro w hSw
      have hSw := hSd _ hSw
      (try dsimp only at hSw)
      go_simp <;> with_reducible rfl
    refine wpTo_tk (i := 3) (v := ?_) rfl (by kernel_rfl) (Or.inl ⟨by rfl, ?_⟩) (by assumption) ?_
    rotate_left
    · intro w hSw
      have hSw := hSd _ hSw
      (try dsimp only at hSw)
      go_simp <;> with_reducible rfl
    try simp only [Act.put, List.getElem_toArray, List.getElem_cons_zero, List.getElem_cons_succ, List.setIfInBounds_toArray, List.set_cons_zero, List.set_cons_succ]
    refine wpTo_tk (i := 6) (v := ?_) rfl (by kernel_rfl) (Or.inl ⟨by rfl, ?_⟩) (by assumption) ?_
    rotate_left
    · intro w hSw
      have hSw := hSd _ hSw
      (try dsimp only at hSw)
      go_simp <;> with_reducible rfl
    refine wpTo_tk (i := 7) (v := ?_) rfl (by kernel_rfl) (Or.inl ⟨by rfl, ?_⟩) (by assumption) ?_
    rotate_left
    · intro w hSw
      have hSw := hSd _ hSw
      (try dsimp only at hSw)
      go_simp <;> with_reducible rfl
    try simp only [Act.put, List.getElem_toArray, List.getElem_cons_zero, List.getElem_cons_succ, List.setIfInBounds_toArray, List.set_cons_zero, List.set_cons_succ]
    refine wpTo_inv (fun a0 listed ai wi => ∃ (b2 b4 b5 b8 b9 : Bool) (gU cU : Nat), listed = #[true, true, b2, true, b4, b5, true, true, b8, b9] ∧ ai = fillS b9 4 (.int .i64 (lowGram r us)) (fillS b8 23 (.int .i64 (lowGram r us)) (fillS b5 20 (.int .i64 (gramOf (itemsR r) us)) (fillS b4 19 (.agg #[.int .i64 (volOf (itemsR r) us), .int .i64 (gramOf (itemsR r) us)]) (fillS b2 17 (.slice (some ⟨gU, 0, none⟩) (unitsR r).length cU) (a0))))) ∧ Hid (Below u0.heap.size u0 wi) ∧ Hid (Tk b2 → Rd wi (some ⟨gU, 0, none⟩) (unitsR r).length (unitsR r)) ∧ Hid (Tk b4 → Tk b2) ∧ Hid (Tk b5 → Tk b2 ∧ Tk b4) ∧ Hid (Tk b8 → Tk b2 ∧ Tk b4 ∧ Tk b5) ∧ Hid (Tk b9 → Tk b2 ∧ Tk b4 ∧ Tk b5 ∧ Tk b8)) ⟨false, false, false, false, false, 0, 0, rfl, by simp only [fillS_false], (Below.refl _ _), (fun h => by cases h), (fun h => by cases h), (fun h => by cases h), (fun h => by cases h), (fun h => by cases h)⟩ ?hS ?hT ?step ?fin _ (by decide)
    case hS =>
      rintro listed ai wi ⟨b2, b4, b5, b8, b9, gU, cU, rfl, ha, FB, FU, FC4, FC5, FC8, FC9⟩ hTf
      exact hSmk wi (Blk.below ((unhide FB)) Zau0 (unhide Kau0)) (Blk.below ((unhide FB)) Ztu0 (unhide Ktu0))
    case hT =>
      exact fun _ _ _ _ f hf => by cases hf
    case step =>
      rintro listed ai wi i o ⟨b2, b4, b5, b8, b9, gU, cU, rfl, ha, FB, FU, FC4, FC5, FC8, FC9⟩ ho hl hall
      have hi : i < 10 := (Array.getElem?_eq_some_iff.1 ho).1
      obtain rfl | rfl | rfl | rfl | rfl | rfl | rfl | rfl | rfl | rfl : i = 0 ∨ i = 1 ∨ i = 2 ∨ i = 3 ∨ i = 4 ∨ i = 5 ∨ i = 6 ∨ i = 7 ∨ i = 8 ∨ i = 9 := by omega
      · exact absurd hl (by simp)
      · exact absurd hl (by simp)
      · obtain rfl := Option.some.inj ho
        obtain rfl : b2 = false := by simpa using hl
        obtain rfl : b4 = false := Tk_no (fun p => by have h8 := (unhide FC4) p; simp [Tk] at h8)
        obtain rfl : b5 = false := Tk_no (fun p => by have h8 := (unhide FC5) p; simp [Tk] at h8)
        obtain rfl : b8 = false := Tk_no (fun p => by have h8 := (unhide FC8) p; simp [Tk] at h8)
        obtain rfl : b9 = false := Tk_no (fun p => by have h8 := (unhide FC9) p; simp [Tk] at h8)
        clear ho hl hall hi
        simp only [fillS, pickS_true, pickS_false, Act.put, Array.getD_eq_getD_getElem?, List.getElem?_toArray, List.getElem?_cons_zero, List.getElem?_cons_succ, Option.getD_some, List.getElem_toArray, List.getElem_cons_zero, List.getElem_cons_succ, List.setIfInBounds_toArray, List.set_cons_zero, List.set_cons_succ] at ha
        subst ha
        refine wpOp_stepS (o := _) rfl (fun K hK => ?_)
        go_simp
        refine (l6Units_zero r h wi ((unhide HR).mono ((unhide Bu0).trans ((unhide FB).mono (unhide Bu0).size))) (unhide HZ)).mono ?_
        rintro e wz ⟨gUn, cUn, rfl, hgo, hb⟩
        go_wp2_with fail
        refine hK.out _ _ ?_
        exact ⟨true, false, false, false, false, gUn, cUn, rfl, by simp only [fillS, pickS_true, pickS_false, Act.put, Array.getD_eq_getD_getElem?, List.getElem?_toArray, List.getElem?_cons_zero, List.getElem?_cons_succ, Option.getD_some, List.getElem_toArray, List.getElem_cons_zero, List.getElem_cons_succ, List.setIfInBounds_toArray, List.set_cons_zero, List.set_cons_succ], (((unhide FB).trans (hb.mono (unhide FB).size))), (fun p2 => Rd.of_owns hgo), (fun p4 => (by cases p4)), (fun p5 => (by cases p5)), (fun p8 => (by cases p8)), (fun p9 => (by cases p9))⟩
      · exact absurd hl (by simp)
      · obtain rfl := Option.some.inj ho
        obtain rfl : b4 = false := by simpa using hl
        obtain rfl : b2 = true := by simpa using hall ⟨2, .data⟩ (by simp) rfl
        obtain rfl : b5 = false := Tk_no (fun p => by have h8 := (unhide FC5) p; simp [Tk] at h8)
        obtain rfl : b8 = false := Tk_no (fun p => by have h8 := (unhide FC8) p; simp [Tk] at h8)
        obtain rfl : b9 = false := Tk_no (fun p => by have h8 := (unhide FC9) p; simp [Tk] at h8)
        clear ho hl hall hi
        simp only [fillS, pickS_true, pickS_false, Act.put, Array.getD_eq_getD_getElem?, List.getElem?_toArray, List.getElem?_cons_zero, List.getElem?_cons_succ, Option.getD_some, List.getElem_toArray, List.getElem_cons_zero, List.getElem_cons_succ, List.setIfInBounds_toArray, List.set_cons_zero, List.set_cons_succ] at ha
        subst ha
        refine wpOp_stepS (o := _) rfl (fun K hK => ?_)
        go_simp
        refine (l7Of_any r h (some ⟨gU, 0, none⟩) _ cU a n c us wi ((unhide HR).mono ((unhide Bu0).trans ((unhide FB).mono (unhide Bu0).size))) ((unhide FU) rfl) ((unhide HU).mono ((unhide Bu0).trans ((unhide FB).mono (unhide Bu0).size))) (by omega)).mono ?_
        rintro e wz ⟨rfl, hb⟩
        go_wp2_with fail
        refine hK.out _ _ ?_
        exact ⟨true, true, false, false, false, gU, cU, rfl, by simp only [fillS, pickS_true, pickS_false, Act.put, Array.getD_eq_getD_getElem?, List.getElem?_toArray, List.getElem?_cons_zero, List.getElem?_cons_succ, Option.getD_some, List.getElem_toArray, List.getElem_cons_zero, List.getElem_cons_succ, List.setIfInBounds_toArray, List.set_cons_zero, List.set_cons_succ], (((unhide FB).trans (hb.mono (unhide FB).size))), (fun p2 => (Rd.mono (unhide FU p2) hb)), (fun p4 => rfl), (fun p5 => (by cases p5)), (fun p8 => (by cases p8)), (fun p9 => (by cases p9))⟩
      · obtain rfl := Option.some.inj ho
        obtain rfl : b5 = false := by simpa using hl
        obtain rfl : b4 = true := by simpa using hall ⟨4, .data⟩ (by simp) rfl
        obtain rfl := (unhide FC4) rfl
        obtain rfl : b8 = false := Tk_no (fun p => by have h8 := (unhide FC8) p; simp [Tk] at h8)
        obtain rfl : b9 = false := Tk_no (fun p => by have h8 := (unhide FC9) p; simp [Tk] at h8)
        clear ho hl hall hi
        simp only [fillS, pickS_true, pickS_false, Act.put, Array.getD_eq_getD_getElem?, List.getElem?_toArray, List.getElem?_cons_zero, List.getElem?_cons_succ, Option.getD_some, List.getElem_toArray, List.getElem_cons_zero, List.getElem_cons_succ, List.setIfInBounds_toArray, List.set_cons_zero, List.set_cons_succ] at ha
        subst ha
        refine wpOp_stepS (o := _) rfl (fun K hK => ?_)
        go_simp
        refine hK.out _ _ ?_
        exact ⟨true, true, true, false, false, gU, cU, rfl, by simp only [fillS, pickS_true, pickS_false, Act.put, Array.getD_eq_getD_getElem?, List.getElem?_toArray, List.getElem?_cons_zero, List.getElem?_cons_succ, Option.getD_some, List.getElem_toArray, List.getElem_cons_zero, List.getElem_cons_succ, List.setIfInBounds_toArray, List.set_cons_zero, List.set_cons_succ], ((unhide FB)), (fun p2 => (unhide FU p2)), (fun p4 => (unhide FC4 p4)), (fun p5 => ⟨rfl, rfl⟩), (fun p8 => (by cases p8)), (fun p9 => (by cases p9))⟩
      · exact absurd hl (by simp)
      · exact absurd hl (by simp)
      · obtain rfl := Option.some.inj ho
        obtain rfl : b8 = false := by simpa using hl
        obtain rfl : b5 = true := by simpa using hall ⟨5, .data⟩ (by simp) rfl
        obtain ⟨rfl, rfl⟩ := (unhide FC5) rfl
        obtain rfl : b9 = false := Tk_no (fun p => by have h8 := (unhide FC9) p; simp [Tk] at h8)
        clear ho hl hall hi
        simp only [fillS, pickS_true, pickS_false, Act.put, Array.getD_eq_getD_getElem?, List.getElem?_toArray, List.getElem?_cons_zero, List.getElem?_cons_succ, Option.getD_some, List.getElem_toArray, List.getElem_cons_zero, List.getElem_cons_succ, List.setIfInBounds_toArray, List.set_cons_zero, List.set_cons_succ] at ha
        subst ha
        refine wpOp_stepS (o := _) rfl (fun K hK => ?_)
        go_simp
        refine (l8Up_any (gramOf (itemsR r) us) (masterV r).gram wi (unhide HBD).1 (unhide HBD).2).mono ?_
        rintro e wz ⟨rfl, hwz⟩; rw [unhide HLOW]
        subst wz
        go_wp2_with fail
        refine hK.out _ _ ?_
        exact ⟨true, true, true, true, false, gU, cU, rfl, by simp only [fillS, pickS_true, pickS_false, Act.put, Array.getD_eq_getD_getElem?, List.getElem?_toArray, List.getElem?_cons_zero, List.getElem?_cons_succ, Option.getD_some, List.getElem_toArray, List.getElem_cons_zero, List.getElem_cons_succ, List.setIfInBounds_toArray, List.set_cons_zero, List.set_cons_succ], ((unhide FB)), (fun p2 => (unhide FU p2)), (fun p4 => (unhide FC4 p4)), (fun p5 => (unhide FC5 p5)), (fun p8 => ⟨rfl, rfl, rfl⟩), (fun p9 => (by cases p9))⟩
      · obtain rfl := Option.some.inj ho
        obtain rfl : b9 = false := by simpa using hl
        obtain rfl : b8 = true := by simpa using hall ⟨8, .data⟩ (by simp) rfl
        obtain ⟨rfl, rfl, rfl⟩ := (unhide FC8) rfl
        clear ho hl hall hi
        simp only [fillS, pickS_true, pickS_false, Act.put, Array.getD_eq_getD_getElem?, List.getElem?_toArray, List.getElem?_cons_zero, List.getElem?_cons_succ, Option.getD_some, List.getElem_toArray, List.getElem_cons_zero, List.getElem_cons_succ, List.setIfInBounds_toArray, List.set_cons_zero, List.set_cons_succ] at ha
        subst ha
        refine wpOp_stepS (o := _) rfl (fun K hK => ?_)
        go_simp
        refine hK.out _ _ ?_
        exact ⟨true, true, true, true, true, gU, cU, rfl, by simp only [fillS, pickS_true, pickS_false, Act.put, Array.getD_eq_getD_getElem?, List.getElem?_toArray, List.getElem?_cons_zero, List.getElem?_cons_succ, Option.getD_some, List.getElem_toArray, List.getElem_cons_zero, List.getElem_cons_succ, List.setIfInBounds_toArray, List.set_cons_zero, List.set_cons_succ], ((unhide FB)), (fun p2 => (unhide FU p2)), (fun p4 => (unhide FC4 p4)), (fun p5 => (unhide FC5 p5)), (fun p8 => (unhide FC8 p8)), (fun p9 => ⟨rfl, rfl, rfl, rfl⟩)⟩
    case fin =>
      rintro listed ai wi ⟨b2, b4, b5, b8, b9, gU, cU, rfl, ha, FB, FU, FC4, FC5, FC8, FC9⟩ hall
      obtain rfl : b2 = true := by
        have h9 := hall 2 _ rfl (by
          intro e he hbd
          simp at he
          subst he
          simp
          )
        simpa using h9
      obtain rfl : b4 = true := by
        have h9 := hall 4 _ rfl (by
          intro e he hbd
          simp at he
          rcases he with rfl | rfl | rfl | rfl <;> simp
          )
        simpa using h9
      obtain rfl : b5 = true := by
        have h9 := hall 5 _ rfl (by
          intro e he hbd
          simp at he
          subst he
          simp
          )
        simpa using h9
      obtain rfl : b8 = true := by
        have h9 := hall 8 _ rfl (by
          intro e he hbd
          simp at he
          rcases he with rfl | rfl | rfl <;> simp
          )
        simpa using h9
      obtain rfl : b9 = true := by
        have h9 := hall 9 _ rfl (by
          intro e he hbd
          simp at he
          rcases he with rfl | rfl | rfl | rfl | rfl | rfl | rfl | rfl | rfl | rfl | rfl <;> simp
          )
        simpa using h9
      clear hall
      simp only [fillS, pickS_true, pickS_false, Act.put, Array.getD_eq_getD_getElem?, List.getElem?_toArray, List.getElem?_cons_zero, List.getElem?_cons_succ, Option.getD_some, List.getElem_toArray, List.getElem_cons_zero, List.getElem_cons_succ, List.setIfInBounds_toArray, List.set_cons_zero, List.set_cons_succ] at ha
      subst ha
      refine NoPanic.normal ?_
      have Bwi := hide ((unhide Bu0).trans ((unhide FB).mono (unhide Bu0).size))
      have Kawi := hide (Blk.below (unhide FB) Zau0 (unhide Kau0))
      have Zawi := Nat.lt_of_lt_of_le Zau0 (unhide FB).size
      have Ktwi := hide (Blk.below (unhide FB) Ztu0 (unhide Ktu0))
      have Ztwi := Nat.lt_of_lt_of_le Ztu0 (unhide FB).size
      clear FB FU FC4 FC5 FC8 FC9
      go_wp2_with fail
      go_meet
      case rel => exact ⟨rfl, unhide Bwi⟩
  case rest =>
    obtain ⟨rfl, hb⟩ := hcut
    have HB := hide hb
    clear hb
    go_wp2
    go_ret
    exact ⟨rfl, unhide HB⟩
end Go.Proofs.YtdmaldjnjffnlaaGreatDoor
