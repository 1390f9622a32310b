/- NextFit of the model. -/
import Derived.Test.YtphdeojiehigpaaGreatDoorSpecNext
import Derived.Deep.DeepMust
import Derived.Deep.DeepCutAuto
import Derived.Deep.RegionHeld3
namespace Go.Proofs.YtphdeojiehigpaaGreatDoor
open Go Go.RowKit
set_option linter.unusedVariables false
set_option linter.unusedSimpArgs false

set_option maxRecDepth 100000 in
set_option maxHeartbeats 4000000 in
theorem specNextFit_any (r : ReqV) (h : ReqH) (a : Option Addr) (n c : Nat) (us : List Int) (w : World) (hr : RdReq w r h) (hs : r.small) (hu : Rd w a n us) (hn : n ≤ 1048576) :
    Calls Tryz.prog 97 #[reqVal r h, .slice a n c] w fun e w' => ∃ g cap rows, e = .returned (.slice (some ⟨g, 0, none⟩) (nextR r us).length cap) ∧ Own2 w' w.heap.size g cap rows ∧ rows.map RowV.l = nextR r us ∧ Below w.heap.size w w' := by
  have HR := hide hr
  have HU := hide hu
  have HKL : Hid ((knownL (itemsR r) us).length ≤ 1048576) := by have := knownL_len (itemsR r) us; have := hu.1; rw [Hid]; omega
  clear hr hu
  unfold reqVal
  go_enter Tryz.func97, Tryz.ntmps97
  go_wp2_with fail
  have BW : Hid (Below w.heap.size w (w.alloc (.cells #[.int .i64 r.way, .int .i64 r.pal.wd, .int .i64 r.pal.dp, .int .i64 r.pal.ht, .int .i64 r.pal.gram, .int .i64 r.classes, .slice h.ap r.pairs.length h.cp, .slice h.at' r.types.length h.ct, .int .i64 r.master, .slice h.ai r.items.length h.ci] 40))) := ((Below.refl _ _).alloc (by simp) _)
  have KaW : Hid (Blk (w.alloc (.cells #[.int .i64 r.way, .int .i64 r.pal.wd, .int .i64 r.pal.dp, .int .i64 r.pal.ht, .int .i64 r.pal.gram, .int .i64 r.classes, .slice h.ap r.pairs.length h.cp, .slice h.at' r.types.length h.ct, .int .i64 r.master, .slice h.ai r.items.length h.ci] 40)) w.heap.size [.int .i64 r.way, .int .i64 r.pal.wd, .int .i64 r.pal.dp, .int .i64 r.pal.ht, .int .i64 r.pal.gram, .int .i64 r.classes, .slice h.ap r.pairs.length h.cp, .slice h.at' r.types.length h.ct, .int .i64 r.master, .slice h.ai r.items.length h.ci]) := (Blk.allocAt (w := w) [.int .i64 r.way, .int .i64 r.pal.wd, .int .i64 r.pal.dp, .int .i64 r.pal.ht, .int .i64 r.pal.gram, .int .i64 r.classes, .slice h.ap r.pairs.length h.cp, .slice h.at' r.types.length h.ct, .int .i64 r.master, .slice h.ai r.items.length h.ci] (by simp))
  have ZaW : w.heap.size < (w.alloc (.cells #[.int .i64 r.way, .int .i64 r.pal.wd, .int .i64 r.pal.dp, .int .i64 r.pal.ht, .int .i64 r.pal.gram, .int .i64 r.classes, .slice h.ap r.pairs.length h.cp, .slice h.at' r.types.length h.ct, .int .i64 r.master, .slice h.ai r.items.length h.ci] 40)).heap.size := by simp
  have Ga : w.heap.size ≤ w.heap.size := by omega
  generalize (w.alloc (.cells #[.int .i64 r.way, .int .i64 r.pal.wd, .int .i64 r.pal.dp, .int .i64 r.pal.ht, .int .i64 r.pal.gram, .int .i64 r.classes, .slice h.ap r.pairs.length h.cp, .slice h.at' r.types.length h.ct, .int .i64 r.master, .slice h.ai r.items.length h.ci] 40)) = W at *
  refine (specClass_any r h _ ((unhide HR).mono (unhide BW)) hs).mono ?_
  rintro e v1 ⟨rfl, hb⟩
  have Bv1 := hide ((unhide BW).trans (hb.mono (unhide BW).size))
  have Kav1 := hide (Blk.below hb ZaW (unhide KaW))
  have Zav1 := Nat.lt_of_lt_of_le ZaW hb.size
  clear hb
  clear BW KaW ZaW
  by_cases hz : classI r = 0
  case neg =>
    have hne : (classI r != 0) = true := by simp [hz]
    have HE : Hid (nextR r us = []) := nextR_not hz us
    have HO := hide (own2_new v1 (unhide Bv1).size)
    have HB := hide ((unhide Bv1).alloc (unhide Bv1).size (.cells #[] 29))
    clear hz
    go_wp2
    go_ret
    rw [unhide HE]
    exact ⟨_, 0, [], rfl, unhide HO, rfl, unhide HB⟩
  have HZ := hide hz
  rw [hz]
  clear hz
  obtain ⟨ca0, ca1, ca2, ca3, ca4, ca5, ca6, ca7, ca8, ca9⟩ := Blk.cs10 (unhide Kav1)
  go_upto_region 3 with fail
  clear ca0 ca1 ca2 ca3 ca4 ca5 ca6 ca7 ca8 ca9
  go_cut [4] (fun v wc => ∃ go oc rows, v = .slice (some ⟨go, 0, none⟩) rows.length oc ∧ Own2 wc w.heap.size go oc rows ∧ rows.map RowV.l = nextR r us ∧ Below w.heap.size w wc)
  case first =>
    refine wp_region_noPanic ?_
    have Bu0 : Hid (Below w.heap.size w v1.drew) := (unhide Bv1).drew
    have Kau0 : Hid (Blk v1.drew w.heap.size [.int .i64 r.way, .int .i64 r.pal.wd, .int .i64 r.pal.dp, .int .i64 r.pal.ht, .int .i64 r.pal.gram, .int .i64 r.classes, .slice h.ap r.pairs.length h.cp, .slice h.at' r.types.length h.ct, .int .i64 r.master, .slice h.ai r.items.length h.ci]) := unhide Kav1
    have Zau0 : w.heap.size < v1.drew.heap.size := Zav1
    obtain ⟨S, hSdef⟩ : ∃ S : World → Prop, S = (fun w' => w'.cell? ⟨w.heap.size, 0, none⟩ = some (.int .i64 r.way) ∧ w'.cell? ⟨w.heap.size, 1, none⟩ = some (.int .i64 r.pal.wd) ∧ w'.cell? ⟨w.heap.size, 2, none⟩ = some (.int .i64 r.pal.dp) ∧ w'.cell? ⟨w.heap.size, 3, none⟩ = some (.int .i64 r.pal.ht) ∧ w'.cell? ⟨w.heap.size, 4, none⟩ = some (.int .i64 r.pal.gram) ∧ w'.cell? ⟨w.heap.size, 5, none⟩ = some (.int .i64 r.classes) ∧ w'.cell? ⟨w.heap.size, 6, none⟩ = some (.slice h.ap r.pairs.length h.cp) ∧ w'.cell? ⟨w.heap.size, 7, none⟩ = some (.slice h.at' r.types.length h.ct) ∧ w'.cell? ⟨w.heap.size, 8, none⟩ = some (.int .i64 r.master) ∧ w'.cell? ⟨w.heap.size, 9, none⟩ = some (.slice h.ai r.items.length h.ci)) := ⟨_, rfl⟩
    have hSmk : ∀ wq, Blk wq w.heap.size [.int .i64 r.way, .int .i64 r.pal.wd, .int .i64 r.pal.dp, .int .i64 r.pal.ht, .int .i64 r.pal.gram, .int .i64 r.classes, .slice h.ap r.pairs.length h.cp, .slice h.at' r.types.length h.ct, .int .i64 r.master, .slice h.ai r.items.length h.ci] → S wq := fun wq ka => by rw [hSdef]; exact ⟨(ka 0 (by simp)).1, (ka 1 (by simp)).1, (ka 2 (by simp)).1, (ka 3 (by simp)).1, (ka 4 (by simp)).1, (ka 5 (by simp)).1, (ka 6 (by simp)).1, (ka 7 (by simp)).1, (ka 8 (by simp)).1, (ka 9 (by simp)).1⟩
    have hSd : ∀ wq, S wq → (fun w' => w'.cell? ⟨w.heap.size, 0, none⟩ = some (.int .i64 r.way) ∧ w'.cell? ⟨w.heap.size, 1, none⟩ = some (.int .i64 r.pal.wd) ∧ w'.cell? ⟨w.heap.size, 2, none⟩ = some (.int .i64 r.pal.dp) ∧ w'.cell? ⟨w.heap.size, 3, none⟩ = some (.int .i64 r.pal.ht) ∧ w'.cell? ⟨w.heap.size, 4, none⟩ = some (.int .i64 r.pal.gram) ∧ w'.cell? ⟨w.heap.size, 5, none⟩ = some (.int .i64 r.classes) ∧ w'.cell? ⟨w.heap.size, 6, none⟩ = some (.slice h.ap r.pairs.length h.cp) ∧ w'.cell? ⟨w.heap.size, 7, none⟩ = some (.slice h.at' r.types.length h.ct) ∧ w'.cell? ⟨w.heap.size, 8, none⟩ = some (.int .i64 r.master) ∧ w'.cell? ⟨w.heap.size, 9, none⟩ = some (.slice h.ai r.items.length h.ci)) wq := fun wq h => by rw [hSdef] at h; exact h
    clear hSdef
    have hHeld : S v1.drew := hSmk v1.drew (unhide Kau0)
    refine wp_region_to (S := S) (T := []) (by kernel_rfl) hHeld (fun _ => ?_)
    generalize v1.drew = u0 at *
    refine wpTo_tk (i := 0) (v := ?_) rfl (by kernel_rfl) (Or.inl ⟨by rfl, ?_⟩) (by assumption) ?_
    rotate_left
    · intro w hSw
      have hSw := hSd _ hSw
      (try dsimp only at hSw)
      go_simp <;> with_reducible rfl
    refine wpTo_tk (i := 1) (v := ?_) rfl (by kernel_rfl) (Or.inl ⟨by rfl, ?_⟩) (by assumption) ?_
    rotate_left
    · intro w hSw
      have hSw := hSd _ hSw
      (try dsimp only at hSw)
      go_simp <;> with_reducible rfl
    refine wpTo_tk (i := 3) (v := ?_) rfl (by kernel_rfl) (Or.inl ⟨by rfl, ?_⟩) (by assumption) ?_
    rotate_left
    · intro w hSw
      have hSw := hSd _ hSw
      (try dsimp only at hSw)
      go_simp <;> with_reducible rfl
    try simp only [Act.put, List.getElem_toArray, List.getElem_cons_zero, List.getElem_cons_succ, List.setIfInBounds_toArray, List.set_cons_zero, List.set_cons_succ]
    refine wpTo_ready (rs := [2]) (by kernel_rfl) (by simp) ?_
    refine AllTo.cons (o := _) rfl (fun K hK => ?_) ?_
    ·
     (try simp only [List.getElem_toArray, List.getElem_cons_zero, List.getElem_cons_succ])
     go_simp
     refine (l6Units_zero r h u0 ((unhide HR).mono (unhide Bu0)) (unhide HZ)).mono ?_
     rintro e u2 ⟨ug, uc, rfl, hgo, hb⟩
     have Bu2 := hide ((unhide Bu0).trans (hb.mono (unhide Bu0).size))
     have Kau2 := hide (Blk.below hb Zau0 (unhide Kau0))
     have Zau2 := Nat.lt_of_lt_of_le Zau0 hb.size
     clear hgo
     clear hb
     clear Bu0 Kau0 Zau0
     clear hHeld
     go_wp2_with fail
     have hHeld := hSmk u2 (unhide Kau2)
     refine hK.out _ _ (fun _ => hHeld) ?_
     clear hK K
     try simp only [Act.put, List.getElem_toArray, List.getElem_cons_zero, List.getElem_cons_succ, List.setIfInBounds_toArray, List.set_cons_zero, List.set_cons_succ]
     refine wpTo_ready (rs := [4]) (by kernel_rfl) (by simp) ?_
     refine AllTo.cons (o := _) rfl (fun K hK => ?_) ?_
     ·
      (try simp only [List.getElem_toArray, List.getElem_cons_zero, List.getElem_cons_succ])
      go_simp
      refine (l7Known_any (itemsR r) (some ⟨ug, 0, none⟩) (unitsR r).length uc a n c us u2 rfl (by have := unitsR_len r; omega) ((unhide HU).mono (unhide Bu2)) (by omega)).mono ?_
      rintro e u3 ⟨tg, tc, rfl, hto, hb⟩
      have Bu3 := hide ((unhide Bu2).trans (hb.mono (unhide Bu2).size))
      have Kau3 := hide (Blk.below hb Zau2 (unhide Kau2))
      have Zau3 := Nat.lt_of_lt_of_le Zau2 hb.size
      have QTu3 : Hid (Rd u3 (some ⟨tg, 0, none⟩) (knownL (itemsR r) us).length (knownL (itemsR r) us)) := Rd.of_owns hto
      have HTC := hide (own_cap hto).1
      clear hto
      clear hb
      clear Bu2 Kau2 Zau2
      clear hHeld
      go_wp2_with fail
      have hHeld := hSmk u3 (unhide Kau3)
      refine hK.out _ _ (fun _ => hHeld) ?_
      clear hK K
      try simp only [Act.put, List.getElem_toArray, List.getElem_cons_zero, List.getElem_cons_succ, List.setIfInBounds_toArray, List.set_cons_zero, List.set_cons_succ]
      refine wpTo_ready (rs := [5]) (by kernel_rfl) (by simp) ?_
      refine AllTo.cons (o := _) rfl (fun K hK => ?_) ?_
      ·
       (try simp only [List.getElem_toArray, List.getElem_cons_zero, List.getElem_cons_succ])
       go_simp
       refine (l7Next_any r h (some ⟨tg, 0, none⟩) (knownL (itemsR r) us).length tc (knownL (itemsR r) us) u3 ((unhide HR).mono (unhide Bu3)) hs (unhide HZ) (unhide QTu3) (unhide HKL)).mono ?_
       rintro e u4 ⟨go, oc, rows, rfl, how, hrw, hb⟩
       have Bu4 := hide ((unhide Bu3).trans (hb.mono (unhide Bu3).size))
       have Kau4 := hide (Blk.below hb Zau3 (unhide Kau3))
       have Zau4 := Nat.lt_of_lt_of_le Zau3 hb.size
       have HO := hide (how.low (unhide Bu3).size)
       have HRW : Hid (rows.map RowV.l = nextR r us) := hrw
       clear how hrw
       clear hb
       clear Bu3 Kau3 Zau3
       clear hHeld
       go_wp2_with fail
       have hHeld := hSmk u4 (unhide Kau4)
       refine hK.out _ _ (fun _ => hHeld) ?_
       clear hK K
       try simp only [Act.put, List.getElem_toArray, List.getElem_cons_zero, List.getElem_cons_succ, List.setIfInBounds_toArray, List.set_cons_zero, List.set_cons_succ]
       refine wpTo_tk (i := 6) (v := ?_) rfl (by kernel_rfl) (Or.inl ⟨by rfl, ?_⟩) (by assumption) ?_
       rotate_left
       · intro w hSw
         have hSw := hSd _ hSw
         (try dsimp only at hSw)
         go_simp <;> with_reducible rfl
       try simp only [Act.put, List.getElem_toArray, List.getElem_cons_zero, List.getElem_cons_succ, List.setIfInBounds_toArray, List.set_cons_zero, List.set_cons_succ]
       refine wpTo_done (by kernel_rfl) ?_ _
       refine NoPanic.normal ?_
       go_wp2_with fail
       go_meet
       case rel => exact ⟨go, oc, rows, rfl, unhide HO, unhide HRW, unhide Bu4⟩
      exact AllTo.nil
     exact AllTo.nil
    exact AllTo.nil
  case rest =>
    obtain ⟨go, oc, rows, rfl, ho, hx, hb⟩ := hcut
    have HO := hide ho
    have HX := hide hx
    have HB := hide hb
    have HL : Hid (rows.length = (nextR r us).length) := by rw [Hid, ← hx, List.length_map]
    clear ho hx hb
    go_wp2
    go_ret
    exact ⟨go, oc, rows, by rw [← unhide HL]; rfl, unhide HO, unhide HX, unhide HB⟩
end Go.Proofs.YtphdeojiehigpaaGreatDoor
