/- Lower bounds of the program. -/
import Derived.Test.YtdmaldjnjffnlaaGreatDoorLowPlain
import Derived.Test.YtdmaldjnjffnlaaGreatDoorPackerOf
import Derived.Test.YtdmaldjnjffnlaaGreatDoorNextImpl
import Derived.Test.YtdmaldjnjffnlaaGreatDoorVolOf
import Derived.Test.YtdmaldjnjffnlaaGreatDoorInvR
import Derived.Deep.DeepMust
import Derived.Deep.DeepCutAuto
import Derived.Deep.RegionHeld3
namespace Go.Proofs.YtdmaldjnjffnlaaGreatDoor
open Go Go.RowKit
set_option linter.unusedVariables false
set_option linter.unusedSimpArgs false

theorem roundedUp_any (n b : Int) (w : World) (hn : 0 ≤ n ∧ n ≤ 8388800000000000) (hb : 1 ≤ b ∧ b ≤ 8000000000) :
    Calls Tryz.prog 57 #[.int .i64 n, .int .i64 b] w fun e w' => e = .returned (.int .i64 (ceilI n b)) ∧ w' = w := by
  go_enter Tryz.func57, Tryz.ntmps57
  go_wp2
  go_ret
  exact ⟨rfl, rfl⟩
set_option maxRecDepth 100000 in
set_option maxHeartbeats 4000000 in
theorem lowerVolume_any (r : ReqV) (h : ReqH) (a : Option Addr) (n c : Nat) (us : List Int) (w : World) (hr : RdReq w r h) (hs : r.small) (hg : ErrT w) (hu : Rd w a n us) (hn : n ≤ 1048576) :
    Calls Tryz.prog 24 #[reqVal r h, .slice a n c] w fun e w' => e = .returned (.int .i64 (lowVol r us)) ∧ Below w.heap.size w w' := by
  have htl : r.types.length ≤ 1048600 := by unfold ReqV.small at hs; omega
  have HR := hide hr
  have HU := hide hu
  have hul := hu.1
  clear hr hu
  have HG := hide hg
  clear hg
  unfold reqVal
  go_enter Tryz.func24, Tryz.ntmps24
  go_wp2_with fail
  have BW : Hid (Below w.heap.size w (w.alloc (.cells #[.int .i64 r.way, .int .i64 r.pal.wd, .int .i64 r.pal.dp, .int .i64 r.pal.ht, .int .i64 r.pal.gram, .int .i64 r.classes, .slice h.ap r.pairs.length h.cp, .slice h.at' r.types.length h.ct, .int .i64 r.master, .slice h.ai r.items.length h.ci] 38))) := ((Below.refl _ _).alloc (by simp) _)
  have KaW : Hid (Blk (w.alloc (.cells #[.int .i64 r.way, .int .i64 r.pal.wd, .int .i64 r.pal.dp, .int .i64 r.pal.ht, .int .i64 r.pal.gram, .int .i64 r.classes, .slice h.ap r.pairs.length h.cp, .slice h.at' r.types.length h.ct, .int .i64 r.master, .slice h.ai r.items.length h.ci] 38)) w.heap.size [.int .i64 r.way, .int .i64 r.pal.wd, .int .i64 r.pal.dp, .int .i64 r.pal.ht, .int .i64 r.pal.gram, .int .i64 r.classes, .slice h.ap r.pairs.length h.cp, .slice h.at' r.types.length h.ct, .int .i64 r.master, .slice h.ai r.items.length h.ci]) := (Blk.allocAt (w := w) [.int .i64 r.way, .int .i64 r.pal.wd, .int .i64 r.pal.dp, .int .i64 r.pal.ht, .int .i64 r.pal.gram, .int .i64 r.classes, .slice h.ap r.pairs.length h.cp, .slice h.at' r.types.length h.ct, .int .i64 r.master, .slice h.ai r.items.length h.ci] (by simp))
  have ZaW : w.heap.size < (w.alloc (.cells #[.int .i64 r.way, .int .i64 r.pal.wd, .int .i64 r.pal.dp, .int .i64 r.pal.ht, .int .i64 r.pal.gram, .int .i64 r.classes, .slice h.ap r.pairs.length h.cp, .slice h.at' r.types.length h.ct, .int .i64 r.master, .slice h.ai r.items.length h.ci] 38)).heap.size := by simp
  have Ga : w.heap.size ≤ w.heap.size := by omega
  generalize (w.alloc (.cells #[.int .i64 r.way, .int .i64 r.pal.wd, .int .i64 r.pal.dp, .int .i64 r.pal.ht, .int .i64 r.pal.gram, .int .i64 r.classes, .slice h.ap r.pairs.length h.cp, .slice h.at' r.types.length h.ct, .int .i64 r.master, .slice h.ai r.items.length h.ci] 38)) = W at *
  refine (class_any r h _ ((unhide HR).mono (unhide BW)) hs ((unhide HG).later (unhide BW))).mono ?_
  rintro e v1 ⟨rfl, hb⟩
  have Bv1 := hide ((unhide BW).trans (hb.mono (unhide BW).size))
  have Kav1 := hide (Blk.below hb ZaW (unhide KaW))
  have Zav1 := Nat.lt_of_lt_of_le ZaW hb.size
  clear hb
  clear BW KaW ZaW
  by_cases hz : classI r = 0
  case neg =>
    have hne : (classI r != 0) = true := by simp [hz]
    have HE : Hid (lowVol r us = 0) := by simp [Hid, lowVol, hz]
    clear hz
    go_wp2
    go_ret
    exact ⟨ret_intF (unhide HE).symm, unhide Bv1⟩
  have HLOW : Hid (ceilI (volOf (itemsR r) us) (vol (masterV r).wd (masterV r).ht (masterV r).dp) = lowVol r us) := by simp [Hid, lowVol, hz, mostV]
  have HBD : Hid ((0 ≤ volOf (itemsR r) us ∧ volOf (itemsR r) us ≤ 8388800000000000) ∧ 1 ≤ (vol (masterV r).wd (masterV r).ht (masterV r).dp) ∧ (vol (masterV r).wd (masterV r).ht (masterV r).dp) ≤ 8000000000) := by
    have h1 := volOf_bd (itemsR r) us 1048576 (by omega)
    have h2 := most_pos hz
    simp only [mostV] at h2
    exact ⟨by omega, by omega⟩
  rw [hz]
  clear hz
  obtain ⟨ca0, ca1, ca2, ca3, ca4, ca5, ca6, ca7, ca8, ca9⟩ := Blk.cs10 (unhide Kav1)
  go_upto_region 3 with fail
  clear ca0 ca1 ca2 ca3 ca4 ca5 ca6 ca7 ca8 ca9
  go_cut [4] (fun v wc => v = .int .i64 (lowVol r us) ∧ Below w.heap.size w wc)
  case first =>
    refine wp_region_noPanic ?_
    have Bu0 : Hid (Below w.heap.size w v1.drew) := (unhide Bv1).drew
    have Kau0 : Hid (Blk v1.drew w.heap.size [.int .i64 r.way, .int .i64 r.pal.wd, .int .i64 r.pal.dp, .int .i64 r.pal.ht, .int .i64 r.pal.gram, .int .i64 r.classes, .slice h.ap r.pairs.length h.cp, .slice h.at' r.types.length h.ct, .int .i64 r.master, .slice h.ai r.items.length h.ci]) := unhide Kav1
    have Zau0 : w.heap.size < v1.drew.heap.size := Zav1
    obtain ⟨S, hSdef⟩ : ∃ S : World → Prop, S = (fun w' => w'.cell? ⟨w.heap.size, 0, none⟩ = some (.int .i64 r.way) ∧ w'.cell? ⟨w.heap.size, 1, none⟩ = some (.int .i64 r.pal.wd) ∧ w'.cell? ⟨w.heap.size, 2, none⟩ = some (.int .i64 r.pal.dp) ∧ w'.cell? ⟨w.heap.size, 3, none⟩ = some (.int .i64 r.pal.ht) ∧ w'.cell? ⟨w.heap.size, 4, none⟩ = some (.int .i64 r.pal.gram) ∧ w'.cell? ⟨w.heap.size, 5, none⟩ = some (.int .i64 r.classes) ∧ w'.cell? ⟨w.heap.size, 6, none⟩ = some (.slice h.ap r.pairs.length h.cp) ∧ w'.cell? ⟨w.heap.size, 7, none⟩ = some (.slice h.at' r.types.length h.ct) ∧ w'.cell? ⟨w.heap.size, 8, none⟩ = some (.int .i64 r.master) ∧ w'.cell? ⟨w.heap.size, 9, none⟩ = some (.slice h.ai r.items.length h.ci)) := ⟨_, rfl⟩
    have hSmk : ∀ wq, Blk wq w.heap.size [.int .i64 r.way, .int .i64 r.pal.wd, .int .i64 r.pal.dp, .int .i64 r.pal.ht, .int .i64 r.pal.gram, .int .i64 r.classes, .slice h.ap r.pairs.length h.cp, .slice h.at' r.types.length h.ct, .int .i64 r.master, .slice h.ai r.items.length h.ci] → S wq := fun wq ka => by rw [hSdef]; exact ⟨(ka 0 (by simp)).1, (ka 1 (by simp)).1, (ka 2 (by simp)).1, (ka 3 (by simp)).1, (ka 4 (by simp)).1, (ka 5 (by simp)).1, (ka 6 (by simp)).1, (ka 7 (by simp)).1, (ka 8 (by simp)).1, (ka 9 (by simp)).1⟩
    have hSd : ∀ wq, S wq → (fun w' => w'.cell? ⟨w.heap.size, 0, none⟩ = some (.int .i64 r.way) ∧ w'.cell? ⟨w.heap.size, 1, none⟩ = some (.int .i64 r.pal.wd) ∧ w'.cell? ⟨w.heap.size, 2, none⟩ = some (.int .i64 r.pal.dp) ∧ w'.cell? ⟨w.heap.size, 3, none⟩ = some (.int .i64 r.pal.ht) ∧ w'.cell? ⟨w.heap.size, 4, none⟩ = some (.int .i64 r.pal.gram) ∧ w'.cell? ⟨w.heap.size, 5, none⟩ = some (.int .i64 r.classes) ∧ w'.cell? ⟨w.heap.size, 6, none⟩ = some (.slice h.ap r.pairs.length h.cp) ∧ w'.cell? ⟨w.heap.size, 7, none⟩ = some (.slice h.at' r.types.length h.ct) ∧ w'.cell? ⟨w.heap.size, 8, none⟩ = some (.int .i64 r.master) ∧ w'.cell? ⟨w.heap.size, 9, none⟩ = some (.slice h.ai r.items.length h.ci)) wq := fun wq h => by rw [hSdef] at h; exact h
    clear hSdef
    have hHeld : S v1.drew := hSmk v1.drew (unhide Kau0)
    refine wp_region_to (S := S) (T := []) (by kernel_rfl) hHeld (fun _ => ?_)
    generalize v1.drew = u0 at *
    refine wpTo_tk (i := 0) (v := ?_) rfl (by kernel_rfl) (Or.inl ⟨by rfl, ?_⟩) (by assumption) ?_
    rotate_left
    · intro w hSw
      have hSw := hSd _ hSw
      (try dsimp only at hSw)
      go_simp <;> with_reducible rfl
    refine wpTo_tk (i := 1) (v := ?_) rfl (by kernel_rfl) (Or.inl ⟨by rfl, ?_⟩) (by assumption) ?_
    rotate_left
    · intro w hSw
      have hSw := hSd _ hSw
      (try dsimp only at hSw)
      go_simp <;> with_reducible rfl
    refine wpTo_tk (i := 3) (v := ?_) rfl (by kernel_rfl) (Or.inl ⟨by rfl, ?_⟩) (by assumption) ?_
    rotate_left
    · intro w hSw
      have hSw := hSd _ hSw
      (try dsimp only at hSw)
      go_simp <;> with_reducible rfl
    try simp only [Act.put, List.getElem_toArray, List.getElem_cons_zero, List.getElem_cons_succ, List.setIfInBounds_toArray, List.set_cons_zero, List.set_cons_succ]
    try simp only [Act.put, List.getElem_toArray, List.getElem_cons_zero, List.getElem_cons_succ, List.setIfInBounds_toArray, List.set_cons_zero, List.set_cons_succ]
    refine wpTo_inv (fun a0 listed ai wi => ∃ (b2 b4 b5 b6 b7 : Bool), listed = #[true, true, b2, true, b4, b5, b6, b7] ∧ ai = fillS b7 4 (.int .i64 (lowVol r us)) (fillS b6 14 (.int .i64 (lowVol r us)) (fillS b5 13 (.int .i64 (vol (masterV r).wd (masterV r).ht (masterV r).dp)) (fillS b4 12 (.agg #[.int .i64 (vol (masterV r).wd (masterV r).ht (masterV r).dp), .int .i64 (masterV r).gram]) (fillS b2 10 (.int .i64 (volOf (itemsR r) us)) (a0))))) ∧ Hid (Below u0.heap.size u0 wi) ∧ Hid (Tk b4 → Tk b2) ∧ Hid (Tk b5 → Tk b2 ∧ Tk b4) ∧ Hid (Tk b6 → Tk b2 ∧ Tk b4 ∧ Tk b5) ∧ Hid (Tk b7 → Tk b2 ∧ Tk b4 ∧ Tk b5 ∧ Tk b6)) ⟨false, false, false, false, false, rfl, by simp only [fillS_false], (Below.refl _ _), (fun h => by cases h), (fun h => by cases h), (fun h => by cases h), (fun h => by cases h)⟩ ?hS ?hT ?step ?fin _ (by decide)
    case hS =>
      rintro listed ai wi ⟨b2, b4, b5, b6, b7, rfl, ha, FB, FC4, FC5, FC6, FC7⟩ hTf
      exact hSmk wi (Blk.below ((unhide FB)) Zau0 (unhide Kau0))
    case hT =>
      exact fun _ _ _ _ f hf => by cases hf
    case step =>
      rintro listed ai wi i o ⟨b2, b4, b5, b6, b7, rfl, ha, FB, FC4, FC5, FC6, FC7⟩ ho hl hall
      have hi : i < 8 := (Array.getElem?_eq_some_iff.1 ho).1
      obtain rfl | rfl | rfl | rfl | rfl | rfl | rfl | rfl : i = 0 ∨ i = 1 ∨ i = 2 ∨ i = 3 ∨ i = 4 ∨ i = 5 ∨ i = 6 ∨ i = 7 := by omega
      · exact absurd hl (by simp)
      · exact absurd hl (by simp)
      · obtain rfl := Option.some.inj ho
        obtain rfl : b2 = false := by simpa using hl
        obtain rfl : b4 = false := Tk_no (fun p => by have h8 := (unhide FC4) p; simp [Tk] at h8)
        obtain rfl : b5 = false := Tk_no (fun p => by have h8 := (unhide FC5) p; simp [Tk] at h8)
        obtain rfl : b6 = false := Tk_no (fun p => by have h8 := (unhide FC6) p; simp [Tk] at h8)
        obtain rfl : b7 = false := Tk_no (fun p => by have h8 := (unhide FC7) p; simp [Tk] at h8)
        clear ho hl hall hi
        simp only [fillS, pickS_true, pickS_false, Act.put, Array.getD_eq_getD_getElem?, List.getElem?_toArray, List.getElem?_cons_zero, List.getElem?_cons_succ, Option.getD_some, List.getElem_toArray, List.getElem_cons_zero, List.getElem_cons_succ, List.setIfInBounds_toArray, List.set_cons_zero, List.set_cons_succ] at ha
        subst ha
        refine wpOp_stepS (o := _) rfl (fun K hK => ?_)
        go_simp
        refine (volumeOf_any r h _ _ _ us wi ((unhide HR).mono ((unhide Bu0).trans ((unhide FB).mono (unhide Bu0).size))) hs ((unhide HG).later ((unhide Bu0).trans ((unhide FB).mono (unhide Bu0).size))) ((unhide HU).mono ((unhide Bu0).trans ((unhide FB).mono (unhide Bu0).size))) (by omega)).mono ?_
        rintro e wz ⟨rfl, hb⟩
        go_wp2_with fail
        refine hK.out _ _ ?_
        exact ⟨true, false, false, false, false, rfl, by simp only [fillS, pickS_true, pickS_false, Act.put, Array.getD_eq_getD_getElem?, List.getElem?_toArray, List.getElem?_cons_zero, List.getElem?_cons_succ, Option.getD_some, List.getElem_toArray, List.getElem_cons_zero, List.getElem_cons_succ, List.setIfInBounds_toArray, List.set_cons_zero, List.set_cons_succ], (((unhide FB).trans (hb.mono (unhide FB).size))), (fun p4 => (by cases p4)), (fun p5 => (by cases p5)), (fun p6 => (by cases p6)), (fun p7 => (by cases p7))⟩
      · exact absurd hl (by simp)
      · obtain rfl := Option.some.inj ho
        obtain rfl : b4 = false := by simpa using hl
        obtain rfl : b2 = true := by simpa using hall ⟨2, .chain⟩ (by simp) rfl
        obtain rfl : b5 = false := Tk_no (fun p => by have h8 := (unhide FC5) p; simp [Tk] at h8)
        obtain rfl : b6 = false := Tk_no (fun p => by have h8 := (unhide FC6) p; simp [Tk] at h8)
        obtain rfl : b7 = false := Tk_no (fun p => by have h8 := (unhide FC7) p; simp [Tk] at h8)
        clear ho hl hall hi
        simp only [fillS, pickS_true, pickS_false, Act.put, Array.getD_eq_getD_getElem?, List.getElem?_toArray, List.getElem?_cons_zero, List.getElem?_cons_succ, Option.getD_some, List.getElem_toArray, List.getElem_cons_zero, List.getElem_cons_succ, List.setIfInBounds_toArray, List.set_cons_zero, List.set_cons_succ] at ha
        subst ha
        refine wpOp_stepS (o := _) rfl (fun K hK => ?_)
        go_simp
        refine (masterMost_any r h wi ((unhide HR).mono ((unhide Bu0).trans ((unhide FB).mono (unhide Bu0).size))) htl).mono ?_
        rintro e wz ⟨rfl, hb⟩
        go_wp2_with fail
        refine hK.out _ _ ?_
        exact ⟨true, true, false, false, false, rfl, by simp only [fillS, pickS_true, pickS_false, Act.put, Array.getD_eq_getD_getElem?, List.getElem?_toArray, List.getElem?_cons_zero, List.getElem?_cons_succ, Option.getD_some, List.getElem_toArray, List.getElem_cons_zero, List.getElem_cons_succ, List.setIfInBounds_toArray, List.set_cons_zero, List.set_cons_succ], (((unhide FB).trans (hb.mono (unhide FB).size))), (fun p4 => rfl), (fun p5 => (by cases p5)), (fun p6 => (by cases p6)), (fun p7 => (by cases p7))⟩
      · obtain rfl := Option.some.inj ho
        obtain rfl : b5 = false := by simpa using hl
        obtain rfl : b4 = true := by simpa using hall ⟨4, .data⟩ (by simp) rfl
        obtain rfl := (unhide FC4) rfl
        obtain rfl : b6 = false := Tk_no (fun p => by have h8 := (unhide FC6) p; simp [Tk] at h8)
        obtain rfl : b7 = false := Tk_no (fun p => by have h8 := (unhide FC7) p; simp [Tk] at h8)
        clear ho hl hall hi
        simp only [fillS, pickS_true, pickS_false, Act.put, Array.getD_eq_getD_getElem?, List.getElem?_toArray, List.getElem?_cons_zero, List.getElem?_cons_succ, Option.getD_some, List.getElem_toArray, List.getElem_cons_zero, List.getElem_cons_succ, List.setIfInBounds_toArray, List.set_cons_zero, List.set_cons_succ] at ha
        subst ha
        refine wpOp_stepS (o := _) rfl (fun K hK => ?_)
        go_simp
        refine hK.out _ _ ?_
        exact ⟨true, true, true, false, false, rfl, by simp only [fillS, pickS_true, pickS_false, Act.put, Array.getD_eq_getD_getElem?, List.getElem?_toArray, List.getElem?_cons_zero, List.getElem?_cons_succ, Option.getD_some, List.getElem_toArray, List.getElem_cons_zero, List.getElem_cons_succ, List.setIfInBounds_toArray, List.set_cons_zero, List.set_cons_succ], ((unhide FB)), (fun p4 => (unhide FC4 p4)), (fun p5 => ⟨rfl, rfl⟩), (fun p6 => (by cases p6)), (fun p7 => (by cases p7))⟩
      · obtain rfl := Option.some.inj ho
        obtain rfl : b6 = false := by simpa using hl
        obtain rfl : b2 = true := by simpa using hall ⟨2, .data⟩ (by simp) rfl
        obtain rfl : b5 = true := by simpa using hall ⟨5, .data⟩ (by simp) rfl
        obtain ⟨_, rfl⟩ := (unhide FC5) rfl
        obtain rfl : b7 = false := Tk_no (fun p => by have h8 := (unhide FC7) p; simp [Tk] at h8)
        clear ho hl hall hi
        simp only [fillS, pickS_true, pickS_false, Act.put, Array.getD_eq_getD_getElem?, List.getElem?_toArray, List.getElem?_cons_zero, List.getElem?_cons_succ, Option.getD_some, List.getElem_toArray, List.getElem_cons_zero, List.getElem_cons_succ, List.setIfInBounds_toArray, List.set_cons_zero, List.set_cons_succ] at ha
        subst ha
        refine wpOp_stepS (o := _) rfl (fun K hK => ?_)
        go_simp
        refine (roundedUp_any (volOf (itemsR r) us) (vol (masterV r).wd (masterV r).ht (masterV r).dp) wi (unhide HBD).1 (unhide HBD).2).mono ?_
        rintro e wz ⟨rfl, hwz⟩; rw [unhide HLOW]
        subst wz
        go_wp2_with fail
        refine hK.out _ _ ?_
        exact ⟨true, true, true, true, false, rfl, by simp only [fillS, pickS_true, pickS_false, Act.put, Array.getD_eq_getD_getElem?, List.getElem?_toArray, List.getElem?_cons_zero, List.getElem?_cons_succ, Option.getD_some, List.getElem_toArray, List.getElem_cons_zero, List.getElem_cons_succ, List.setIfInBounds_toArray, List.set_cons_zero, List.set_cons_succ], ((unhide FB)), (fun p4 => (unhide FC4 p4)), (fun p5 => (unhide FC5 p5)), (fun p6 => ⟨rfl, rfl, rfl⟩), (fun p7 => (by cases p7))⟩
      · obtain rfl := Option.some.inj ho
        obtain rfl : b7 = false := by simpa using hl
        obtain rfl : b6 = true := by simpa using hall ⟨6, .data⟩ (by simp) rfl
        obtain ⟨rfl, rfl, rfl⟩ := (unhide FC6) rfl
        clear ho hl hall hi
        simp only [fillS, pickS_true, pickS_false, Act.put, Array.getD_eq_getD_getElem?, List.getElem?_toArray, List.getElem?_cons_zero, List.getElem?_cons_succ, Option.getD_some, List.getElem_toArray, List.getElem_cons_zero, List.getElem_cons_succ, List.setIfInBounds_toArray, List.set_cons_zero, List.set_cons_succ] at ha
        subst ha
        refine wpOp_stepS (o := _) rfl (fun K hK => ?_)
        go_simp
        refine hK.out _ _ ?_
        exact ⟨true, true, true, true, true, rfl, by simp only [fillS, pickS_true, pickS_false, Act.put, Array.getD_eq_getD_getElem?, List.getElem?_toArray, List.getElem?_cons_zero, List.getElem?_cons_succ, Option.getD_some, List.getElem_toArray, List.getElem_cons_zero, List.getElem_cons_succ, List.setIfInBounds_toArray, List.set_cons_zero, List.set_cons_succ], ((unhide FB)), (fun p4 => (unhide FC4 p4)), (fun p5 => (unhide FC5 p5)), (fun p6 => (unhide FC6 p6)), (fun p7 => ⟨rfl, rfl, rfl, rfl⟩)⟩
    case fin =>
      rintro listed ai wi ⟨b2, b4, b5, b6, b7, rfl, ha, FB, FC4, FC5, FC6, FC7⟩ hall
      obtain rfl : b2 = true := by
        have h9 := hall 2 _ rfl (by
          intro e he hbd
          simp at he
          rcases he with rfl | rfl <;> simp
          )
        simpa using h9
      obtain rfl : b4 = true := by
        have h9 := hall 4 _ rfl (by
          intro e he hbd
          simp at he
          rcases he with rfl | rfl <;> simp
          )
        simpa using h9
      obtain rfl : b5 = true := by
        have h9 := hall 5 _ rfl (by
          intro e he hbd
          simp at he
          subst he
          simp
          )
        simpa using h9
      obtain rfl : b6 = true := by
        have h9 := hall 6 _ rfl (by
          intro e he hbd
          simp at he
          rcases he with rfl | rfl | rfl <;> simp
          )
        simpa using h9
      obtain rfl : b7 = true := by
        have h9 := hall 7 _ rfl (by
          intro e he hbd
          simp at he
          rcases he with rfl | rfl | rfl | rfl | rfl | rfl | rfl | rfl | rfl <;> simp
          )
        simpa using h9
      clear hall
      simp only [fillS, pickS_true, pickS_false, Act.put, Array.getD_eq_getD_getElem?, List.getElem?_toArray, List.getElem?_cons_zero, List.getElem?_cons_succ, Option.getD_some, List.getElem_toArray, List.getElem_cons_zero, List.getElem_cons_succ, List.setIfInBounds_toArray, List.set_cons_zero, List.set_cons_succ] at ha
      subst ha
      refine NoPanic.normal ?_
      have Bwi := hide ((unhide Bu0).trans ((unhide FB).mono (unhide Bu0).size))
      have Kawi := hide (Blk.below (unhide FB) Zau0 (unhide Kau0))
      have Zawi := Nat.lt_of_lt_of_le Zau0 (unhide FB).size
      clear FB FC4 FC5 FC6 FC7
      go_wp2_with fail
      go_meet
      case rel => exact ⟨rfl, unhide Bwi⟩
  case rest =>
    obtain ⟨rfl, hb⟩ := hcut
    have HB := hide hb
    clear hb
    go_wp2
    go_ret
    exact ⟨rfl, unhide HB⟩
set_option maxRecDepth 100000 in
set_option maxHeartbeats 4000000 in
theorem lowerGram_any (r : ReqV) (h : ReqH) (a : Option Addr) (n c : Nat) (us : List Int) (w : World) (hr : RdReq w r h) (hs : r.small) (hg : ErrT w) (hu : Rd w a n us) (hn : n ≤ 1048576) :
    Calls Tryz.prog 26 #[reqVal r h, .slice a n c] w fun e w' => e = .returned (.int .i64 (lowGram r us)) ∧ Below w.heap.size w w' := by
  have htl : r.types.length ≤ 1048600 := by unfold ReqV.small at hs; omega
  have HR := hide hr
  have HU := hide hu
  have hul := hu.1
  clear hr hu
  have HG := hide hg
  clear hg
  unfold reqVal
  go_enter Tryz.func26, Tryz.ntmps26
  go_wp2_with fail
  have BW : Hid (Below w.heap.size w (w.alloc (.cells #[.int .i64 r.way, .int .i64 r.pal.wd, .int .i64 r.pal.dp, .int .i64 r.pal.ht, .int .i64 r.pal.gram, .int .i64 r.classes, .slice h.ap r.pairs.length h.cp, .slice h.at' r.types.length h.ct, .int .i64 r.master, .slice h.ai r.items.length h.ci] 38))) := ((Below.refl _ _).alloc (by simp) _)
  have KaW : Hid (Blk (w.alloc (.cells #[.int .i64 r.way, .int .i64 r.pal.wd, .int .i64 r.pal.dp, .int .i64 r.pal.ht, .int .i64 r.pal.gram, .int .i64 r.classes, .slice h.ap r.pairs.length h.cp, .slice h.at' r.types.length h.ct, .int .i64 r.master, .slice h.ai r.items.length h.ci] 38)) w.heap.size [.int .i64 r.way, .int .i64 r.pal.wd, .int .i64 r.pal.dp, .int .i64 r.pal.ht, .int .i64 r.pal.gram, .int .i64 r.classes, .slice h.ap r.pairs.length h.cp, .slice h.at' r.types.length h.ct, .int .i64 r.master, .slice h.ai r.items.length h.ci]) := (Blk.allocAt (w := w) [.int .i64 r.way, .int .i64 r.pal.wd, .int .i64 r.pal.dp, .int .i64 r.pal.ht, .int .i64 r.pal.gram, .int .i64 r.classes, .slice h.ap r.pairs.length h.cp, .slice h.at' r.types.length h.ct, .int .i64 r.master, .slice h.ai r.items.length h.ci] (by simp))
  have ZaW : w.heap.size < (w.alloc (.cells #[.int .i64 r.way, .int .i64 r.pal.wd, .int .i64 r.pal.dp, .int .i64 r.pal.ht, .int .i64 r.pal.gram, .int .i64 r.classes, .slice h.ap r.pairs.length h.cp, .slice h.at' r.types.length h.ct, .int .i64 r.master, .slice h.ai r.items.length h.ci] 38)).heap.size := by simp
  have Ga : w.heap.size ≤ w.heap.size := by omega
  generalize (w.alloc (.cells #[.int .i64 r.way, .int .i64 r.pal.wd, .int .i64 r.pal.dp, .int .i64 r.pal.ht, .int .i64 r.pal.gram, .int .i64 r.classes, .slice h.ap r.pairs.length h.cp, .slice h.at' r.types.length h.ct, .int .i64 r.master, .slice h.ai r.items.length h.ci] 38)) = W at *
  refine (class_any r h _ ((unhide HR).mono (unhide BW)) hs ((unhide HG).later (unhide BW))).mono ?_
  rintro e v1 ⟨rfl, hb⟩
  have Bv1 := hide ((unhide BW).trans (hb.mono (unhide BW).size))
  have Kav1 := hide (Blk.below hb ZaW (unhide KaW))
  have Zav1 := Nat.lt_of_lt_of_le ZaW hb.size
  clear hb
  clear BW KaW ZaW
  by_cases hz : classI r = 0
  case neg =>
    have hne : (classI r != 0) = true := by simp [hz]
    have HE : Hid (lowGram r us = 0) := by simp [Hid, lowGram, hz]
    clear hz
    go_wp2
    go_ret
    exact ⟨ret_intF (unhide HE).symm, unhide Bv1⟩
  have HLOW : Hid (ceilI (gramOf (itemsR r) us) (masterV r).gram = lowGram r us) := by simp [Hid, lowGram, hz, mostV]
  have HBD : Hid ((0 ≤ gramOf (itemsR r) us ∧ gramOf (itemsR r) us ≤ 8388800000000000) ∧ 1 ≤ (masterV r).gram ∧ (masterV r).gram ≤ 8000000000) := by
    have h1 := gramOf_bd (itemsR r) (itemsR_good r).gram us 1048576 (by omega)
    have h2 := most_pos hz
    simp only [mostV] at h2
    exact ⟨by omega, by omega⟩
  rw [hz]
  clear hz
  obtain ⟨ca0, ca1, ca2, ca3, ca4, ca5, ca6, ca7, ca8, ca9⟩ := Blk.cs10 (unhide Kav1)
  go_upto_region 3 with fail
  clear ca0 ca1 ca2 ca3 ca4 ca5 ca6 ca7 ca8 ca9
  go_cut [4] (fun v wc => v = .int .i64 (lowGram r us) ∧ Below w.heap.size w wc)
  case first =>
    refine wp_region_noPanic ?_
    have Bu0 : Hid (Below w.heap.size w v1.drew) := (unhide Bv1).drew
    have Kau0 : Hid (Blk v1.drew w.heap.size [.int .i64 r.way, .int .i64 r.pal.wd, .int .i64 r.pal.dp, .int .i64 r.pal.ht, .int .i64 r.pal.gram, .int .i64 r.classes, .slice h.ap r.pairs.length h.cp, .slice h.at' r.types.length h.ct, .int .i64 r.master, .slice h.ai r.items.length h.ci]) := unhide Kav1
    have Zau0 : w.heap.size < v1.drew.heap.size := Zav1
    obtain ⟨S, hSdef⟩ : ∃ S : World → Prop, S = (fun w' => w'.cell? ⟨w.heap.size, 0, none⟩ = some (.int .i64 r.way) ∧ w'.cell? ⟨w.heap.size, 1, none⟩ = some (.int .i64 r.pal.wd) ∧ w'.cell? ⟨w.heap.size, 2, none⟩ = some (.int .i64 r.pal.dp) ∧ w'.cell? ⟨w.heap.size, 3, none⟩ = some (.int .i64 r.pal.ht) ∧ w'.cell? ⟨w.heap.size, 4, none⟩ = some (.int .i64 r.pal.gram) ∧ w'.cell? ⟨w.heap.size, 5, none⟩ = some (.int .i64 r.classes) ∧ w'.cell? ⟨w.heap.size, 6, none⟩ = some (.slice h.ap r.pairs.length h.cp) ∧ w'.cell? ⟨w.heap.size, 7, none⟩ = some (.slice h.at' r.types.length h.ct) ∧ w'.cell? ⟨w.heap.size, 8, none⟩ = some (.int .i64 r.master) ∧ w'.cell? ⟨w.heap.size, 9, none⟩ = some (.slice h.ai r.items.length h.ci)) := ⟨_, rfl⟩
    have hSmk : ∀ wq, Blk wq w.heap.size [.int .i64 r.way, .int .i64 r.pal.wd, .int .i64 r.pal.dp, .int .i64 r.pal.ht, .int .i64 r.pal.gram, .int .i64 r.classes, .slice h.ap r.pairs.length h.cp, .slice h.at' r.types.length h.ct, .int .i64 r.master, .slice h.ai r.items.length h.ci] → S wq := fun wq ka => by rw [hSdef]; exact ⟨(ka 0 (by simp)).1, (ka 1 (by simp)).1, (ka 2 (by simp)).1, (ka 3 (by simp)).1, (ka 4 (by simp)).1, (ka 5 (by simp)).1, (ka 6 (by simp)).1, (ka 7 (by simp)).1, (ka 8 (by simp)).1, (ka 9 (by simp)).1⟩
    have hSd : ∀ wq, S wq → (fun w' => w'.cell? ⟨w.heap.size, 0, none⟩ = some (.int .i64 r.way) ∧ w'.cell? ⟨w.heap.size, 1, none⟩ = some (.int .i64 r.pal.wd) ∧ w'.cell? ⟨w.heap.size, 2, none⟩ = some (.int .i64 r.pal.dp) ∧ w'.cell? ⟨w.heap.size, 3, none⟩ = some (.int .i64 r.pal.ht) ∧ w'.cell? ⟨w.heap.size, 4, none⟩ = some (.int .i64 r.pal.gram) ∧ w'.cell? ⟨w.heap.size, 5, none⟩ = some (.int .i64 r.classes) ∧ w'.cell? ⟨w.heap.size, 6, none⟩ = some (.slice h.ap r.pairs.length h.cp) ∧ w'.cell? ⟨w.heap.size, 7, none⟩ = some (.slice h.at' r.types.length h.ct) ∧ w'.cell? ⟨w.heap.size, 8, none⟩ = some (.int .i64 r.master) ∧ w'.cell? ⟨w.heap.size, 9, none⟩ = some (.slice h.ai r.items.length h.ci)) wq := fun wq h => by rw [hSdef] at h; exact h
    clear hSdef
    have hHeld : S v1.drew := hSmk v1.drew (unhide Kau0)
    refine wp_region_to (S := S) (T := []) (by kernel_rfl) hHeld (fun _ => ?_)
    generalize v1.drew = u0 at *
    refine wpTo_tk (i := 0) (v := ?_) rfl (by kernel_rfl) (Or.inl ⟨by rfl, ?_⟩) (by assumption) ?_
    rotate_left
    · intro w hSw
      have hSw := hSd _ hSw
      (try dsimp only at hSw)
      go_simp <;> with_reducible rfl
    refine wpTo_tk (i := 1) (v := ?_) rfl (by kernel_rfl) (Or.inl ⟨by rfl, ?_⟩) (by assumption) ?_
    rotate_left
    · intro w hSw
      have hSw := hSd _ hSw
      (try dsimp only at hSw)
      go_simp <;> with_reducible rfl
    refine wpTo_tk (i := 3) (v := ?_) rfl (by kernel_rfl) (Or.inl ⟨by rfl, ?_⟩) (by assumption) ?_
    rotate_left
    · intro w hSw
      have hSw := hSd _ hSw
      (try dsimp only at hSw)
      go_simp <;> with_reducible rfl
    try simp only [Act.put, List.getElem_toArray, List.getElem_cons_zero, List.getElem_cons_succ, List.setIfInBounds_toArray, List.set_cons_zero, List.set_cons_succ]
    try simp only [Act.put, List.getElem_toArray, List.getElem_cons_zero, List.getElem_cons_succ, List.setIfInBounds_toArray, List.set_cons_zero, List.set_cons_succ]
    refine wpTo_inv (fun a0 listed ai wi => ∃ (b2 b4 b5 b6 b7 : Bool), listed = #[true, true, b2, true, b4, b5, b6, b7] ∧ ai = fillS b7 4 (.int .i64 (lowGram r us)) (fillS b6 14 (.int .i64 (lowGram r us)) (fillS b5 13 (.int .i64 (masterV r).gram) (fillS b4 12 (.agg #[.int .i64 (vol (masterV r).wd (masterV r).ht (masterV r).dp), .int .i64 (masterV r).gram]) (fillS b2 10 (.int .i64 (gramOf (itemsR r) us)) (a0))))) ∧ Hid (Below u0.heap.size u0 wi) ∧ Hid (Tk b4 → Tk b2) ∧ Hid (Tk b5 → Tk b2 ∧ Tk b4) ∧ Hid (Tk b6 → Tk b2 ∧ Tk b4 ∧ Tk b5) ∧ Hid (Tk b7 → Tk b2 ∧ Tk b4 ∧ Tk b5 ∧ Tk b6)) ⟨false, false, false, false, false, rfl, by simp only [fillS_false], (Below.refl _ _), (fun h => by cases h), (fun h => by cases h), (fun h => by cases h), (fun h => by cases h)⟩ ?hS ?hT ?step ?fin _ (by decide)
    case hS =>
      rintro listed ai wi ⟨b2, b4, b5, b6, b7, rfl, ha, FB, FC4, FC5, FC6, FC7⟩ hTf
      exact hSmk wi (Blk.below ((unhide FB)) Zau0 (unhide Kau0))
    case hT =>
      exact fun _ _ _ _ f hf => by cases hf
    case step =>
      rintro listed ai wi i o ⟨b2, b4, b5, b6, b7, rfl, ha, FB, FC4, FC5, FC6, FC7⟩ ho hl hall
      have hi : i < 8 := (Array.getElem?_eq_some_iff.1 ho).1
      obtain rfl | rfl | rfl | rfl | rfl | rfl | rfl | rfl : i = 0 ∨ i = 1 ∨ i = 2 ∨ i = 3 ∨ i = 4 ∨ i = 5 ∨ i = 6 ∨ i = 7 := by omega
      · exact absurd hl (by simp)
      · exact absurd hl (by simp)
      · obtain rfl := Option.some.inj ho
        obtain rfl : b2 = false := by simpa using hl
        obtain rfl : b4 = false := Tk_no (fun p => by have h8 := (unhide FC4) p; simp [Tk] at h8)
        obtain rfl : b5 = false := Tk_no (fun p => by have h8 := (unhide FC5) p; simp [Tk] at h8)
        obtain rfl : b6 = false := Tk_no (fun p => by have h8 := (unhide FC6) p; simp [Tk] at h8)
        obtain rfl : b7 = false := Tk_no (fun p => by have h8 := (unhide FC7) p; simp [Tk] at h8)
        clear ho hl hall hi
        simp only [fillS, pickS_true, pickS_false, Act.put, Array.getD_eq_getD_getElem?, List.getElem?_toArray, List.getElem?_cons_zero, List.getElem?_cons_succ, Option.getD_some, List.getElem_toArray, List.getElem_cons_zero, List.getElem_cons_succ, List.setIfInBounds_toArray, List.set_cons_zero, List.set_cons_succ] at ha
        subst ha
        refine wpOp_stepS (o := _) rfl (fun K hK => ?_)
        go_simp
        refine (gramOf_any r h _ _ _ us wi ((unhide HR).mono ((unhide Bu0).trans ((unhide FB).mono (unhide Bu0).size))) hs ((unhide HG).later ((unhide Bu0).trans ((unhide FB).mono (unhide Bu0).size))) ((unhide HU).mono ((unhide Bu0).trans ((unhide FB).mono (unhide Bu0).size))) (by omega)).mono ?_
        rintro e wz ⟨rfl, hb⟩
        go_wp2_with fail
        refine hK.out _ _ ?_
        exact ⟨true, false, false, false, false, rfl, by simp only [fillS, pickS_true, pickS_false, Act.put, Array.getD_eq_getD_getElem?, List.getElem?_toArray, List.getElem?_cons_zero, List.getElem?_cons_succ, Option.getD_some, List.getElem_toArray, List.getElem_cons_zero, List.getElem_cons_succ, List.setIfInBounds_toArray, List.set_cons_zero, List.set_cons_succ], (((unhide FB).trans (hb.mono (unhide FB).size))), (fun p4 => (by cases p4)), (fun p5 => (by cases p5)), (fun p6 => (by cases p6)), (fun p7 => (by cases p7))⟩
      · exact absurd hl (by simp)
      · obtain rfl := Option.some.inj ho
        obtain rfl : b4 = false := by simpa using hl
        obtain rfl : b2 = true := by simpa using hall ⟨2, .chain⟩ (by simp) rfl
        obtain rfl : b5 = false := Tk_no (fun p => by have h8 := (unhide FC5) p; simp [Tk] at h8)
        obtain rfl : b6 = false := Tk_no (fun p => by have h8 := (unhide FC6) p; simp [Tk] at h8)
        obtain rfl : b7 = false := Tk_no (fun p => by have h8 := (unhide FC7) p; simp [Tk] at h8)
        clear ho hl hall hi
        simp only [fillS, pickS_true, pickS_false, Act.put, Array.getD_eq_getD_getElem?, List.getElem?_toArray, List.getElem?_cons_zero, List.getElem?_cons_succ, Option.getD_some, List.getElem_toArray, List.getElem_cons_zero, List.getElem_cons_succ, List.setIfInBounds_toArray, List.set_cons_zero, List.set_cons_succ] at ha
        subst ha
        refine wpOp_stepS (o := _) rfl (fun K hK => ?_)
        go_simp
        refine (masterMost_any r h wi ((unhide HR).mono ((unhide Bu0).trans ((unhide FB).mono (unhide Bu0).size))) htl).mono ?_
        rintro e wz ⟨rfl, hb⟩
        go_wp2_with fail
        refine hK.out _ _ ?_
        exact ⟨true, true, false, false, false, rfl, by simp only [fillS, pickS_true, pickS_false, Act.put, Array.getD_eq_getD_getElem?, List.getElem?_toArray, List.getElem?_cons_zero, List.getElem?_cons_succ, Option.getD_some, List.getElem_toArray, List.getElem_cons_zero, List.getElem_cons_succ, List.setIfInBounds_toArray, List.set_cons_zero, List.set_cons_succ], (((unhide FB).trans (hb.mono (unhide FB).size))), (fun p4 => rfl), (fun p5 => (by cases p5)), (fun p6 => (by cases p6)), (fun p7 => (by cases p7))⟩
      · obtain rfl := Option.some.inj ho
        obtain rfl : b5 = false := by simpa using hl
        obtain rfl : b4 = true := by simpa using hall ⟨4, .data⟩ (by simp) rfl
        obtain rfl := (unhide FC4) rfl
        obtain rfl : b6 = false := Tk_no (fun p => by have h8 := (unhide FC6) p; simp [Tk] at h8)
        obtain rfl : b7 = false := Tk_no (fun p => by have h8 := (unhide FC7) p; simp [Tk] at h8)
        clear ho hl hall hi
        simp only [fillS, pickS_true, pickS_false, Act.put, Array.getD_eq_getD_getElem?, List.getElem?_toArray, List.getElem?_cons_zero, List.getElem?_cons_succ, Option.getD_some, List.getElem_toArray, List.getElem_cons_zero, List.getElem_cons_succ, List.setIfInBounds_toArray, List.set_cons_zero, List.set_cons_succ] at ha
        subst ha
        refine wpOp_stepS (o := _) rfl (fun K hK => ?_)
        go_simp
        refine hK.out _ _ ?_
        exact ⟨true, true, true, false, false, rfl, by simp only [fillS, pickS_true, pickS_false, Act.put, Array.getD_eq_getD_getElem?, List.getElem?_toArray, List.getElem?_cons_zero, List.getElem?_cons_succ, Option.getD_some, List.getElem_toArray, List.getElem_cons_zero, List.getElem_cons_succ, List.setIfInBounds_toArray, List.set_cons_zero, List.set_cons_succ], ((unhide FB)), (fun p4 => (unhide FC4 p4)), (fun p5 => ⟨rfl, rfl⟩), (fun p6 => (by cases p6)), (fun p7 => (by cases p7))⟩
      · obtain rfl := Option.some.inj ho
        obtain rfl : b6 = false := by simpa using hl
        obtain rfl : b2 = true := by simpa using hall ⟨2, .data⟩ (by simp) rfl
        obtain rfl : b5 = true := by simpa using hall ⟨5, .data⟩ (by simp) rfl
        obtain ⟨_, rfl⟩ := (unhide FC5) rfl
        obtain rfl : b7 = false := Tk_no (fun p => by have h8 := (unhide FC7) p; simp [Tk] at h8)
        clear ho hl hall hi
        simp only [fillS, pickS_true, pickS_false, Act.put, Array.getD_eq_getD_getElem?, List.getElem?_toArray, List.getElem?_cons_zero, List.getElem?_cons_succ, Option.getD_some, List.getElem_toArray, List.getElem_cons_zero, List.getElem_cons_succ, List.setIfInBounds_toArray, List.set_cons_zero, List.set_cons_succ] at ha
        subst ha
        refine wpOp_stepS (o := _) rfl (fun K hK => ?_)
        go_simp
        refine (roundedUp_any (gramOf (itemsR r) us) (masterV r).gram wi (unhide HBD).1 (unhide HBD).2).mono ?_
        rintro e wz ⟨rfl, hwz⟩; rw [unhide HLOW]
        subst wz
        go_wp2_with fail
        refine hK.out _ _ ?_
        exact ⟨true, true, true, true, false, rfl, by simp only [fillS, pickS_true, pickS_false, Act.put, Array.getD_eq_getD_getElem?, List.getElem?_toArray, List.getElem?_cons_zero, List.getElem?_cons_succ, Option.getD_some, List.getElem_toArray, List.getElem_cons_zero, List.getElem_cons_succ, List.setIfInBounds_toArray, List.set_cons_zero, List.set_cons_succ], ((unhide FB)), (fun p4 => (unhide FC4 p4)), (fun p5 => (unhide FC5 p5)), (fun p6 => ⟨rfl, rfl, rfl⟩), (fun p7 => (by cases p7))⟩
      · obtain rfl := Option.some.inj ho
        obtain rfl : b7 = false := by simpa using hl
        obtain rfl : b6 = true := by simpa using hall ⟨6, .data⟩ (by simp) rfl
        obtain ⟨rfl, rfl, rfl⟩ := (unhide FC6) rfl
        clear ho hl hall hi
        simp only [fillS, pickS_true, pickS_false, Act.put, Array.getD_eq_getD_getElem?, List.getElem?_toArray, List.getElem?_cons_zero, List.getElem?_cons_succ, Option.getD_some, List.getElem_toArray, List.getElem_cons_zero, List.getElem_cons_succ, List.setIfInBounds_toArray, List.set_cons_zero, List.set_cons_succ] at ha
        subst ha
        refine wpOp_stepS (o := _) rfl (fun K hK => ?_)
        go_simp
        refine hK.out _ _ ?_
        exact ⟨true, true, true, true, true, rfl, by simp only [fillS, pickS_true, pickS_false, Act.put, Array.getD_eq_getD_getElem?, List.getElem?_toArray, List.getElem?_cons_zero, List.getElem?_cons_succ, Option.getD_some, List.getElem_toArray, List.getElem_cons_zero, List.getElem_cons_succ, List.setIfInBounds_toArray, List.set_cons_zero, List.set_cons_succ], ((unhide FB)), (fun p4 => (unhide FC4 p4)), (fun p5 => (unhide FC5 p5)), (fun p6 => (unhide FC6 p6)), (fun p7 => ⟨rfl, rfl, rfl, rfl⟩)⟩
    case fin =>
      rintro listed ai wi ⟨b2, b4, b5, b6, b7, rfl, ha, FB, FC4, FC5, FC6, FC7⟩ hall
      obtain rfl : b2 = true := by
        have h9 := hall 2 _ rfl (by
          intro e he hbd
          simp at he
          rcases he with rfl | rfl <;> simp
          )
        simpa using h9
      obtain rfl : b4 = true := by
        have h9 := hall 4 _ rfl (by
          intro e he hbd
          simp at he
          rcases he with rfl | rfl <;> simp
          )
        simpa using h9
      obtain rfl : b5 = true := by
        have h9 := hall 5 _ rfl (by
          intro e he hbd
          simp at he
          subst he
          simp
          )
        simpa using h9
      obtain rfl : b6 = true := by
        have h9 := hall 6 _ rfl (by
          intro e he hbd
          simp at he
          rcases he with rfl | rfl | rfl <;> simp
          )
        simpa using h9
      obtain rfl : b7 = true := by
        have h9 := hall 7 _ rfl (by
          intro e he hbd
          simp at he
          rcases he with rfl | rfl | rfl | rfl | rfl | rfl | rfl | rfl | rfl <;> simp
          )
        simpa using h9
      clear hall
      simp only [fillS, pickS_true, pickS_false, Act.put, Array.getD_eq_getD_getElem?, List.getElem?_toArray, List.getElem?_cons_zero, List.getElem?_cons_succ, Option.getD_some, List.getElem_toArray, List.getElem_cons_zero, List.getElem_cons_succ, List.setIfInBounds_toArray, List.set_cons_zero, List.set_cons_succ] at ha
      subst ha
      refine NoPanic.normal ?_
      have Bwi := hide ((unhide Bu0).trans ((unhide FB).mono (unhide Bu0).size))
      have Kawi := hide (Blk.below (unhide FB) Zau0 (unhide Kau0))
      have Zawi := Nat.lt_of_lt_of_le Zau0 (unhide FB).size
      clear FB FC4 FC5 FC6 FC7
      go_wp2_with fail
      go_meet
      case rel => exact ⟨rfl, unhide Bwi⟩
  case rest =>
    obtain ⟨rfl, hb⟩ := hcut
    have HB := hide hb
    clear hb
    go_wp2
    go_ret
    exact ⟨rfl, unhide HB⟩
set_option maxRecDepth 100000 in
set_option maxHeartbeats 4000000 in
theorem lowerGreat_any (r : ReqV) (h : ReqH) (a : Option Addr) (n c : Nat) (us : List Int) (w : World) (hr : RdReq w r h) (hs : r.small) (hg : ErrT w) (hu : Rd w a n us) (hn : n ≤ 1048576) :
    Calls Tryz.prog 28 #[reqVal r h, .slice a n c] w fun e w' => e = .returned (.int .i64 (lowGreat r us)) ∧ Below w.heap.size w w' := by
  have htl : r.types.length ≤ 1048600 := by unfold ReqV.small at hs; omega
  have HR := hide hr
  have HU := hide hu
  have hul := hu.1
  clear hr hu
  have HG := hide hg
  clear hg
  unfold reqVal
  go_enter Tryz.func28, Tryz.ntmps28
  go_wp2_with fail
  have BW : Hid (Below w.heap.size w (w.alloc (.cells #[.int .i64 r.way, .int .i64 r.pal.wd, .int .i64 r.pal.dp, .int .i64 r.pal.ht, .int .i64 r.pal.gram, .int .i64 r.classes, .slice h.ap r.pairs.length h.cp, .slice h.at' r.types.length h.ct, .int .i64 r.master, .slice h.ai r.items.length h.ci] 38))) := ((Below.refl _ _).alloc (by simp) _)
  have KaW : Hid (Blk (w.alloc (.cells #[.int .i64 r.way, .int .i64 r.pal.wd, .int .i64 r.pal.dp, .int .i64 r.pal.ht, .int .i64 r.pal.gram, .int .i64 r.classes, .slice h.ap r.pairs.length h.cp, .slice h.at' r.types.length h.ct, .int .i64 r.master, .slice h.ai r.items.length h.ci] 38)) w.heap.size [.int .i64 r.way, .int .i64 r.pal.wd, .int .i64 r.pal.dp, .int .i64 r.pal.ht, .int .i64 r.pal.gram, .int .i64 r.classes, .slice h.ap r.pairs.length h.cp, .slice h.at' r.types.length h.ct, .int .i64 r.master, .slice h.ai r.items.length h.ci]) := (Blk.allocAt (w := w) [.int .i64 r.way, .int .i64 r.pal.wd, .int .i64 r.pal.dp, .int .i64 r.pal.ht, .int .i64 r.pal.gram, .int .i64 r.classes, .slice h.ap r.pairs.length h.cp, .slice h.at' r.types.length h.ct, .int .i64 r.master, .slice h.ai r.items.length h.ci] (by simp))
  have ZaW : w.heap.size < (w.alloc (.cells #[.int .i64 r.way, .int .i64 r.pal.wd, .int .i64 r.pal.dp, .int .i64 r.pal.ht, .int .i64 r.pal.gram, .int .i64 r.classes, .slice h.ap r.pairs.length h.cp, .slice h.at' r.types.length h.ct, .int .i64 r.master, .slice h.ai r.items.length h.ci] 38)).heap.size := by simp
  have Ga : w.heap.size ≤ w.heap.size := by omega
  generalize (w.alloc (.cells #[.int .i64 r.way, .int .i64 r.pal.wd, .int .i64 r.pal.dp, .int .i64 r.pal.ht, .int .i64 r.pal.gram, .int .i64 r.classes, .slice h.ap r.pairs.length h.cp, .slice h.at' r.types.length h.ct, .int .i64 r.master, .slice h.ai r.items.length h.ci] 38)) = W at *
  refine (packerOf_any r h _ ((unhide HR).mono (unhide BW)) hs ((unhide HG).later (unhide BW))).mono ?_
  rintro e v1 ⟨Bk, eb, ec, ea, rfl, hB1, hB2, hBl, hea, hE, hne, hb⟩
  have Bv1 := hide ((unhide BW).trans (hb.mono (unhide BW).size))
  have Kav1 := hide (Blk.below hb ZaW (unhide KaW))
  have Zav1 := Nat.lt_of_lt_of_le ZaW hb.size
  clear hb
  clear BW KaW ZaW
  have HBL := hide hBl
  have HEA := hide hea
  have HE := hide hE
  have hN12 := unitsR_len r
  have HBW := Bv1
  clear hBl hea hE Bv1
  obtain ⟨w1, hw1⟩ : ∃ x : World, x = v1 := ⟨_, rfl⟩
  subst hw1
  go_wp2_with fail
  refine (there_any (itemsR r) Bk (unitsR r).length ec ea _ _ _ _ a n c us w1 (unhide HBL) hB2 rfl (by omega) ((unhide HU).mono (unhide HBW)) (by omega)).mono ?_
  rintro e w2 ⟨tg, tc, rfl, hto, hb⟩
  have HK2 := hide (Blk.below hb hB2 (unhide HBL))
  have HE2 := hide ((unhide HE).later hb)
  have HT2 : Hid (Rd w2 (some ⟨tg, 0, none⟩) (knownL (itemsR r) us).length (knownL (itemsR r) us)) := Rd.of_owns hto
  have HB2 := hide ((unhide HBW).trans (hb.mono (unhide HBW).size))
  have hBk2 : Bk < w2.heap.size := Nat.lt_of_lt_of_le hB2 hb.size
  have HIN : Hid (∀ k, k < (knownL (itemsR r) us).length → ∃ v : Nat, (knownL (itemsR r) us).getD k 0 = v ∧ v < (unitsR r).length) := fun k hk => knownL_at hk
  have hml := knownL_len (itemsR r) us
  have HMB := hide (fun (u : Int) => volAt_bd (itemsR r) u)
  have HGB := hide (fun (u : Int) => gramAt_bd (itemsR r) (itemsR_good r).gram u)
  have HMV : Hid (0 ≤ (vol (masterV r).wd (masterV r).ht (masterV r).dp) ∧ (vol (masterV r).wd (masterV r).ht (masterV r).dp) ≤ 8000000000) := vol_bd _ _ _
  have HFIN : Hid (((max ((knownL (itemsR r) us).countP (wideB r)) ((knownL (itemsR r) us).countP (heavyB r)) : Nat) : Int) = lowGreat r us) := by
    by_cases hz : classI r = 0
    · simp [Hid, lowGreat, hz, greatN]
    · rw [Hid, itemsR_not hz, knownL_nil]
      simp [lowGreat, hz]
  clear hto hb HBL HE hne hB1
  generalize hL : knownL (itemsR r) us = KL at *
  clear hL
  obtain ⟨m, hm⟩ : ∃ m, KL.length = m := ⟨_, rfl⟩
  have HM := hide hm
  rw [hm] at hml HT2 HIN ⊢
  clear hm
  go_wp2_with fail
  go_loopw [6, 7, 16] (fun x y i wr => ∃ (k : Nat), k ≤ m ∧ i = .int .i64 k ∧ x = .int .i64 ((cntTo (wideB r) KL k : Nat) : Int) ∧ y = .int .i64 ((cntTo (heavyB r) KL k : Nat) : Int) ∧ Below w2.heap.size w2 wr) (fun _ _ i _ => m - (intOf i).toNat)
  case atStart => exact ⟨0, Nat.zero_le _, rfl, rfl, rfl, Below.refl _ _⟩
  case round =>
    obtain ⟨k, hk, rfl, rfl, rfl, hb⟩ := hrel
    have HB := hide hb
    by_cases hlk : k < m
    case neg =>
      obtain rfl : k = m := by omega
      have hBW := hide ((unhide HB2).trans (hb.mono (unhide HB2).size))
      have hx : cntTo (wideB r) KL k = KL.countP (wideB r) := by rw [cntTo, List.take_of_length_le (by rw [unhide HM]; exact Nat.le_refl _)]
      have hy : cntTo (heavyB r) KL k = KL.countP (heavyB r) := by rw [cntTo, List.take_of_length_le (by rw [unhide HM]; exact Nat.le_refl _)]
      rw [← hx, ← hy] at HFIN
      clear hb hx hy
      generalize cntTo (wideB r) KL k = X at *
      generalize cntTo (heavyB r) KL k = Y at *
      have hf := unhide HFIN
      rw [Nat.max_def] at hf
      go_wp2
      all_goals
        go_ret
        exact ⟨ret_intF (by split at hf <;> omega), unhide hBW⟩
    have hku : k < KL.length := by rw [unhide HM]; exact hlk
    obtain ⟨v, hv, hvN⟩ := (unhide HIN) k hlk
    have hcu := Rd.atP ((unhide HT2).mono hb) k hlk
    rw [hv] at hcu
    have HSX := hide (cntTo_step (p := wideB r) hku)
    have HSY := hide (cntTo_step (p := heavyB r) hku)
    rw [hv] at HSX HSY
    have hX := cntTo_le (wideB r) KL k
    have hY := cntTo_le (heavyB r) KL k
    have hea2 := (unhide HEA) (by omega)
    subst hea2
    have KB := Blk.below hb hBk2 (unhide HK2)
    have c0 := (KB 0 (by simp)).1
    have c1 := (KB 1 (by simp)).1
    have c2 := (KB 2 (by simp)).1
    have ev := ((unhide HE2).later hb).2 v hvN
    have e1 := ev.1
    have e2 := ev.2
    have hmb := (unhide HMB) (v : Int)
    have hgb := (unhide HGB) (v : Int)
    have hmv := unhide HMV
    have HWQ : Hid (wideB r (v : Int) = decide ((vol (masterV r).wd (masterV r).ht (masterV r).dp) < 2 * volAt (itemsR r) v)) := rfl
    have HHQ : Hid (heavyB r (v : Int) = decide ((masterV r).gram < 2 * gramAt (itemsR r) v)) := rfl
    generalize volAt (itemsR r) v = xv at *
    generalize gramAt (itemsR r) v = yv at *
    generalize (vol (masterV r).wd (masterV r).ht (masterV r).dp) = mv at *
    generalize (masterV r).gram = mg at *
    generalize cntTo (wideB r) KL k = X at *
    generalize cntTo (heavyB r) KL k = Y at *
    have hv9 : v < (unitsR r).length := hvN
    clear KB ev hb hv
    simp only [List.getElem?_cons_zero, List.getElem?_cons_succ] at c0 c1 c2
    rcases Bool.eq_false_or_eq_true (decide (mv < 2 * xv)) with h1 | h1 <;> rcases Bool.eq_false_or_eq_true (decide (mg < 2 * yv)) with h2 | h2
    all_goals
      have HX2 := hide (unhide HSX)
      rw [unhide HWQ, h1] at HX2
      have HY2 := hide (unhide HSY)
      rw [unhide HHQ, h2] at HY2
      go_wp2_with fail
      go_quiet (fail)
      go_wp2_with fail
      go_quiet (fail)
      go_wp2
      go_roundw
      case rel => exact ⟨k + 1, by omega, by go_num, by rw [unhide HX2]; simp, by rw [unhide HY2]; simp, (unhide HB).drewsN _⟩
      case measure => simp [intOf]; omega
end Go.Proofs.YtdmaldjnjffnlaaGreatDoor
