/- Lower of the program. -/
import Derived.Test.YtdmaldjnjffnlaaGreatDoorLowImpl
import Derived.Deep.DeepMust
import Derived.Deep.DeepCutAuto
import Derived.Deep.RegionHeld3
namespace Go.Proofs.YtdmaldjnjffnlaaGreatDoor
open Go Go.RowKit
set_option linter.unusedVariables false
set_option linter.unusedSimpArgs false

theorem max_ifs {a b c : Int} : (if (if a < b then b else a) < c then c else if a < b then b else a) = max a (max b c) := by
  rw [Int.max_def b c, Int.max_def]
  split <;> split <;> split <;> omega
set_option maxRecDepth 100000 in
set_option maxHeartbeats 4000000 in
theorem lower_any (r : ReqV) (h : ReqH) (a : Option Addr) (n c : Nat) (us : List Int) (w : World) (hr : RdReq w r h) (hs : r.small) (hg : ErrT w) (hu : Rd w a n us) (hn : n ≤ 1048576) :
    Calls Tryz.prog 30 #[reqVal r h, .slice a n c] w fun e w' => e = .returned (.int .i64 (lowR r us)) ∧ Below w.heap.size w w' := by
  have htl : r.types.length ≤ 1048600 := by unfold ReqV.small at hs; omega
  have HR := hide hr
  have HU := hide hu
  have hul := hu.1
  clear hr hu
  have HG := hide hg
  clear hg
  unfold reqVal
  go_enter Tryz.func30, Tryz.ntmps30
  go_wp2_with fail
  have BW : Hid (Below w.heap.size w (w.alloc (.cells #[.int .i64 r.way, .int .i64 r.pal.wd, .int .i64 r.pal.dp, .int .i64 r.pal.ht, .int .i64 r.pal.gram, .int .i64 r.classes, .slice h.ap r.pairs.length h.cp, .slice h.at' r.types.length h.ct, .int .i64 r.master, .slice h.ai r.items.length h.ci] 38))) := ((Below.refl _ _).alloc (by simp) _)
  have KaW : Hid (Blk (w.alloc (.cells #[.int .i64 r.way, .int .i64 r.pal.wd, .int .i64 r.pal.dp, .int .i64 r.pal.ht, .int .i64 r.pal.gram, .int .i64 r.classes, .slice h.ap r.pairs.length h.cp, .slice h.at' r.types.length h.ct, .int .i64 r.master, .slice h.ai r.items.length h.ci] 38)) w.heap.size [.int .i64 r.way, .int .i64 r.pal.wd, .int .i64 r.pal.dp, .int .i64 r.pal.ht, .int .i64 r.pal.gram, .int .i64 r.classes, .slice h.ap r.pairs.length h.cp, .slice h.at' r.types.length h.ct, .int .i64 r.master, .slice h.ai r.items.length h.ci]) := (Blk.allocAt (w := w) [.int .i64 r.way, .int .i64 r.pal.wd, .int .i64 r.pal.dp, .int .i64 r.pal.ht, .int .i64 r.pal.gram, .int .i64 r.classes, .slice h.ap r.pairs.length h.cp, .slice h.at' r.types.length h.ct, .int .i64 r.master, .slice h.ai r.items.length h.ci] (by simp))
  have ZaW : w.heap.size < (w.alloc (.cells #[.int .i64 r.way, .int .i64 r.pal.wd, .int .i64 r.pal.dp, .int .i64 r.pal.ht, .int .i64 r.pal.gram, .int .i64 r.classes, .slice h.ap r.pairs.length h.cp, .slice h.at' r.types.length h.ct, .int .i64 r.master, .slice h.ai r.items.length h.ci] 38)).heap.size := by simp
  have Ga : w.heap.size ≤ w.heap.size := by omega
  generalize (w.alloc (.cells #[.int .i64 r.way, .int .i64 r.pal.wd, .int .i64 r.pal.dp, .int .i64 r.pal.ht, .int .i64 r.pal.gram, .int .i64 r.classes, .slice h.ap r.pairs.length h.cp, .slice h.at' r.types.length h.ct, .int .i64 r.master, .slice h.ai r.items.length h.ci] 38)) = W at *
  go_cut [4] (fun v wc => v = .int .i64 (max (lowVol r us) (max (lowGram r us) (lowGreat r us))) ∧ Below w.heap.size w wc)
  case first =>
    refine wp_region_noPanic ?_
    have Bu0 : Hid (Below w.heap.size w W.drew) := (unhide BW).drew
    have Kau0 : Hid (Blk W.drew w.heap.size [.int .i64 r.way, .int .i64 r.pal.wd, .int .i64 r.pal.dp, .int .i64 r.pal.ht, .int .i64 r.pal.gram, .int .i64 r.classes, .slice h.ap r.pairs.length h.cp, .slice h.at' r.types.length h.ct, .int .i64 r.master, .slice h.ai r.items.length h.ci]) := unhide KaW
    have Zau0 : w.heap.size < W.drew.heap.size := ZaW
    obtain ⟨S, hSdef⟩ : ∃ S : World → Prop, S = (fun w' => w'.cell? ⟨w.heap.size, 0, none⟩ = some (.int .i64 r.way) ∧ w'.cell? ⟨w.heap.size, 1, none⟩ = some (.int .i64 r.pal.wd) ∧ w'.cell? ⟨w.heap.size, 2, none⟩ = some (.int .i64 r.pal.dp) ∧ w'.cell? ⟨w.heap.size, 3, none⟩ = some (.int .i64 r.pal.ht) ∧ w'.cell? ⟨w.heap.size, 4, none⟩ = some (.int .i64 r.pal.gram) ∧ w'.cell? ⟨w.heap.size, 5, none⟩ = some (.int .i64 r.classes) ∧ w'.cell? ⟨w.heap.size, 6, none⟩ = some (.slice h.ap r.pairs.length h.cp) ∧ w'.cell? ⟨w.heap.size, 7, none⟩ = some (.slice h.at' r.types.length h.ct) ∧ w'.cell? ⟨w.heap.size, 8, none⟩ = some (.int .i64 r.master) ∧ w'.cell? ⟨w.heap.size, 9, none⟩ = some (.slice h.ai r.items.length h.ci)) := ⟨_, rfl⟩
    have hSmk : ∀ wq, Blk wq w.heap.size [.int .i64 r.way, .int .i64 r.pal.wd, .int .i64 r.pal.dp, .int .i64 r.pal.ht, .int .i64 r.pal.gram, .int .i64 r.classes, .slice h.ap r.pairs.length h.cp, .slice h.at' r.types.length h.ct, .int .i64 r.master, .slice h.ai r.items.length h.ci] → S wq := fun wq ka => by rw [hSdef]; exact ⟨(ka 0 (by simp)).1, (ka 1 (by simp)).1, (ka 2 (by simp)).1, (ka 3 (by simp)).1, (ka 4 (by simp)).1, (ka 5 (by simp)).1, (ka 6 (by simp)).1, (ka 7 (by simp)).1, (ka 8 (by simp)).1, (ka 9 (by simp)).1⟩
    have hSd : ∀ wq, S wq → (fun w' => w'.cell? ⟨w.heap.size, 0, none⟩ = some (.int .i64 r.way) ∧ w'.cell? ⟨w.heap.size, 1, none⟩ = some (.int .i64 r.pal.wd) ∧ w'.cell? ⟨w.heap.size, 2, none⟩ = some (.int .i64 r.pal.dp) ∧ w'.cell? ⟨w.heap.size, 3, none⟩ = some (.int .i64 r.pal.ht) ∧ w'.cell? ⟨w.heap.size, 4, none⟩ = some (.int .i64 r.pal.gram) ∧ w'.cell? ⟨w.heap.size, 5, none⟩ = some (.int .i64 r.classes) ∧ w'.cell? ⟨w.heap.size, 6, none⟩ = some (.slice h.ap r.pairs.length h.cp) ∧ w'.cell? ⟨w.heap.size, 7, none⟩ = some (.slice h.at' r.types.length h.ct) ∧ w'.cell? ⟨w.heap.size, 8, none⟩ = some (.int .i64 r.master) ∧ w'.cell? ⟨w.heap.size, 9, none⟩ = some (.slice h.ai r.items.length h.ci)) wq := fun wq h => by rw [hSdef] at h; exact h
    clear hSdef
    have hHeld : S W.drew := hSmk W.drew (unhide Kau0)
    refine wp_region_to (S := S) (T := []) (by kernel_rfl) hHeld (fun _ => ?_)
    generalize W.drew = u0 at *
    refine wpTo_tk (i := 0) (v := ?_) rfl (by kernel_rfl) (Or.inl ⟨by rfl, ?_⟩) (by assumption) ?_
    rotate_left
    · intro w hSw
      have hSw := hSd _ hSw
      (try dsimp only at hSw)
      go_simp <;> with_reducible rfl
    refine wpTo_tk (i := 1) (v := ?_) rfl (by kernel_rfl) (Or.inl ⟨by rfl, ?_⟩) (by assumption) ?_
    rotate_left
    · intro w hSw
      have hSw := hSd _ hSw
      (try dsimp only at hSw)
      go_simp <;> with_reducible rfl
    refine wpTo_tk (i := 3) (v := ?_) rfl (by kernel_rfl) (Or.inl ⟨by rfl, ?_⟩) (by assumption) ?_
    rotate_left
    · intro w hSw
      have hSw := hSd _ hSw
      (try dsimp only at hSw)
      go_simp <;> with_reducible rfl
    refine wpTo_tk (i := 4) (v := ?_) rfl (by kernel_rfl) (Or.inl ⟨by rfl, ?_⟩) (by assumption) ?_
    rotate_left
    · intro w hSw
      have hSw := hSd _ hSw
      (try dsimp only at hSw)
      go_simp <;> with_reducible rfl
    refine wpTo_tk (i := 6) (v := ?_) rfl (by kernel_rfl) (Or.inl ⟨by rfl, ?_⟩) (by assumption) ?_
    rotate_left
    · intro w hSw
      have hSw := hSd _ hSw
      (try dsimp only at hSw)
      go_simp <;> with_reducible rfl
    refine wpTo_tk (i := 7) (v := ?_) rfl (by kernel_rfl) (Or.inl ⟨by rfl, ?_⟩) (by assumption) ?_
    rotate_left
    · intro w hSw
      have hSw := hSd _ hSw
      (try dsimp only at hSw)
      go_simp <;> with_reducible rfl
    try simp only [Act.put, List.getElem_toArray, List.getElem_cons_zero, List.getElem_cons_succ, List.setIfInBounds_toArray, List.set_cons_zero, List.set_cons_succ]
    try simp only [Act.put, List.getElem_toArray, List.getElem_cons_zero, List.getElem_cons_succ, List.setIfInBounds_toArray, List.set_cons_zero, List.set_cons_succ]
    refine wpTo_inv (fun a0 listed ai wi => ∃ (b2 b5 b8 b9 b10 : Bool), listed = #[true, true, b2, true, true, b5, true, true, b8, b9, b10] ∧ ai = fillS b10 4 (.int .i64 (max (lowVol r us) (max (lowGram r us) (lowGreat r us)))) (fillS b9 14 (.int .i64 (max (lowVol r us) (max (lowGram r us) (lowGreat r us)))) (fillS b8 13 (.int .i64 (lowGreat r us)) (fillS b5 10 (.int .i64 (lowGram r us)) (fillS b2 7 (.int .i64 (lowVol r us)) (a0))))) ∧ Hid (Below u0.heap.size u0 wi) ∧ Hid (Tk b5 → Tk b2) ∧ Hid (Tk b8 → Tk b2 ∧ Tk b5) ∧ Hid (Tk b9 → Tk b2 ∧ Tk b5 ∧ Tk b8) ∧ Hid (Tk b10 → Tk b2 ∧ Tk b5 ∧ Tk b8 ∧ Tk b9)) ⟨false, false, false, false, false, rfl, by simp only [fillS_false], (Below.refl _ _), (fun h => by cases h), (fun h => by cases h), (fun h => by cases h), (fun h => by cases h)⟩ ?hS ?hT ?step ?fin _ (by decide)
    case hS =>
      rintro listed ai wi ⟨b2, b5, b8, b9, b10, rfl, ha, FB, FC5, FC8, FC9, FC10⟩ hTf
      exact hSmk wi (Blk.below ((unhide FB)) Zau0 (unhide Kau0))
    case hT =>
      exact fun _ _ _ _ f hf => by cases hf
    case step =>
      rintro listed ai wi i o ⟨b2, b5, b8, b9, b10, rfl, ha, FB, FC5, FC8, FC9, FC10⟩ ho hl hall
      have hi : i < 11 := (Array.getElem?_eq_some_iff.1 ho).1
      obtain rfl | rfl | rfl | rfl | rfl | rfl | rfl | rfl | rfl | rfl | rfl : i = 0 ∨ i = 1 ∨ i = 2 ∨ i = 3 ∨ i = 4 ∨ i = 5 ∨ i = 6 ∨ i = 7 ∨ i = 8 ∨ i = 9 ∨ i = 10 := by omega
      · exact absurd hl (by simp)
      · exact absurd hl (by simp)
      · obtain rfl := Option.some.inj ho
        obtain rfl : b2 = false := by simpa using hl
        obtain rfl : b5 = false := Tk_no (fun p => by have h8 := (unhide FC5) p; simp [Tk] at h8)
        obtain rfl : b8 = false := Tk_no (fun p => by have h8 := (unhide FC8) p; simp [Tk] at h8)
        obtain rfl : b9 = false := Tk_no (fun p => by have h8 := (unhide FC9) p; simp [Tk] at h8)
        obtain rfl : b10 = false := Tk_no (fun p => by have h8 := (unhide FC10) p; simp [Tk] at h8)
        clear ho hl hall hi
        simp only [fillS, pickS_true, pickS_false, Act.put, Array.getD_eq_getD_getElem?, List.getElem?_toArray, List.getElem?_cons_zero, List.getElem?_cons_succ, Option.getD_some, List.getElem_toArray, List.getElem_cons_zero, List.getElem_cons_succ, List.setIfInBounds_toArray, List.set_cons_zero, List.set_cons_succ] at ha
        subst ha
        refine wpOp_stepS (o := _) rfl (fun K hK => ?_)
        go_simp
        refine (lowerVolume_any r h a n c us wi ((unhide HR).mono ((unhide Bu0).trans ((unhide FB).mono (unhide Bu0).size))) hs ((unhide HG).later ((unhide Bu0).trans ((unhide FB).mono (unhide Bu0).size))) ((unhide HU).mono ((unhide Bu0).trans ((unhide FB).mono (unhide Bu0).size))) hn).mono ?_
        rintro e wz ⟨rfl, hb⟩
        go_wp2_with fail
        refine hK.out _ _ ?_
        exact ⟨true, false, false, false, false, rfl, by simp only [fillS, pickS_true, pickS_false, Act.put, Array.getD_eq_getD_getElem?, List.getElem?_toArray, List.getElem?_cons_zero, List.getElem?_cons_succ, Option.getD_some, List.getElem_toArray, List.getElem_cons_zero, List.getElem_cons_succ, List.setIfInBounds_toArray, List.set_cons_zero, List.set_cons_succ], (((unhide FB).trans (hb.mono (unhide FB).size))), (fun p5 => (by cases p5)), (fun p8 => (by cases p8)), (fun p9 => (by cases p9)), (fun p10 => (by cases p10))⟩
      · exact absurd hl (by simp)
      · exact absurd hl (by simp)
      · obtain rfl := Option.some.inj ho
        obtain rfl : b5 = false := by simpa using hl
        obtain rfl : b2 = true := by simpa using hall ⟨2, .chain⟩ (by simp) rfl
        obtain rfl : b8 = false := Tk_no (fun p => by have h8 := (unhide FC8) p; simp [Tk] at h8)
        obtain rfl : b9 = false := Tk_no (fun p => by have h8 := (unhide FC9) p; simp [Tk] at h8)
        obtain rfl : b10 = false := Tk_no (fun p => by have h8 := (unhide FC10) p; simp [Tk] at h8)
        clear ho hl hall hi
        simp only [fillS, pickS_true, pickS_false, Act.put, Array.getD_eq_getD_getElem?, List.getElem?_toArray, List.getElem?_cons_zero, List.getElem?_cons_succ, Option.getD_some, List.getElem_toArray, List.getElem_cons_zero, List.getElem_cons_succ, List.setIfInBounds_toArray, List.set_cons_zero, List.set_cons_succ] at ha
        subst ha
        refine wpOp_stepS (o := _) rfl (fun K hK => ?_)
        go_simp
        refine (lowerGram_any r h a n c us wi ((unhide HR).mono ((unhide Bu0).trans ((unhide FB).mono (unhide Bu0).size))) hs ((unhide HG).later ((unhide Bu0).trans ((unhide FB).mono (unhide Bu0).size))) ((unhide HU).mono ((unhide Bu0).trans ((unhide FB).mono (unhide Bu0).size))) hn).mono ?_
        rintro e wz ⟨rfl, hb⟩
        go_wp2_with fail
        refine hK.out _ _ ?_
        exact ⟨true, true, false, false, false, rfl, by simp only [fillS, pickS_true, pickS_false, Act.put, Array.getD_eq_getD_getElem?, List.getElem?_toArray, List.getElem?_cons_zero, List.getElem?_cons_succ, Option.getD_some, List.getElem_toArray, List.getElem_cons_zero, List.getElem_cons_succ, List.setIfInBounds_toArray, List.set_cons_zero, List.set_cons_succ], (((unhide FB).trans (hb.mono (unhide FB).size))), (fun p5 => rfl), (fun p8 => (by cases p8)), (fun p9 => (by cases p9)), (fun p10 => (by cases p10))⟩
      · exact absurd hl (by simp)
      · exact absurd hl (by simp)
      · obtain rfl := Option.some.inj ho
        obtain rfl : b8 = false := by simpa using hl
        obtain rfl : b5 = true := by simpa using hall ⟨5, .chain⟩ (by simp) rfl
        obtain rfl := (unhide FC5) rfl
        obtain rfl : b9 = false := Tk_no (fun p => by have h8 := (unhide FC9) p; simp [Tk] at h8)
        obtain rfl : b10 = false := Tk_no (fun p => by have h8 := (unhide FC10) p; simp [Tk] at h8)
        clear ho hl hall hi
        simp only [fillS, pickS_true, pickS_false, Act.put, Array.getD_eq_getD_getElem?, List.getElem?_toArray, List.getElem?_cons_zero, List.getElem?_cons_succ, Option.getD_some, List.getElem_toArray, List.getElem_cons_zero, List.getElem_cons_succ, List.setIfInBounds_toArray, List.set_cons_zero, List.set_cons_succ] at ha
        subst ha
        refine wpOp_stepS (o := _) rfl (fun K hK => ?_)
        go_simp
        refine (lowerGreat_any r h a n c us wi ((unhide HR).mono ((unhide Bu0).trans ((unhide FB).mono (unhide Bu0).size))) hs ((unhide HG).later ((unhide Bu0).trans ((unhide FB).mono (unhide Bu0).size))) ((unhide HU).mono ((unhide Bu0).trans ((unhide FB).mono (unhide Bu0).size))) hn).mono ?_
        rintro e wz ⟨rfl, hb⟩
        go_wp2_with fail
        refine hK.out _ _ ?_
        exact ⟨true, true, true, false, false, rfl, by simp only [fillS, pickS_true, pickS_false, Act.put, Array.getD_eq_getD_getElem?, List.getElem?_toArray, List.getElem?_cons_zero, List.getElem?_cons_succ, Option.getD_some, List.getElem_toArray, List.getElem_cons_zero, List.getElem_cons_succ, List.setIfInBounds_toArray, List.set_cons_zero, List.set_cons_succ], (((unhide FB).trans (hb.mono (unhide FB).size))), (fun p5 => (unhide FC5 p5)), (fun p8 => ⟨rfl, rfl⟩), (fun p9 => (by cases p9)), (fun p10 => (by cases p10))⟩
      · obtain rfl := Option.some.inj ho
        obtain rfl : b9 = false := by simpa using hl
        obtain rfl : b2 = true := by simpa using hall ⟨2, .data⟩ (by simp) rfl
        obtain rfl : b5 = true := by simpa using hall ⟨5, .data⟩ (by simp) rfl
        obtain rfl : b8 = true := by simpa using hall ⟨8, .data⟩ (by simp) rfl
        obtain rfl : b10 = false := Tk_no (fun p => by have h8 := (unhide FC10) p; simp [Tk] at h8)
        clear ho hl hall hi
        simp only [fillS, pickS_true, pickS_false, Act.put, Array.getD_eq_getD_getElem?, List.getElem?_toArray, List.getElem?_cons_zero, List.getElem?_cons_succ, Option.getD_some, List.getElem_toArray, List.getElem_cons_zero, List.getElem_cons_succ, List.setIfInBounds_toArray, List.set_cons_zero, List.set_cons_succ] at ha
        subst ha
        refine wpOp_stepS (o := _) rfl (fun K hK => ?_)
        go_simp
        rw [max_ifs]
        refine hK.out _ _ ?_
        exact ⟨true, true, true, true, false, rfl, by simp only [fillS, pickS_true, pickS_false, Act.put, Array.getD_eq_getD_getElem?, List.getElem?_toArray, List.getElem?_cons_zero, List.getElem?_cons_succ, Option.getD_some, List.getElem_toArray, List.getElem_cons_zero, List.getElem_cons_succ, List.setIfInBounds_toArray, List.set_cons_zero, List.set_cons_succ], ((unhide FB)), (fun p5 => (unhide FC5 p5)), (fun p8 => (unhide FC8 p8)), (fun p9 => ⟨rfl, rfl, rfl⟩), (fun p10 => (by cases p10))⟩
      · obtain rfl := Option.some.inj ho
        obtain rfl : b10 = false := by simpa using hl
        obtain rfl : b9 = true := by simpa using hall ⟨9, .data⟩ (by simp) rfl
        obtain ⟨rfl, rfl, rfl⟩ := (unhide FC9) rfl
        clear ho hl hall hi
        simp only [fillS, pickS_true, pickS_false, Act.put, Array.getD_eq_getD_getElem?, List.getElem?_toArray, List.getElem?_cons_zero, List.getElem?_cons_succ, Option.getD_some, List.getElem_toArray, List.getElem_cons_zero, List.getElem_cons_succ, List.setIfInBounds_toArray, List.set_cons_zero, List.set_cons_succ] at ha
        subst ha
        refine wpOp_stepS (o := _) rfl (fun K hK => ?_)
        go_simp
        refine hK.out _ _ ?_
        exact ⟨true, true, true, true, true, rfl, by simp only [fillS, pickS_true, pickS_false, Act.put, Array.getD_eq_getD_getElem?, List.getElem?_toArray, List.getElem?_cons_zero, List.getElem?_cons_succ, Option.getD_some, List.getElem_toArray, List.getElem_cons_zero, List.getElem_cons_succ, List.setIfInBounds_toArray, List.set_cons_zero, List.set_cons_succ], ((unhide FB)), (fun p5 => (unhide FC5 p5)), (fun p8 => (unhide FC8 p8)), (fun p9 => (unhide FC9 p9)), (fun p10 => ⟨rfl, rfl, rfl, rfl⟩)⟩
    case fin =>
      rintro listed ai wi ⟨b2, b5, b8, b9, b10, rfl, ha, FB, FC5, FC8, FC9, FC10⟩ hall
      obtain rfl : b2 = true := by
        have h9 := hall 2 _ rfl (by
          intro e he hbd
          simp at he
          rcases he with rfl | rfl <;> simp
          )
        simpa using h9
      obtain rfl : b5 = true := by
        have h9 := hall 5 _ rfl (by
          intro e he hbd
          simp at he
          rcases he with rfl | rfl | rfl <;> simp
          )
        simpa using h9
      obtain rfl : b8 = true := by
        have h9 := hall 8 _ rfl (by
          intro e he hbd
          simp at he
          rcases he with rfl | rfl | rfl <;> simp
          )
        simpa using h9
      obtain rfl : b9 = true := by
        have h9 := hall 9 _ rfl (by
          intro e he hbd
          simp at he
          rcases he with rfl | rfl | rfl <;> simp
          )
        simpa using h9
      obtain rfl : b10 = true := by
        have h9 := hall 10 _ rfl (by
          intro e he hbd
          simp at he
          rcases he with rfl | rfl | rfl | rfl | rfl | rfl | rfl | rfl | rfl | rfl | rfl | rfl <;> simp
          )
        simpa using h9
      clear hall
      simp only [fillS, pickS_true, pickS_false, Act.put, Array.getD_eq_getD_getElem?, List.getElem?_toArray, List.getElem?_cons_zero, List.getElem?_cons_succ, Option.getD_some, List.getElem_toArray, List.getElem_cons_zero, List.getElem_cons_succ, List.setIfInBounds_toArray, List.set_cons_zero, List.set_cons_succ] at ha
      subst ha
      refine NoPanic.normal ?_
      have Bwi := hide ((unhide Bu0).trans ((unhide FB).mono (unhide Bu0).size))
      have Kawi := hide (Blk.below (unhide FB) Zau0 (unhide Kau0))
      have Zawi := Nat.lt_of_lt_of_le Zau0 (unhide FB).size
      clear FB FC5 FC8 FC9 FC10
      go_wp2_with fail
      go_meet
      case rel => exact ⟨rfl, unhide Bwi⟩
  case rest =>
    obtain ⟨rfl, hb⟩ := hcut
    have HB := hide hb
    clear hb
    go_wp2
    go_ret
    exact ⟨rfl, unhide HB⟩
end Go.Proofs.YtdmaldjnjffnlaaGreatDoor
