/- IsPacking of the program. -/
import Derived.Test.YtdmaldjnjffnlabGreatDoorTakeImpl
import Derived.Test.YtdmaldjnjffnlabGreatDoorPackerOf
import Derived.Test.YtdmaldjnjffnlabGreatDoorPkE
import Derived.Test.YtdmaldjnjffnlabGreatDoorLowPlain
import Derived.Deep.DeepMust
import Derived.Deep.DeepCutAuto
import Derived.Deep.RegionHeld3
namespace Go.Proofs.YtdmaldjnjffnlabGreatDoor
open Go Go.RowKit
set_option linter.unusedVariables false
set_option linter.unusedSimpArgs false

set_option maxRecDepth 100000 in
set_option maxHeartbeats 8000000 in
theorem isPacking_any (r : ReqV) (h : ReqH) (a : Option Addr) (n c : Nat) (us : List Int) (a2 : Option Addr) (n2 c2 : Nat) (css : List (List Int)) (w : World) (hr : RdReq w r h) (hs : r.small) (hg : ErrT w) (hu : Rd w a n us) (hn : n ≤ 1048576) (hc2 : Rd2 w a2 n2 css) (hn2 : n2 ≤ 1048576) (hcl0 : ∀ k, k < n2 → (css.getD k []).length ≤ 1048576) :
    Calls Tryz.prog 19 #[reqVal r h, .slice a n c, .slice a2 n2 c2] w fun e w' => e = .returned (.bool (packsB r us css)) ∧ Below w.heap.size w w' := by
  have HR := hide hr
  have HG := hide hg
  have HU := hide hu
  have HC := hide hc2
  have hcsl := hc2.1
  have HCL := hide hcl0
  have hN12 := unitsR_len r
  clear hr hg hu hc2 hcl0
  unfold reqVal
  go_enter Tryz.func19, Tryz.ntmps19
  go_wp2_with fail
  have BW : Hid (Below w.heap.size w (w.alloc (.cells #[.int .i64 r.way, .int .i64 r.pal.wd, .int .i64 r.pal.dp, .int .i64 r.pal.ht, .int .i64 r.pal.gram, .int .i64 r.classes, .slice h.ap r.pairs.length h.cp, .slice h.at' r.types.length h.ct, .int .i64 r.master, .slice h.ai r.items.length h.ci] 37))) := ((Below.refl _ _).alloc (by simp) _)
  have KaW : Hid (Blk (w.alloc (.cells #[.int .i64 r.way, .int .i64 r.pal.wd, .int .i64 r.pal.dp, .int .i64 r.pal.ht, .int .i64 r.pal.gram, .int .i64 r.classes, .slice h.ap r.pairs.length h.cp, .slice h.at' r.types.length h.ct, .int .i64 r.master, .slice h.ai r.items.length h.ci] 37)) w.heap.size [.int .i64 r.way, .int .i64 r.pal.wd, .int .i64 r.pal.dp, .int .i64 r.pal.ht, .int .i64 r.pal.gram, .int .i64 r.classes, .slice h.ap r.pairs.length h.cp, .slice h.at' r.types.length h.ct, .int .i64 r.master, .slice h.ai r.items.length h.ci]) := (Blk.allocAt (w := w) [.int .i64 r.way, .int .i64 r.pal.wd, .int .i64 r.pal.dp, .int .i64 r.pal.ht, .int .i64 r.pal.gram, .int .i64 r.classes, .slice h.ap r.pairs.length h.cp, .slice h.at' r.types.length h.ct, .int .i64 r.master, .slice h.ai r.items.length h.ci] (by simp))
  have ZaW : w.heap.size < (w.alloc (.cells #[.int .i64 r.way, .int .i64 r.pal.wd, .int .i64 r.pal.dp, .int .i64 r.pal.ht, .int .i64 r.pal.gram, .int .i64 r.classes, .slice h.ap r.pairs.length h.cp, .slice h.at' r.types.length h.ct, .int .i64 r.master, .slice h.ai r.items.length h.ci] 37)).heap.size := by simp
  have Ga : w.heap.size ≤ w.heap.size := by omega
  generalize (w.alloc (.cells #[.int .i64 r.way, .int .i64 r.pal.wd, .int .i64 r.pal.dp, .int .i64 r.pal.ht, .int .i64 r.pal.gram, .int .i64 r.classes, .slice h.ap r.pairs.length h.cp, .slice h.at' r.types.length h.ct, .int .i64 r.master, .slice h.ai r.items.length h.ci] 37)) = W at *
  refine (class_any r h _ ((unhide HR).mono (unhide BW)) hs ((unhide HG).later (unhide BW))).mono ?_
  rintro e v1 ⟨rfl, hb⟩
  have Bv1 := hide ((unhide BW).trans (hb.mono (unhide BW).size))
  have Kav1 := hide (Blk.below hb ZaW (unhide KaW))
  have Zav1 := Nat.lt_of_lt_of_le ZaW hb.size
  clear hb
  clear BW KaW ZaW
  by_cases hz : classI r = 0
  case neg =>
    have hnz : (classI r != 0) = true := by simp [hz]
    have HE : Hid (packsB r us css = false) := packs_not hz
    clear hz
    go_wp2
    go_ret
    exact ⟨ret_boolF (unhide HE).symm, unhide Bv1⟩
  have HZ := hide hz
  rw [hz]
  clear hz
  obtain ⟨ca0, ca1, ca2, ca3, ca4, ca5, ca6, ca7, ca8, ca9⟩ := Blk.cs10 (unhide Kav1)
  go_wp2_with fail
  clear ca0 ca1 ca2 ca3 ca4 ca5 ca6 ca7 ca8 ca9
  refine (packerOf_any r h _ ((unhide HR).mono (unhide Bv1)) hs ((unhide HG).later (unhide Bv1))).mono ?_
  rintro e v2 ⟨Bk, eb, ec, ea, rfl, hB1, hB2, hBl, hea, hE, hne, hb⟩
  have Bv2 := hide ((unhide Bv1).trans (hb.mono (unhide Bv1).size))
  have Kav2 := hide (Blk.below hb Zav1 (unhide Kav1))
  have Zav2 := Nat.lt_of_lt_of_le Zav1 hb.size
  clear hb
  clear Bv1 Kav1 Zav1
  have HBL := hide hBl
  have HEA := hide hea
  have HE := hide hE
  have HBW := Bv2
  clear hBl hea hE Bv2 hB1 hne
  obtain ⟨wb, hwb⟩ : ∃ x : World, x = v2 := ⟨_, rfl⟩
  subst hwb
  go_wp2_with fail
  refine (howOften_any (itemsR r) Bk (unitsR r).length ec ea _ _ _ _ a n c us wb (unhide HBL) hB2 rfl (by omega) ((unhide HU).mono (unhide HBW)) hn).mono ?_
  rintro e w2 ⟨F, rfl, hF, hFb, hFlt, hb⟩
  have HF2 := hide hF
  have HB2 := hide hb
  have HO1 := hide (oftenL_le (unitsR r).length (knownL (itemsR r) us))
  have hol := oftenL_len (unitsR r).length (knownL (itemsR r) us)
  have hkl := knownL_len (itemsR r) us
  have hul := (unhide HU).1
  have HLF : Hid (∀ v, v < (oftenL (unitsR r).length (knownL (itemsR r) us)).length → (oftenL (unitsR r).length (knownL (itemsR r) us)).getD v 0 ≤ 1048576) := fun v hv => by have := (unhide HO1) v hv; omega
  have HPN := hide (fun (hh : takeL (oftenL (unitsR r).length (knownL (itemsR r) us)) css.flatten = none) => packs_none hh)
  have HPS := hide (fun (lf : List Nat) (hc : css.all (cartonB r) = true) (hh : takeL (oftenL (unitsR r).length (knownL (itemsR r) us)) css.flatten = some lf) => packs_some (us := us) (unhide HZ) hc hh)
  have HPC := hide (fun (k : Nat) (hk : k < css.length) (hh : cartonB r (css.getD k []) = false) => packs_carton (us := us) hk hh)
  have HCB : Hid (∀ cc : List Int, cartonB r cc = (!cc.isEmpty && (decide (volOf (itemsR r) cc ≤ vol (masterV r).wd (masterV r).ht (masterV r).dp) && decide (gramOf (itemsR r) cc ≤ (masterV r).gram)))) := fun cc => rfl
  clear hF hb HO1 hkl hul
  generalize oftenL (unitsR r).length (knownL (itemsR r) us) = lf0 at *
  generalize vol (masterV r).wd (masterV r).ht (masterV r).dp = mv at *
  generalize (masterV r).gram = mg at *
  go_wp2_with fail
  go_loopw [23] (fun i wr => ∃ (k : Nat) (lf : List Nat), k ≤ n2 ∧ i = .int .i64 k ∧ takeL lf0 (css.take k).flatten = some lf ∧ (css.take k).all (cartonB r) = true ∧ Blk wr F (cellsN lf) ∧ F < wr.heap.size ∧ Below wb.heap.size wb wr) (fun i _ => n2 - (intOf i).toNat)
  case atStart => exact ⟨0, lf0, Nat.zero_le _, rfl, rfl, rfl, unhide HF2, hFlt, unhide HB2⟩
  case round =>
  clear HF2 HB2
  obtain ⟨k, lf, hk, rfl, htk, hall, hF, hz, hb⟩ := hrel
  have KFwr := hide hF
  have ZFwr := hz
  have Bwr := hide hb
  have HT := hide htk
  have HAL := hide hall
  obtain ⟨hlN0, hlB⟩ := takeL_le htk (unhide HLF)
  have hlN : lf.length = (unitsR r).length := by omega
  by_cases hlk : k < n2
  case pos =>
    obtain ⟨b, off, ai, ci, hua, hcw, hRC⟩ := ((unhide HC).mono (unhide HBW)).2 k hlk
    have hkc : k < css.length := by omega
    have hcl := (unhide HCL) k hlk
    have hc : wr.cell? ⟨b, off + k, none⟩ = some (.slice ai (css.getD k []).length ci) := (hb.cell (World.block_lt_of_cell? wb _ hcw)).trans hcw
    subst hua
    have HRC := hide hRC
    have HNX := hide (take_next hkc htk)
    have HSTP := hide (take_stop hkc htk)
    have HAT := hide (all_take (cartonB r) css k hkc hall)
    have HPK := hide ((unhide HPC) k hkc)
    have HCK := hide ((unhide HCB) (css.getD k []))
    have Kpwr := hide (Blk.below hb hB2 (unhide HBL))
    have Zpwr := Nat.lt_of_lt_of_le hB2 hb.size
    clear hF hz htk hall hcw hRC hb
    generalize css.getD k [] = cc at *
    by_cases hz0 : cc.length = 0
    · have HP0 := hide ((unhide HPK) (by rw [unhide HCK, List.isEmpty_iff_length_eq_zero.2 hz0]; rfl))
      have hcd : (((cc.length : Nat) : Int) == 0) = true := by rw [hz0]; rfl
      rw [hz0] at hc
      go_wp2_with fail
      go_cut [46] (fun v wc => v = .bool true ∧ Below wb.heap.size wb wc)
      case first =>
        refine wp_region_noPanic ?_
        have Bu0 : Hid (Below wb.heap.size wb wr.drew) := (unhide Bwr).drew
        have Kpu0 : Hid (Blk wr.drew Bk [.slice ea (unitsR r).length ec, .int .i64 mv, .int .i64 mg, .slice none 0 0, .slice none 0 0]) := unhide Kpwr
        have Zpu0 : Bk < wr.drew.heap.size := Zpwr
        have KFu0 : Hid (Blk wr.drew F (cellsN lf)) := unhide KFwr
        have ZFu0 : F < wr.drew.heap.size := ZFwr
        obtain ⟨S, hSdef⟩ : ∃ S : World → Prop, S = (fun w' => True) := ⟨_, rfl⟩
        have hSmk : ∀ wq, S wq := fun wq  => by rw [hSdef]; exact trivial
        have hSd : ∀ wq, S wq → (fun w' => True) wq := fun wq h => by rw [hSdef] at h; exact h
        clear hSdef
        have hHeld : S wr.drew := hSmk wr.drew 
        refine wp_region_to (S := S) (T := []) (by kernel_rfl) hHeld (fun _ => ?_)
        generalize wr.drew = u0 at *
        refine wpTo_tk (i := 0) (v := ?_) rfl (by kernel_rfl) (Or.inl ⟨by rfl, ?_⟩) (by assumption) ?_
        rotate_left
        · intro w hSw
          have hSw := hSd _ hSw
          (try dsimp only at hSw)
          go_simp <;> with_reducible rfl
        (try simp only [Act.put, List.getElem_toArray, List.getElem_cons_zero, List.getElem_cons_succ, List.setIfInBounds_toArray, List.set_cons_zero, List.set_cons_succ])
        refine wpTo_tk (i := 1) (v := ?_) rfl (by kernel_rfl) (Or.inl ⟨by rfl, ?_⟩) (by assumption) ?_
        rotate_left
        · intro w hSw
          have hSw := hSd _ hSw
          (try dsimp only at hSw)
          go_simp <;> with_reducible rfl
        (try simp only [Act.put, List.getElem_toArray, List.getElem_cons_zero, List.getElem_cons_succ, List.setIfInBounds_toArray, List.set_cons_zero, List.set_cons_succ])
        refine wpTo_tk (i := 2) (v := ?_) rfl (by kernel_rfl) (Or.inl ⟨by rfl, ?_⟩) (by assumption) ?_
        rotate_left
        · intro w hSw
          have hSw := hSd _ hSw
          (try dsimp only at hSw)
          go_simp <;> with_reducible rfl
        (try simp only [Act.put, List.getElem_toArray, List.getElem_cons_zero, List.getElem_cons_succ, List.setIfInBounds_toArray, List.set_cons_zero, List.set_cons_succ])
        refine wpTo_tk (i := 3) (v := ?_) rfl (by kernel_rfl) (Or.inl ⟨by rfl, ?_⟩) (by assumption) ?_
        rotate_left
        · intro w hSw
          have hSw := hSd _ hSw
          (try dsimp only at hSw)
          go_simp <;> with_reducible rfl
        (try simp only [Act.put, List.getElem_toArray, List.getElem_cons_zero, List.getElem_cons_succ, List.setIfInBounds_toArray, List.set_cons_zero, List.set_cons_succ])
        refine wpTo_tk (i := 4) (v := undef) rfl (by kernel_rfl) (Or.inr ⟨by rfl, rfl⟩) (by assumption) ?_
        (try simp only [Act.put, List.getElem_toArray, List.getElem_cons_zero, List.getElem_cons_succ, List.setIfInBounds_toArray, List.set_cons_zero, List.set_cons_succ])
        refine wpTo_tk (i := 5) (v := undef) rfl (by kernel_rfl) (Or.inr ⟨by rfl, rfl⟩) (by assumption) ?_
        (try simp only [Act.put, List.getElem_toArray, List.getElem_cons_zero, List.getElem_cons_succ, List.setIfInBounds_toArray, List.set_cons_zero, List.set_cons_succ])
        refine wpTo_ready (rs := [6]) (by kernel_rfl) (by simp) ?_
        refine AllTo.cons (o := _) rfl (fun K hK => ?_) ?_
        ·
         skip
         rw [if_neg (by first | decide | (intro h; cases h))]
         refine hK.out _ _ (fun _ => hHeld) ?_
         clear hK K
         (try simp only [Act.put, List.getElem_toArray, List.getElem_cons_zero, List.getElem_cons_succ, List.setIfInBounds_toArray, List.set_cons_zero, List.set_cons_succ])
         refine wpTo_tk (i := 7) (v := undef) rfl (by kernel_rfl) (Or.inr ⟨by rfl, rfl⟩) (by assumption) ?_
         (try simp only [Act.put, List.getElem_toArray, List.getElem_cons_zero, List.getElem_cons_succ, List.setIfInBounds_toArray, List.set_cons_zero, List.set_cons_succ])
         refine wpTo_tk (i := 8) (v := ?_) rfl (by kernel_rfl) (Or.inl ⟨by rfl, ?_⟩) (by assumption) ?_
         rotate_left
         · intro w hSw
           have hSw := hSd _ hSw
           (try dsimp only at hSw)
           go_simp <;> with_reducible rfl
         (try simp only [Act.put, List.getElem_toArray, List.getElem_cons_zero, List.getElem_cons_succ, List.setIfInBounds_toArray, List.set_cons_zero, List.set_cons_succ])
         refine wpTo_tk (i := 9) (v := ?_) rfl (by kernel_rfl) (Or.inl ⟨by rfl, ?_⟩) (by assumption) ?_
         rotate_left
         · intro w hSw
           have hSw := hSd _ hSw
           (try dsimp only at hSw)
           go_simp <;> with_reducible rfl
         (try simp only [Act.put, List.getElem_toArray, List.getElem_cons_zero, List.getElem_cons_succ, List.setIfInBounds_toArray, List.set_cons_zero, List.set_cons_succ])
         refine wpTo_tk (i := 10) (v := undef) rfl (by kernel_rfl) (Or.inr ⟨by rfl, rfl⟩) (by assumption) ?_
         (try simp only [Act.put, List.getElem_toArray, List.getElem_cons_zero, List.getElem_cons_succ, List.setIfInBounds_toArray, List.set_cons_zero, List.set_cons_succ])
         refine wpTo_tk (i := 11) (v := undef) rfl (by kernel_rfl) (Or.inr ⟨by rfl, rfl⟩) (by assumption) ?_
         (try simp only [Act.put, List.getElem_toArray, List.getElem_cons_zero, List.getElem_cons_succ, List.setIfInBounds_toArray, List.set_cons_zero, List.set_cons_succ])
         refine wpTo_tk (i := 13) (v := undef) rfl (by kernel_rfl) (Or.inr ⟨by rfl, rfl⟩) (by assumption) ?_
         (try simp only [Act.put, List.getElem_toArray, List.getElem_cons_zero, List.getElem_cons_succ, List.setIfInBounds_toArray, List.set_cons_zero, List.set_cons_succ])
         refine wpTo_tk (i := 14) (v := undef) rfl (by kernel_rfl) (Or.inr ⟨by rfl, rfl⟩) (by assumption) ?_
         (try simp only [Act.put, List.getElem_toArray, List.getElem_cons_zero, List.getElem_cons_succ, List.setIfInBounds_toArray, List.set_cons_zero, List.set_cons_succ])
         refine wpTo_tk (i := 15) (v := undef) rfl (by kernel_rfl) (Or.inr ⟨by rfl, rfl⟩) (by assumption) ?_
         (try simp only [Act.put, List.getElem_toArray, List.getElem_cons_zero, List.getElem_cons_succ, List.setIfInBounds_toArray, List.set_cons_zero, List.set_cons_succ])
         refine wpTo_tk (i := 16) (v := undef) rfl (by kernel_rfl) (Or.inr ⟨by rfl, rfl⟩) (by assumption) ?_
         (try simp only [Act.put, List.getElem_toArray, List.getElem_cons_zero, List.getElem_cons_succ, List.setIfInBounds_toArray, List.set_cons_zero, List.set_cons_succ])
         refine wpTo_ready (rs := [12]) (by kernel_rfl) (by simp) ?_
         refine AllTo.cons (o := _) rfl (fun K hK => ?_) ?_
         ·
          skip
          rw [if_neg (by first | decide | (intro h; cases h))]
          refine hK.out _ _ (fun _ => hHeld) ?_
          clear hK K
          (try simp only [Act.put, List.getElem_toArray, List.getElem_cons_zero, List.getElem_cons_succ, List.setIfInBounds_toArray, List.set_cons_zero, List.set_cons_succ])
          refine wpTo_ready (rs := [17]) (by kernel_rfl) (by simp) ?_
          refine AllTo.cons (o := _) rfl (fun K hK => ?_) ?_
          ·
           skip
           rw [if_neg (by first | decide | (intro h; cases h))]
           refine hK.out _ _ (fun _ => hHeld) ?_
           clear hK K
           (try simp only [Act.put, List.getElem_toArray, List.getElem_cons_zero, List.getElem_cons_succ, List.setIfInBounds_toArray, List.set_cons_zero, List.set_cons_succ])
           refine wpTo_tk (i := 18) (v := undef) rfl (by kernel_rfl) (Or.inr ⟨by rfl, rfl⟩) (by assumption) ?_
           (try simp only [Act.put, List.getElem_toArray, List.getElem_cons_zero, List.getElem_cons_succ, List.setIfInBounds_toArray, List.set_cons_zero, List.set_cons_succ])
           refine wpTo_tk (i := 19) (v := ?_) rfl (by kernel_rfl) (Or.inl ⟨by rfl, ?_⟩) (by assumption) ?_
           rotate_left
           · intro w hSw
             have hSw := hSd _ hSw
             (try dsimp only at hSw)
             go_simp <;> with_reducible rfl
           (try simp only [Act.put, List.getElem_toArray, List.getElem_cons_zero, List.getElem_cons_succ, List.setIfInBounds_toArray, List.set_cons_zero, List.set_cons_succ])
           refine wpTo_done (by kernel_rfl) ?_ _
           refine NoPanic.normal ?_
           go_wp2_with fail
           go_meet
           case rel => exact ⟨rfl, unhide Bu0⟩
          exact AllTo.nil
         exact AllTo.nil
        exact AllTo.nil
      case rest =>
        obtain ⟨rfl, hb⟩ := hcut
        have HB := hide ((unhide HBW).trans (hb.mono (unhide HBW).size))
        clear hb
        go_wp2
        go_ret
        exact ⟨ret_boolF (unhide HP0).symm, unhide HB⟩
    have hab : ∀ x, ai = some x → x.block < wb.heap.size := fun x hx => by
      obtain ⟨b', off', e, hcc⟩ := (unhide HRC).2 0 (by omega)
      rw [hx] at e
      injection e with e
      have := World.block_lt_of_cell? wb _ hcc
      rw [e]
      exact this
    have hz1 : ¬ ((cc.length : Nat) : Int) = 0 := by omega
    have hz2 : (((cc.length : Nat) : Int) == 0) = false := beq_eq_false_iff_ne.2 hz1
    have hz3 : decide (((cc.length : Nat) : Int) = 0) = false := decide_eq_false hz1
    cases htl : takeL lf cc with
    | none =>
      have HTN := hide htl
      have HP0 := hide ((unhide HPN) ((unhide HSTP) htl))
      clear htl
      go_wp2_with fail
      go_cut [46] (fun v wc => v = .bool true ∧ Below wb.heap.size wb wc)
      case first =>
        refine wp_region_noPanic ?_
        have Bu0 : Hid (Below wb.heap.size wb wr.drew) := (unhide Bwr).drew
        have Kpu0 : Hid (Blk wr.drew Bk [.slice ea (unitsR r).length ec, .int .i64 mv, .int .i64 mg, .slice none 0 0, .slice none 0 0]) := unhide Kpwr
        have Zpu0 : Bk < wr.drew.heap.size := Zpwr
        have KFu0 : Hid (Blk wr.drew F (cellsN lf)) := unhide KFwr
        have ZFu0 : F < wr.drew.heap.size := ZFwr
        obtain ⟨S, hSdef⟩ : ∃ S : World → Prop, S = (fun w' => True) := ⟨_, rfl⟩
        have hSmk : ∀ wq, S wq := fun wq  => by rw [hSdef]; exact trivial
        have hSd : ∀ wq, S wq → (fun w' => True) wq := fun wq h => by rw [hSdef] at h; exact h
        clear hSdef
        have hHeld : S wr.drew := hSmk wr.drew 
        refine wp_region_to (S := S) (T := []) (by kernel_rfl) hHeld (fun _ => ?_)
        generalize wr.drew = u0 at *
        refine wpTo_tk (i := 0) (v := ?_) rfl (by kernel_rfl) (Or.inl ⟨by rfl, ?_⟩) (by assumption) ?_
        rotate_left
        · intro w hSw
          have hSw := hSd _ hSw
          (try dsimp only at hSw)
          go_simp <;> with_reducible rfl
        (try simp only [Act.put, List.getElem_toArray, List.getElem_cons_zero, List.getElem_cons_succ, List.setIfInBounds_toArray, List.set_cons_zero, List.set_cons_succ])
        refine wpTo_tk (i := 1) (v := ?_) rfl (by kernel_rfl) (Or.inl ⟨by rfl, ?_⟩) (by assumption) ?_
        rotate_left
        · intro w hSw
          have hSw := hSd _ hSw
          (try dsimp only at hSw)
          go_simp <;> with_reducible rfl
        (try simp only [Act.put, List.getElem_toArray, List.getElem_cons_zero, List.getElem_cons_succ, List.setIfInBounds_toArray, List.set_cons_zero, List.set_cons_succ])
        refine wpTo_tk (i := 2) (v := ?_) rfl (by kernel_rfl) (Or.inl ⟨by rfl, ?_⟩) (by assumption) ?_
        rotate_left
        · intro w hSw
          have hSw := hSd _ hSw
          (try dsimp only at hSw)
          go_simp <;> with_reducible rfl
        (try simp only [Act.put, List.getElem_toArray, List.getElem_cons_zero, List.getElem_cons_succ, List.setIfInBounds_toArray, List.set_cons_zero, List.set_cons_succ])
        refine wpTo_tk (i := 3) (v := ?_) rfl (by kernel_rfl) (Or.inl ⟨by rfl, ?_⟩) (by assumption) ?_
        rotate_left
        · intro w hSw
          have hSw := hSd _ hSw
          (try dsimp only at hSw)
          go_simp <;> with_reducible rfl
        (try simp only [Act.put, List.getElem_toArray, List.getElem_cons_zero, List.getElem_cons_succ, List.setIfInBounds_toArray, List.set_cons_zero, List.set_cons_succ])
        refine wpTo_tk (i := 4) (v := ?_) rfl (by kernel_rfl) (Or.inl ⟨by rfl, ?_⟩) (by assumption) ?_
        rotate_left
        · intro w hSw
          have hSw := hSd _ hSw
          (try dsimp only at hSw)
          go_simp <;> with_reducible rfl
        (try simp only [Act.put, List.getElem_toArray, List.getElem_cons_zero, List.getElem_cons_succ, List.setIfInBounds_toArray, List.set_cons_zero, List.set_cons_succ])
        refine wpTo_tk (i := 5) (v := ?_) rfl (by kernel_rfl) (Or.inl ⟨by rfl, ?_⟩) (by assumption) ?_
        rotate_left
        · intro w hSw
          have hSw := hSd _ hSw
          (try dsimp only at hSw)
          go_simp <;> with_reducible rfl
        (try simp only [Act.put, List.getElem_toArray, List.getElem_cons_zero, List.getElem_cons_succ, List.setIfInBounds_toArray, List.set_cons_zero, List.set_cons_succ])
        refine wpTo_ready (rs := [6]) (by kernel_rfl) (by simp) ?_
        refine AllTo.cons (o := _) rfl (fun K hK => ?_) ?_
        ·
         (try simp only [List.getElem_toArray, List.getElem_cons_zero, List.getElem_cons_succ])
         go_simp
         refine (takenFrom_any F (unitsR r).length (unitsR r).length ai cc.length ci cc lf u0 (unhide KFu0) hlN ZFu0 (by omega) hlB ((unhide HRC).mono (unhide Bu0)) (fun x hx => ⟨by have := hab x hx; have := (unhide Bu0).size; omega, by have := hab x hx; omega⟩) hcl).mono ?_
         rintro e u1 ⟨bt, rfl, hb0, hb1, hfr⟩
         have Bu1 := hide ((unhide Bu0).trans (hfr.below (B := wb.heap.size) (unhide Bu0).size hFb))
         have Kpu1 := hide ((unhide Kpu0).keep (hfr.block Bk Zpu0 (by omega)))
         have Zpu1 := Nat.lt_of_lt_of_le Zpu0 hfr.size
         have hbf : bt = false := by
           cases bt
           · rfl
           · obtain ⟨l9, h9, _⟩ := hb1 rfl
             rw [(unhide HTN)] at h9
             cases h9
         subst hbf
         have ZFu1 := Nat.lt_of_lt_of_le ZFu0 hfr.size
         clear hb0 hb1 hfr Bu0 Kpu0 Zpu0 KFu0 ZFu0 hHeld
         go_wp2_with fail
         have hHeld := hSmk u1 
         refine hK.out _ _ (fun _ => hHeld) ?_
         clear hK K
         (try simp only [Act.put, List.getElem_toArray, List.getElem_cons_zero, List.getElem_cons_succ, List.setIfInBounds_toArray, List.set_cons_zero, List.set_cons_succ])
         refine wpTo_tk (i := 7) (v := ?_) rfl (by kernel_rfl) (Or.inl ⟨by rfl, ?_⟩) (by assumption) ?_
         rotate_left
         · intro w hSw
           have hSw := hSd _ hSw
           (try dsimp only at hSw)
           go_simp <;> with_reducible rfl
         (try simp only [Act.put, List.getElem_toArray, List.getElem_cons_zero, List.getElem_cons_succ, List.setIfInBounds_toArray, List.set_cons_zero, List.set_cons_succ])
         refine wpTo_tk (i := 8) (v := ?_) rfl (by kernel_rfl) (Or.inl ⟨by rfl, ?_⟩) (by assumption) ?_
         rotate_left
         · intro w hSw
           have hSw := hSd _ hSw
           (try dsimp only at hSw)
           go_simp <;> with_reducible rfl
         (try simp only [Act.put, List.getElem_toArray, List.getElem_cons_zero, List.getElem_cons_succ, List.setIfInBounds_toArray, List.set_cons_zero, List.set_cons_succ])
         refine wpTo_tk (i := 9) (v := ?_) rfl (by kernel_rfl) (Or.inl ⟨by rfl, ?_⟩) (by assumption) ?_
         rotate_left
         · intro w hSw
           have hSw := hSd _ hSw
           (try dsimp only at hSw)
           go_simp <;> with_reducible rfl
         (try simp only [Act.put, List.getElem_toArray, List.getElem_cons_zero, List.getElem_cons_succ, List.setIfInBounds_toArray, List.set_cons_zero, List.set_cons_succ])
         refine wpTo_tk (i := 10) (v := undef) rfl (by kernel_rfl) (Or.inr ⟨by rfl, rfl⟩) (by assumption) ?_
         (try simp only [Act.put, List.getElem_toArray, List.getElem_cons_zero, List.getElem_cons_succ, List.setIfInBounds_toArray, List.set_cons_zero, List.set_cons_succ])
         refine wpTo_tk (i := 11) (v := undef) rfl (by kernel_rfl) (Or.inr ⟨by rfl, rfl⟩) (by assumption) ?_
         (try simp only [Act.put, List.getElem_toArray, List.getElem_cons_zero, List.getElem_cons_succ, List.setIfInBounds_toArray, List.set_cons_zero, List.set_cons_succ])
         refine wpTo_tk (i := 13) (v := undef) rfl (by kernel_rfl) (Or.inr ⟨by rfl, rfl⟩) (by assumption) ?_
         (try simp only [Act.put, List.getElem_toArray, List.getElem_cons_zero, List.getElem_cons_succ, List.setIfInBounds_toArray, List.set_cons_zero, List.set_cons_succ])
         refine wpTo_tk (i := 14) (v := undef) rfl (by kernel_rfl) (Or.inr ⟨by rfl, rfl⟩) (by assumption) ?_
         (try simp only [Act.put, List.getElem_toArray, List.getElem_cons_zero, List.getElem_cons_succ, List.setIfInBounds_toArray, List.set_cons_zero, List.set_cons_succ])
         refine wpTo_tk (i := 15) (v := undef) rfl (by kernel_rfl) (Or.inr ⟨by rfl, rfl⟩) (by assumption) ?_
         (try simp only [Act.put, List.getElem_toArray, List.getElem_cons_zero, List.getElem_cons_succ, List.setIfInBounds_toArray, List.set_cons_zero, List.set_cons_succ])
         refine wpTo_tk (i := 16) (v := undef) rfl (by kernel_rfl) (Or.inr ⟨by rfl, rfl⟩) (by assumption) ?_
         (try simp only [Act.put, List.getElem_toArray, List.getElem_cons_zero, List.getElem_cons_succ, List.setIfInBounds_toArray, List.set_cons_zero, List.set_cons_succ])
         refine wpTo_ready (rs := [12]) (by kernel_rfl) (by simp) ?_
         refine AllTo.cons (o := _) rfl (fun K hK => ?_) ?_
         ·
          skip
          rw [if_neg (by first | decide | (intro h; cases h))]
          refine hK.out _ _ (fun _ => hHeld) ?_
          clear hK K
          (try simp only [Act.put, List.getElem_toArray, List.getElem_cons_zero, List.getElem_cons_succ, List.setIfInBounds_toArray, List.set_cons_zero, List.set_cons_succ])
          refine wpTo_ready (rs := [17]) (by kernel_rfl) (by simp) ?_
          refine AllTo.cons (o := _) rfl (fun K hK => ?_) ?_
          ·
           skip
           rw [if_neg (by first | decide | (intro h; cases h))]
           refine hK.out _ _ (fun _ => hHeld) ?_
           clear hK K
           (try simp only [Act.put, List.getElem_toArray, List.getElem_cons_zero, List.getElem_cons_succ, List.setIfInBounds_toArray, List.set_cons_zero, List.set_cons_succ])
           refine wpTo_tk (i := 18) (v := undef) rfl (by kernel_rfl) (Or.inr ⟨by rfl, rfl⟩) (by assumption) ?_
           (try simp only [Act.put, List.getElem_toArray, List.getElem_cons_zero, List.getElem_cons_succ, List.setIfInBounds_toArray, List.set_cons_zero, List.set_cons_succ])
           refine wpTo_tk (i := 19) (v := ?_) rfl (by kernel_rfl) (Or.inl ⟨by rfl, ?_⟩) (by assumption) ?_
           rotate_left
           · intro w hSw
             have hSw := hSd _ hSw
             (try dsimp only at hSw)
             go_simp <;> with_reducible rfl
           (try simp only [Act.put, List.getElem_toArray, List.getElem_cons_zero, List.getElem_cons_succ, List.setIfInBounds_toArray, List.set_cons_zero, List.set_cons_succ])
           refine wpTo_done (by kernel_rfl) ?_ _
           refine NoPanic.normal ?_
           go_wp2_with fail
           go_meet
           case rel => exact ⟨rfl, unhide Bu1⟩
          exact AllTo.nil
         exact AllTo.nil
        exact AllTo.nil
      case rest =>
        obtain ⟨rfl, hb⟩ := hcut
        have HB := hide ((unhide HBW).trans (hb.mono (unhide HBW).size))
        clear hb
        go_wp2
        go_ret
        exact ⟨ret_boolF (unhide HP0).symm, unhide HB⟩
    | some lf2 =>
      have HTS := hide htl
      have HINC : Hid (∀ j, j < cc.length → ∃ v : Nat, cc.getD j 0 = v ∧ v < (unitsR r).length) := fun j hj => by
        have hm : cc.getD j 0 ∈ cc := by rw [List.getD_eq_getElem?_getD (l := cc), List.getElem?_eq_getElem hj]; exact List.getElem_mem hj
        have h2 := (takeL_some htl).2.1 _ hm
        exact ⟨(cc.getD j 0).toNat, by omega, by omega⟩
      clear htl
      go_wp2_with fail
      go_cut [46] (fun v wc => v = .bool (!(decide (volOf (itemsR r) cc ≤ mv) && decide (gramOf (itemsR r) cc ≤ mg))) ∧ Blk wc F (cellsN lf2) ∧ F < wc.heap.size ∧ Below wb.heap.size wb wc)
      case first =>
        refine wp_region_noPanic ?_
        have Bu0 : Hid (Below wb.heap.size wb wr.drew) := (unhide Bwr).drew
        have Kpu0 : Hid (Blk wr.drew Bk [.slice ea (unitsR r).length ec, .int .i64 mv, .int .i64 mg, .slice none 0 0, .slice none 0 0]) := unhide Kpwr
        have Zpu0 : Bk < wr.drew.heap.size := Zpwr
        have KFu0 : Hid (Blk wr.drew F (cellsN lf)) := unhide KFwr
        have ZFu0 : F < wr.drew.heap.size := ZFwr
        obtain ⟨S, hSdef⟩ : ∃ S : World → Prop, S = (fun w' => w'.cell? ⟨Bk, 1, none⟩ = some (.int .i64 mv) ∧ w'.cell? ⟨Bk, 2, none⟩ = some (.int .i64 mg)) := ⟨_, rfl⟩
        have hSmk : ∀ wq, Blk wq Bk [.slice ea (unitsR r).length ec, .int .i64 mv, .int .i64 mg, .slice none 0 0, .slice none 0 0] → S wq := fun wq kp => by rw [hSdef]; exact ⟨(kp 1 (by simp)).1, (kp 2 (by simp)).1⟩
        have hSd : ∀ wq, S wq → (fun w' => w'.cell? ⟨Bk, 1, none⟩ = some (.int .i64 mv) ∧ w'.cell? ⟨Bk, 2, none⟩ = some (.int .i64 mg)) wq := fun wq h => by rw [hSdef] at h; exact h
        clear hSdef
        have hHeld : S wr.drew := hSmk wr.drew (unhide Kpu0)
        refine wp_region_to (S := S) (T := []) (by kernel_rfl) hHeld (fun _ => ?_)
        generalize wr.drew = u0 at *
        refine wpTo_tk (i := 0) (v := ?_) rfl (by kernel_rfl) (Or.inl ⟨by rfl, ?_⟩) (by assumption) ?_
        rotate_left
        · intro w hSw
          have hSw := hSd _ hSw
          (try dsimp only at hSw)
          go_simp <;> with_reducible rfl
        (try simp only [Act.put, List.getElem_toArray, List.getElem_cons_zero, List.getElem_cons_succ, List.setIfInBounds_toArray, List.set_cons_zero, List.set_cons_succ])
        refine wpTo_tk (i := 1) (v := ?_) rfl (by kernel_rfl) (Or.inl ⟨by rfl, ?_⟩) (by assumption) ?_
        rotate_left
        · intro w hSw
          have hSw := hSd _ hSw
          (try dsimp only at hSw)
          go_simp <;> with_reducible rfl
        (try simp only [Act.put, List.getElem_toArray, List.getElem_cons_zero, List.getElem_cons_succ, List.setIfInBounds_toArray, List.set_cons_zero, List.set_cons_succ])
        refine wpTo_tk (i := 2) (v := ?_) rfl (by kernel_rfl) (Or.inl ⟨by rfl, ?_⟩) (by assumption) ?_
        rotate_left
        · intro w hSw
          have hSw := hSd _ hSw
          (try dsimp only at hSw)
          go_simp <;> with_reducible rfl
        (try simp only [Act.put, List.getElem_toArray, List.getElem_cons_zero, List.getElem_cons_succ, List.setIfInBounds_toArray, List.set_cons_zero, List.set_cons_succ])
        refine wpTo_tk (i := 3) (v := ?_) rfl (by kernel_rfl) (Or.inl ⟨by rfl, ?_⟩) (by assumption) ?_
        rotate_left
        · intro w hSw
          have hSw := hSd _ hSw
          (try dsimp only at hSw)
          go_simp <;> with_reducible rfl
        (try simp only [Act.put, List.getElem_toArray, List.getElem_cons_zero, List.getElem_cons_succ, List.setIfInBounds_toArray, List.set_cons_zero, List.set_cons_succ])
        refine wpTo_tk (i := 4) (v := ?_) rfl (by kernel_rfl) (Or.inl ⟨by rfl, ?_⟩) (by assumption) ?_
        rotate_left
        · intro w hSw
          have hSw := hSd _ hSw
          (try dsimp only at hSw)
          go_simp <;> with_reducible rfl
        (try simp only [Act.put, List.getElem_toArray, List.getElem_cons_zero, List.getElem_cons_succ, List.setIfInBounds_toArray, List.set_cons_zero, List.set_cons_succ])
        refine wpTo_tk (i := 5) (v := ?_) rfl (by kernel_rfl) (Or.inl ⟨by rfl, ?_⟩) (by assumption) ?_
        rotate_left
        · intro w hSw
          have hSw := hSd _ hSw
          (try dsimp only at hSw)
          go_simp <;> with_reducible rfl
        (try simp only [Act.put, List.getElem_toArray, List.getElem_cons_zero, List.getElem_cons_succ, List.setIfInBounds_toArray, List.set_cons_zero, List.set_cons_succ])
        refine wpTo_ready (rs := [6]) (by kernel_rfl) (by simp) ?_
        refine AllTo.cons (o := _) rfl (fun K hK => ?_) ?_
        ·
         (try simp only [List.getElem_toArray, List.getElem_cons_zero, List.getElem_cons_succ])
         go_simp
         refine (takenFrom_any F (unitsR r).length (unitsR r).length ai cc.length ci cc lf u0 (unhide KFu0) hlN ZFu0 (by omega) hlB ((unhide HRC).mono (unhide Bu0)) (fun x hx => ⟨by have := hab x hx; have := (unhide Bu0).size; omega, by have := hab x hx; omega⟩) hcl).mono ?_
         rintro e u1 ⟨bt, rfl, hb0, hb1, hfr⟩
         have Bu1 := hide ((unhide Bu0).trans (hfr.below (B := wb.heap.size) (unhide Bu0).size hFb))
         have Kpu1 := hide ((unhide Kpu0).keep (hfr.block Bk Zpu0 (by omega)))
         have Zpu1 := Nat.lt_of_lt_of_le Zpu0 hfr.size
         have hbt : bt = true := by
           cases bt
           · have h9 := hb0 rfl
             rw [(unhide HTS)] at h9
             cases h9
           · rfl
         subst hbt
         obtain ⟨l9, h9, hF9⟩ := hb1 rfl
         rw [(unhide HTS)] at h9
         cases h9
         have HFu1 := hide hF9
         have ZFu1 := Nat.lt_of_lt_of_le ZFu0 hfr.size
         clear hb0 hb1 hfr Bu0 Kpu0 Zpu0 KFu0 ZFu0 hHeld
         go_wp2_with fail
         have KFu1 := HFu1
         have hHeld := hSmk u1 (unhide Kpu1)
         refine hK.out _ _ (fun _ => hHeld) ?_
         clear hK K
         (try simp only [Act.put, List.getElem_toArray, List.getElem_cons_zero, List.getElem_cons_succ, List.setIfInBounds_toArray, List.set_cons_zero, List.set_cons_succ])
         refine wpTo_tk (i := 7) (v := ?_) rfl (by kernel_rfl) (Or.inl ⟨by rfl, ?_⟩) (by assumption) ?_
         rotate_left
         · intro w hSw
           have hSw := hSd _ hSw
           (try dsimp only at hSw)
           go_simp <;> with_reducible rfl
         (try simp only [Act.put, List.getElem_toArray, List.getElem_cons_zero, List.getElem_cons_succ, List.setIfInBounds_toArray, List.set_cons_zero, List.set_cons_succ])
         refine wpTo_tk (i := 8) (v := ?_) rfl (by kernel_rfl) (Or.inl ⟨by rfl, ?_⟩) (by assumption) ?_
         rotate_left
         · intro w hSw
           have hSw := hSd _ hSw
           (try dsimp only at hSw)
           go_simp <;> with_reducible rfl
         (try simp only [Act.put, List.getElem_toArray, List.getElem_cons_zero, List.getElem_cons_succ, List.setIfInBounds_toArray, List.set_cons_zero, List.set_cons_succ])
         refine wpTo_tk (i := 9) (v := ?_) rfl (by kernel_rfl) (Or.inl ⟨by rfl, ?_⟩) (by assumption) ?_
         rotate_left
         · intro w hSw
           have hSw := hSd _ hSw
           (try dsimp only at hSw)
           go_simp <;> with_reducible rfl
         (try simp only [Act.put, List.getElem_toArray, List.getElem_cons_zero, List.getElem_cons_succ, List.setIfInBounds_toArray, List.set_cons_zero, List.set_cons_succ])
         refine wpTo_tk (i := 10) (v := ?_) rfl (by kernel_rfl) (Or.inl ⟨by rfl, ?_⟩) (by assumption) ?_
         rotate_left
         · intro w hSw
           have hSw := hSd _ hSw
           (try dsimp only at hSw)
           go_simp <;> with_reducible rfl
         (try simp only [Act.put, List.getElem_toArray, List.getElem_cons_zero, List.getElem_cons_succ, List.setIfInBounds_toArray, List.set_cons_zero, List.set_cons_succ])
         refine wpTo_tk (i := 11) (v := ?_) rfl (by kernel_rfl) (Or.inl ⟨by rfl, ?_⟩) (by assumption) ?_
         rotate_left
         · intro w hSw
           have hSw := hSd _ hSw
           (try dsimp only at hSw)
           go_simp <;> with_reducible rfl
         (try simp only [Act.put, List.getElem_toArray, List.getElem_cons_zero, List.getElem_cons_succ, List.setIfInBounds_toArray, List.set_cons_zero, List.set_cons_succ])
         refine wpTo_tk (i := 13) (v := ?_) rfl (by kernel_rfl) (Or.inl ⟨by rfl, ?_⟩) (by assumption) ?_
         rotate_left
         · intro w hSw
           have hSw := hSd _ hSw
           (try dsimp only at hSw)
           go_simp <;> with_reducible rfl
         (try simp only [Act.put, List.getElem_toArray, List.getElem_cons_zero, List.getElem_cons_succ, List.setIfInBounds_toArray, List.set_cons_zero, List.set_cons_succ])
         refine wpTo_tk (i := 14) (v := ?_) rfl (by kernel_rfl) (Or.inl ⟨by rfl, ?_⟩) (by assumption) ?_
         rotate_left
         · intro w hSw
           have hSw := hSd _ hSw
           (try dsimp only at hSw)
           go_simp <;> with_reducible rfl
         (try simp only [Act.put, List.getElem_toArray, List.getElem_cons_zero, List.getElem_cons_succ, List.setIfInBounds_toArray, List.set_cons_zero, List.set_cons_succ])
         refine wpTo_tk (i := 15) (v := ?_) rfl (by kernel_rfl) (Or.inl ⟨by rfl, ?_⟩) (by assumption) ?_
         rotate_left
         · intro w hSw
           have hSw := hSd _ hSw
           (try dsimp only at hSw)
           go_simp <;> with_reducible rfl
         (try simp only [Act.put, List.getElem_toArray, List.getElem_cons_zero, List.getElem_cons_succ, List.setIfInBounds_toArray, List.set_cons_zero, List.set_cons_succ])
         refine wpTo_tk (i := 16) (v := ?_) rfl (by kernel_rfl) (Or.inl ⟨by rfl, ?_⟩) (by assumption) ?_
         rotate_left
         · intro w hSw
           have hSw := hSd _ hSw
           (try dsimp only at hSw)
           go_simp <;> with_reducible rfl
         (try simp only [Act.put, List.getElem_toArray, List.getElem_cons_zero, List.getElem_cons_succ, List.setIfInBounds_toArray, List.set_cons_zero, List.set_cons_succ])
         refine wpTo_ready (rs := [12]) (by kernel_rfl) (by simp) ?_
         refine AllTo.cons (o := _) rfl (fun K hK => ?_) ?_
         ·
          (try simp only [List.getElem_toArray, List.getElem_cons_zero, List.getElem_cons_succ])
          go_simp
          refine (together_any (itemsR r) Bk eb (unitsR r).length ec ea _ _ _ _ ai cc.length ci cc u1 (unhide Kpu1) Zpu1 (unhide HEA) ((unhide HE).later (unhide Bu1)) (unhide HINC) ((unhide HRC).mono (unhide Bu1)) (itemsR_good r).gram hcl).mono ?_
          rintro e u2 ⟨rfl, hb⟩
          have Bu2 := hide ((unhide Bu1).trans (hb.mono (unhide Bu1).size))
          have Kpu2 := hide (Blk.below hb Zpu1 (unhide Kpu1))
          have Zpu2 := Nat.lt_of_lt_of_le Zpu1 hb.size
          have KFu2 := hide (Blk.below hb ZFu1 (unhide KFu1))
          have ZFu2 := Nat.lt_of_lt_of_le ZFu1 hb.size
          clear hb
          clear Bu1 Kpu1 Zpu1 KFu1 ZFu1
          clear hHeld
          go_wp2_with fail
          have hHeld := hSmk u2 (unhide Kpu2)
          refine hK.out _ _ (fun _ => hHeld) ?_
          clear hK K
          (try simp only [Act.put, List.getElem_toArray, List.getElem_cons_zero, List.getElem_cons_succ, List.setIfInBounds_toArray, List.set_cons_zero, List.set_cons_succ])
          refine wpTo_ready (rs := [17]) (by kernel_rfl) (by simp) ?_
          refine AllTo.cons (o := _) rfl (fun K hK => ?_) ?_
          ·
           (try simp only [List.getElem_toArray, List.getElem_cons_zero, List.getElem_cons_succ])
           go_simp
           refine (isIn_any _ _ _ _ _).mono ?_
           rintro e u3 ⟨rfl, hb⟩
           have Bu3 := hide ((unhide Bu2).trans (hb.mono (unhide Bu2).size))
           have Kpu3 := hide (Blk.below hb Zpu2 (unhide Kpu2))
           have Zpu3 := Nat.lt_of_lt_of_le Zpu2 hb.size
           have KFu3 := hide (Blk.below hb ZFu2 (unhide KFu2))
           have ZFu3 := Nat.lt_of_lt_of_le ZFu2 hb.size
           clear hb
           clear Bu2 Kpu2 Zpu2 KFu2 ZFu2
           clear hHeld
           go_wp2_with fail
           have hHeld := hSmk u3 (unhide Kpu3)
           refine hK.out _ _ (fun _ => hHeld) ?_
           clear hK K
           (try simp only [Act.put, List.getElem_toArray, List.getElem_cons_zero, List.getElem_cons_succ, List.setIfInBounds_toArray, List.set_cons_zero, List.set_cons_succ])
           refine wpTo_tk (i := 18) (v := ?_) rfl (by kernel_rfl) (Or.inl ⟨by rfl, ?_⟩) (by assumption) ?_
           rotate_left
           · intro w hSw
             have hSw := hSd _ hSw
             (try dsimp only at hSw)
             go_simp <;> with_reducible rfl
           (try simp only [Act.put, List.getElem_toArray, List.getElem_cons_zero, List.getElem_cons_succ, List.setIfInBounds_toArray, List.set_cons_zero, List.set_cons_succ])
           refine wpTo_tk (i := 19) (v := ?_) rfl (by kernel_rfl) (Or.inl ⟨by rfl, ?_⟩) (by assumption) ?_
           rotate_left
           · intro w hSw
             have hSw := hSd _ hSw
             (try dsimp only at hSw)
             go_simp <;> with_reducible rfl
           (try simp only [Act.put, List.getElem_toArray, List.getElem_cons_zero, List.getElem_cons_succ, List.setIfInBounds_toArray, List.set_cons_zero, List.set_cons_succ])
           refine wpTo_done (by kernel_rfl) ?_ _
           refine NoPanic.normal ?_
           go_wp2_with fail
           go_meet
           case rel => exact ⟨by rw [Bool.not_and], unhide KFu3, ZFu3, unhide Bu3⟩
          exact AllTo.nil
         exact AllTo.nil
        exact AllTo.nil
      case rest =>
        obtain ⟨rfl, hF, hz, hb⟩ := hcut
        have HF9 := hide hF
        have HB9 := hide hb
        have hne0 : cc.isEmpty = false := by
          cases he : cc.isEmpty
          · rfl
          · exact absurd (List.isEmpty_iff_length_eq_zero.1 he) hz0
        rw [hne0] at HCK
        clear hF hb
        cases hd : (decide (volOf (itemsR r) cc ≤ mv) && decide (gramOf (itemsR r) cc ≤ mg))
        case false =>
          have HP0 := hide ((unhide HPK) (by rw [unhide HCK, hd]; rfl))
          have HB := hide ((unhide HBW).trans ((unhide HB9).mono (unhide HBW).size))
          clear hd
          go_wp2
          go_ret
          exact ⟨ret_boolF (unhide HP0).symm, unhide HB⟩
        case true =>
          have HA2 := hide ((unhide HAT) (by rw [unhide HCK, hd]; rfl))
          have HT2 : Hid (takeL lf0 (css.take (k + 1)).flatten = some lf2) := (unhide HNX).trans (unhide HTS)
          clear hd
          go_wp2
          go_roundw
          case rel => exact ⟨k + 1, lf2, by omega, by go_num, unhide HT2, unhide HA2, unhide HF9, hz, unhide HB9⟩
          case measure => simp [intOf]; omega
  obtain rfl : k = n2 := by omega
  have e : css.take k = css := List.take_of_length_le (by omega)
  rw [e] at HT HAL
  have HPF := hide ((unhide HPS) lf (unhide HAL) (unhide HT))
  have HBF := hide ((unhide HBW).trans (hb.mono (unhide HBW).size))
  clear hF hz htk hall hb e Bwr
  obtain ⟨wy, hwy⟩ : ∃ x : World, x = wr := ⟨_, rfl⟩
  subst hwy
  go_wp2
  go_loopw [50] (fun i wr => ∃ (j : Nat), j ≤ (unitsR r).length ∧ i = .int .i64 j ∧ (∀ q, q < j → lf.getD q 0 = 0) ∧ wr = wy) (fun i _ => (unitsR r).length - (intOf i).toNat)
  case atStart => exact ⟨0, Nat.zero_le _, rfl, fun q hq => absurd hq (Nat.not_lt_zero _), rfl⟩
  case round =>
    obtain ⟨j, hj, rfl, hzs, rfl⟩ := hrel
    have HZS := hide hzs
    by_cases hlj : j < (unitsR r).length
    case neg =>
      have hjn : ¬ ((j : Int) < ((unitsR r).length : Int)) := by omega
      have HP1 : Hid (packsB r us css = true) := by rw [Hid, unhide HPF]; exact none_all (fun q hq => (unhide HZS) q (by omega))
      clear hzs
      go_wp2
      go_ret
      exact ⟨ret_boolF (unhide HP1).symm, unhide HBF⟩
    have hv2 : j < (cellsN lf).length := by rw [cellsN_len]; omega
    have cf := ((unhide KFwr) j hv2).1
    rw [cellsN_atD _ _ (by omega)] at cf
    have hqb := hlB j (by omega)
    have HNH := hide (fun h0 : lf.getD j 0 ≠ 0 => none_hit (by omega) h0)
    have HZJ := hide (fun (h0 : lf.getD j 0 = 0) (q : Nat) (hq : q < j + 1) => show lf.getD q 0 = 0 from by
      by_cases e : q = j
      · rw [e]; exact h0
      · exact (unhide HZS) q (by omega))
    generalize lf.getD j 0 = q at *
    clear hzs
    by_cases hq0 : q = 0
    · have HZ2 := hide ((unhide HZJ) hq0)
      subst hq0
      go_wp2
      go_roundw
      case rel => exact ⟨j + 1, by omega, by go_num, unhide HZ2, trivial⟩
      case measure => simp [intOf]; omega
    · have HP0 : Hid (packsB r us css = false) := by rw [Hid, unhide HPF]; exact (unhide HNH) hq0
      have hqp : (0 : Int) < (q : Int) := by omega
      clear hq0
      go_wp2
      go_ret
      exact ⟨ret_boolF (unhide HP0).symm, unhide HBF⟩
end Go.Proofs.YtdmaldjnjffnlabGreatDoor
