/- Next fit of an order. -/
import Derived.Test.YtphdeojiehigpaaGreatDoorPackerOf
import Derived.Deep.DeepMust
import Derived.Deep.DeepCutAuto
import Derived.Deep.RegionHeld3
import Derived.Laws.EntriesVeiled
namespace Go.Proofs.YtphdeojiehigpaaGreatDoor
open Go Go.RowKit
set_option linter.unusedVariables false
set_option linter.unusedSimpArgs false

set_option maxRecDepth 100000 in
set_option maxHeartbeats 4000000 in
theorem packByNext_any (r : ReqV) (h : ReqH) (a : Option Addr) (n c : Nat) (us : List Int) (w : World) (hr : RdReq w r h) (hs : r.small) (hg : ErrT w) (hu : Rd w a n us) (hn : n ≤ 1048576) :
    Calls Tryz.prog 105 #[reqVal r h, .slice a n c, .int .i64 1] w fun e w' => ∃ oa oc rows, e = .returned (.slice oa (nextR r us).length oc) ∧ Own2A w' w.heap.size oa oc rows ∧ rows.map RowV.l = nextR r us ∧ Below w.heap.size w w' := by
  have HR := hide hr
  have HG := hide hg
  have HU := hide hu
  have HIN : Hid (∀ k, k < (knownL (itemsR r) us).length → ∃ v : Nat, (knownL (itemsR r) us).getD k 0 = v ∧ v < (unitsR r).length) := fun k hk => knownL_at hk
  have HN12 := hide (unitsR_len r)
  clear hr hg hu
  unfold reqVal
  go_enter Tryz.func105, Tryz.ntmps105
  go_wp2_with fail
  have BW : Hid (Below w.heap.size w (w.alloc (.cells #[.int .i64 r.way, .int .i64 r.pal.wd, .int .i64 r.pal.dp, .int .i64 r.pal.ht, .int .i64 r.pal.gram, .int .i64 r.classes, .slice h.ap r.pairs.length h.cp, .slice h.at' r.types.length h.ct, .int .i64 r.master, .slice h.ai r.items.length h.ci] 40))) := ((Below.refl _ _).alloc (by simp) _)
  have KaW : Hid (Blk (w.alloc (.cells #[.int .i64 r.way, .int .i64 r.pal.wd, .int .i64 r.pal.dp, .int .i64 r.pal.ht, .int .i64 r.pal.gram, .int .i64 r.classes, .slice h.ap r.pairs.length h.cp, .slice h.at' r.types.length h.ct, .int .i64 r.master, .slice h.ai r.items.length h.ci] 40)) w.heap.size [.int .i64 r.way, .int .i64 r.pal.wd, .int .i64 r.pal.dp, .int .i64 r.pal.ht, .int .i64 r.pal.gram, .int .i64 r.classes, .slice h.ap r.pairs.length h.cp, .slice h.at' r.types.length h.ct, .int .i64 r.master, .slice h.ai r.items.length h.ci]) := (Blk.allocAt (w := w) [.int .i64 r.way, .int .i64 r.pal.wd, .int .i64 r.pal.dp, .int .i64 r.pal.ht, .int .i64 r.pal.gram, .int .i64 r.classes, .slice h.ap r.pairs.length h.cp, .slice h.at' r.types.length h.ct, .int .i64 r.master, .slice h.ai r.items.length h.ci] (by simp))
  have ZaW : w.heap.size < (w.alloc (.cells #[.int .i64 r.way, .int .i64 r.pal.wd, .int .i64 r.pal.dp, .int .i64 r.pal.ht, .int .i64 r.pal.gram, .int .i64 r.classes, .slice h.ap r.pairs.length h.cp, .slice h.at' r.types.length h.ct, .int .i64 r.master, .slice h.ai r.items.length h.ci] 40)).heap.size := by simp
  have Ga : w.heap.size ≤ w.heap.size := by omega
  generalize (w.alloc (.cells #[.int .i64 r.way, .int .i64 r.pal.wd, .int .i64 r.pal.dp, .int .i64 r.pal.ht, .int .i64 r.pal.gram, .int .i64 r.classes, .slice h.ap r.pairs.length h.cp, .slice h.at' r.types.length h.ct, .int .i64 r.master, .slice h.ai r.items.length h.ci] 40)) = W at *
  refine (class_any r h _ ((unhide HR).mono (unhide BW)) hs ((unhide HG).later (unhide BW))).mono ?_
  rintro e v1 ⟨rfl, hb⟩
  have Bv1 := hide ((unhide BW).trans (hb.mono (unhide BW).size))
  have Kav1 := hide (Blk.below hb ZaW (unhide KaW))
  have Zav1 := Nat.lt_of_lt_of_le ZaW hb.size
  clear hb
  clear BW KaW ZaW
  by_cases hz : classI r = 0
  case neg =>
    have hne : (classI r != 0) = true := by simp [hz]
    have HE : Hid (nextR r us = []) := nextR_not hz us
    clear hz
    go_wp2
    go_ret
    rw [unhide HE]
    exact ⟨none, 0, [], rfl, .inl ⟨rfl, rfl, rfl⟩, rfl, unhide Bv1⟩
  rw [hz]
  clear hz
  obtain ⟨ca0, ca1, ca2, ca3, ca4, ca5, ca6, ca7, ca8, ca9⟩ := Blk.cs10 (unhide Kav1)
  go_wp2_with fail
  clear ca0 ca1 ca2 ca3 ca4 ca5 ca6 ca7 ca8 ca9
  have Bv2 : Hid (Below w.heap.size w (v1.alloc (.cells #[.func (.func 139) #[] #[], .func (.func 140) #[] #[]] 165))) := (unhide Bv1).alloc (unhide Bv1).size _
  have Kfv2 : Hid (Blk (v1.alloc (.cells #[.func (.func 139) #[] #[], .func (.func 140) #[] #[]] 165)) v1.heap.size [.func (.func 139) #[] #[], .func (.func 140) #[] #[]]) := Blk.allocAt [.func (.func 139) #[] #[], .func (.func 140) #[] #[]] rfl
  have Zfv2 : v1.heap.size < (v1.alloc (.cells #[.func (.func 139) #[] #[], .func (.func 140) #[] #[]] 165)).heap.size := by simp
  have Gf : w.heap.size ≤ v1.heap.size := (unhide Bv1).size
  have Kav2 : Hid (Blk (v1.alloc (.cells #[.func (.func 139) #[] #[], .func (.func 140) #[] #[]] 165)) w.heap.size [.int .i64 r.way, .int .i64 r.pal.wd, .int .i64 r.pal.dp, .int .i64 r.pal.ht, .int .i64 r.pal.gram, .int .i64 r.classes, .slice h.ap r.pairs.length h.cp, .slice h.at' r.types.length h.ct, .int .i64 r.master, .slice h.ai r.items.length h.ci]) := (unhide Kav1).allocOld Zav1 _
  have Zav2 : w.heap.size < (v1.alloc (.cells #[.func (.func 139) #[] #[], .func (.func 140) #[] #[]] 165)).heap.size := by simp <;> omega
  have Nqaf : w.heap.size ≠ v1.heap.size := Nat.ne_of_lt Zav1
  have Nqfa : v1.heap.size ≠ w.heap.size := Ne.symm Nqaf
  clear Bv1 Kav1 Zav1
  generalize (v1.alloc (.cells #[.func (.func 139) #[] #[], .func (.func 140) #[] #[]] 165)) = v2 at *
  have BQ := Bv2
  refine (packerOf_any r h _ ((unhide HR).mono (unhide Bv2)) hs ((unhide HG).later (unhide Bv2))).mono ?_
  rintro e v3 ⟨Bk, eb, ec, ea, rfl, hB1, hB2, hBl, hea, hE, hne, hb⟩
  have Bv3 := hide ((unhide Bv2).trans (hb.mono (unhide Bv2).size))
  have Kav3 := hide (Blk.below hb Zav2 (unhide Kav2))
  have Zav3 := Nat.lt_of_lt_of_le Zav2 hb.size
  have Kfv3 := hide (Blk.below hb Zfv2 (unhide Kfv2))
  have Zfv3 := Nat.lt_of_lt_of_le Zfv2 hb.size
  clear hb
  clear Bv2 Kav2 Zav2 Kfv2 Zfv2
  have Kpv3 := hide hBl
  have Zpv3 := hB2
  have HEA := hide hea
  have HB1 : Hid (w.heap.size ≤ Bk) := Nat.le_trans (unhide BQ).size hB1
  clear hBl hea
  have QEv3 := hide hE
  clear hE hB1
  go_upto_region 5 with fail
  go_cut [8] (fun v wc => v = .pointer (some ⟨Bk, 0, none⟩) ∧ (∃ base, w.heap.size ≤ base ∧ PkOk (itemsR r) (masterV r) base Bk eb (unitsR r).length ec (nextTo (roomB (itemsR r) (masterV r)) (knownL (itemsR r) us) (knownL (itemsR r) us).length) wc) ∧ Below w.heap.size w wc)
  case first =>
    refine wp_region_noPanic ?_
    have Bu0 : Hid (Below w.heap.size w v3.drew) := (unhide Bv3).drew
    have QEu0 : Hid (EachOk v3.drew eb (unitsR r).length (itemsR r)) := (unhide QEv3).later (Below.refl _ _).drew
    have Kau0 : Hid (Blk v3.drew w.heap.size [.int .i64 r.way, .int .i64 r.pal.wd, .int .i64 r.pal.dp, .int .i64 r.pal.ht, .int .i64 r.pal.gram, .int .i64 r.classes, .slice h.ap r.pairs.length h.cp, .slice h.at' r.types.length h.ct, .int .i64 r.master, .slice h.ai r.items.length h.ci]) := unhide Kav3
    have Zau0 : w.heap.size < v3.drew.heap.size := Zav3
    have Kfu0 : Hid (Blk v3.drew v1.heap.size [.func (.func 139) #[] #[], .func (.func 140) #[] #[]]) := unhide Kfv3
    have Zfu0 : v1.heap.size < v3.drew.heap.size := Zfv3
    have Kpu0 : Hid (Blk v3.drew Bk [.slice ea (unitsR r).length ec, .int .i64 (vol (masterV r).wd (masterV r).ht (masterV r).dp), .int .i64 (masterV r).gram, .slice none 0 0, .slice none 0 0]) := unhide Kpv3
    have Zpu0 : Bk < v3.drew.heap.size := Zpv3
    obtain ⟨S, hSdef⟩ : ∃ S : World → Prop, S = (fun w' => w'.cell? ⟨v1.heap.size, 1, none⟩ = some (.func (.func 140) #[] #[])) := ⟨_, rfl⟩
    have hSmk : ∀ wq, Blk wq v1.heap.size [.func (.func 139) #[] #[], .func (.func 140) #[] #[]] → S wq := fun wq kf => by rw [hSdef]; exact (kf 1 (by simp)).1
    have hSd : ∀ wq, S wq → (fun w' => w'.cell? ⟨v1.heap.size, 1, none⟩ = some (.func (.func 140) #[] #[])) wq := fun wq h => by rw [hSdef] at h; exact h
    clear hSdef
    have hHeld : S v3.drew := hSmk v3.drew (unhide Kfu0)
    refine wp_region_to (S := S) (T := [7]) (by kernel_rfl) hHeld (fun _ => ?_)
    generalize v3.drew = u0 at *
    refine wpTo_tk (i := 0) (v := ?_) rfl (by kernel_rfl) (Or.inl ⟨by rfl, ?_⟩) (by assumption) ?_
    rotate_left
    · intro w hSw
      have hSw := hSd _ hSw
      (try dsimp only at hSw)
      go_simp <;> with_reducible rfl
    refine wpTo_tk (i := 1) (v := ?_) rfl (by kernel_rfl) (Or.inl ⟨by rfl, ?_⟩) (by assumption) ?_
    rotate_left
    · intro w hSw
      have hSw := hSd _ hSw
      (try dsimp only at hSw)
      go_simp <;> with_reducible rfl
    refine wpTo_tk (i := 2) (v := ?_) rfl (by kernel_rfl) (Or.inl ⟨by rfl, ?_⟩) (by assumption) ?_
    rotate_left
    · intro w hSw
      have hSw := hSd _ hSw
      (try dsimp only at hSw)
      go_simp <;> with_reducible rfl
    try simp only [Act.put, List.getElem_toArray, List.getElem_cons_zero, List.getElem_cons_succ, List.setIfInBounds_toArray, List.set_cons_zero, List.set_cons_succ]
    refine wpTo_tk (i := 3) (v := ?_) rfl (by kernel_rfl) (Or.inl ⟨by rfl, ?_⟩) (by assumption) ?_
    rotate_left
    · intro w hSw
      have hSw := hSd _ hSw
      (try dsimp only at hSw)
      go_simp <;> with_reducible rfl
    refine wpTo_tk (i := 4) (v := ?_) rfl (by kernel_rfl) (Or.inl ⟨by rfl, ?_⟩) (by assumption) ?_
    rotate_left
    · intro w hSw
      have hSw := hSd _ hSw
      (try dsimp only at hSw)
      go_simp <;> with_reducible rfl
    refine wpTo_tk (i := 5) (v := ?_) rfl (by kernel_rfl) (Or.inl ⟨by rfl, ?_⟩) (by assumption) ?_
    rotate_left
    · intro w hSw
      have hSw := hSd _ hSw
      (try dsimp only at hSw)
      go_simp <;> with_reducible rfl
    try simp only [Act.put, List.getElem_toArray, List.getElem_cons_zero, List.getElem_cons_succ, List.setIfInBounds_toArray, List.set_cons_zero, List.set_cons_succ]
    refine wpTo_ready (rs := [6]) (by kernel_rfl) (by simp) ?_
    refine AllTo.cons (o := _) rfl (fun K hK => ?_) ?_
    ·
     (try simp only [List.getElem_toArray, List.getElem_cons_zero, List.getElem_cons_succ])
     go_simp
     refine (there_any (itemsR r) Bk (unitsR r).length ec ea _ _ _ _ a n c us u0 (unhide Kpu0) Zpu0 rfl (by have := unitsR_len r; omega) ((unhide HU).mono (unhide Bu0)) (by omega)).mono ?_
     rintro e u4 ⟨tg, tc, rfl, hto, hb⟩
     have Bu4 := hide ((unhide Bu0).trans (hb.mono (unhide Bu0).size))
     have Kau4 := hide (Blk.below hb Zau0 (unhide Kau0))
     have Zau4 := Nat.lt_of_lt_of_le Zau0 hb.size
     have Kfu4 := hide (Blk.below hb Zfu0 (unhide Kfu0))
     have Zfu4 := Nat.lt_of_lt_of_le Zfu0 hb.size
     have Kpu4 := hide (Blk.below hb Zpu0 (unhide Kpu0))
     have Zpu4 := Nat.lt_of_lt_of_le Zpu0 hb.size
     have QEu4 : Hid (EachOk u4 eb (unitsR r).length (itemsR r)) := (unhide QEu0).later hb
     have QTu4 : Hid (u4.ownsRow u0.heap.size 3 1 (.slice (some ⟨tg, 0, none⟩) (knownL (itemsR r) us).length tc) (knownL (itemsR r) us).length (ci (knownL (itemsR r) us))) := hto
     have HUB : Hid (∀ x, (some ⟨tg, 0, none⟩ : Option Addr) = some x → x.block < u4.heap.size ∧ x.block ≠ Bk) := fun x hx => by cases hx; have h1 := hto.lt tg rfl; exact ⟨h1.2, by show tg ≠ Bk; have := Zpu0; omega⟩
     clear hto
     clear hb
     clear Bu0 Kau0 Zau0 Kfu0 Zfu0 Kpu0 Zpu0 QEu0
     clear hHeld
     go_wp2_with fail
     have hHeld := hSmk u4 (unhide Kfu4)
     refine hK.out _ _ (fun _ => hHeld) ?_
     clear hK K
     try simp only [Act.put, List.getElem_toArray, List.getElem_cons_zero, List.getElem_cons_succ, List.setIfInBounds_toArray, List.set_cons_zero, List.set_cons_succ]
     refine wpTo_ready (rs := [7]) (by kernel_rfl) (by simp) ?_
     refine AllTo.cons (o := _) rfl (fun K hK => ?_) ?_
     ·
      (try simp only [List.getElem_toArray, List.getElem_cons_zero, List.getElem_cons_succ])
      go_simp
      refine (nextFitRun_any (itemsR r) (masterV r) Bk eb (unitsR r).length ec (some ⟨tg, 0, none⟩) (knownL (itemsR r) us).length tc (knownL (itemsR r) us) u4 (PkOk.new Zpu4 (Nat.le_refl _) (unhide Kpu4) (unhide HEA) (unhide QEu4) (unhide QEu4).1 hne) (Rd.of_owns (unhide QTu4)) (unhide HUB) (unhide HIN) (itemsR_good r).gram (by have := knownL_len (itemsR r) us; have := (unhide HU).1; omega)).mono ?_
      rintro e u5 ⟨rfl, hp, hf⟩
      have HPK : Hid (∃ base, w.heap.size ≤ base ∧ PkOk (itemsR r) (masterV r) base Bk eb (unitsR r).length ec (nextTo (roomB (itemsR r) (masterV r)) (knownL (itemsR r) us) (knownL (itemsR r) us).length) u5) := ⟨_, (unhide Bu4).size, hp⟩
      have Bu5 := hide ((unhide Bu4).trans (hf.below (unhide Bu4).size (unhide HB1)))
      clear hp hf hHeld
      go_wp2_with fail
      refine hK.out _ _ (fun hn => absurd (by decide) hn) ?_
      clear hK K
      try simp only [Act.put, List.getElem_toArray, List.getElem_cons_zero, List.getElem_cons_succ, List.setIfInBounds_toArray, List.set_cons_zero, List.set_cons_succ]
      refine wpTo_done (by kernel_rfl) ?_ _
      refine NoPanic.normal ?_
      go_wp2_with fail
      go_meet
      case rel => exact ⟨rfl, unhide HPK, unhide Bu5⟩
     exact AllTo.nil
    exact AllTo.nil
  case rest =>
    obtain ⟨rfl, ⟨base, hbs, hp⟩, hb⟩ := hcut
    obtain ⟨oa, oc, rows, c3, hown, hrows⟩ := hp.out
    have HO := hide (hown.low hbs)
    have HRW := hide hrows
    have HB := hide hb
    clear hp hown hrows hb
    go_wp2
    go_ret
    exact ⟨oa, oc, rows, rfl, unhide HO, unhide HRW, unhide HB⟩

end Go.Proofs.YtphdeojiehigpaaGreatDoor
