/- Whether a type holds units: the program. -/
import Derived.Test.YtcblpoeeembniabGreatDoorPackPlain
import Derived.Test.YtcblpoeeembniabGreatDoorPackImpl
import Derived.Test.YtcblpoeeembniabGreatDoorPkC
import Derived.Test.YtcblpoeeembniabGreatDoorAppendSome
import Derived.Deep.DeepMust
import Derived.Deep.DeepCutAuto
import Derived.Deep.RegionHeld3
namespace Go.Proofs.YtcblpoeeembniabGreatDoor
open Go.RowKit
set_option linter.unusedVariables false
set_option linter.unusedSimpArgs false

theorem all_go {f : Int → Bool} {us : List Int} {k : Nat} (h : k < us.length) (h0 : (us.take k).all f = true) (h1 : f (us.getD k 0) = true) : (us.take (k + 1)).all f = true := by
 rw [List.take_succ_eq_append_getElem h, List.all_append, h0]
 simp [List.getD_eq_getElem?_getD, h] at h1
 simp [h1]
theorem all_stop {f : Int → Bool} {us : List Int} {k : Nat} (h : k < us.length) (h1 : f (us.getD k 0) = false) : us.all f = false := by
 cases e : us.all f
 · rfl
 · have := List.all_eq_true.1 e (us.getD k 0) (by rw [List.getD_eq_getElem?_getD, List.getElem?_eq_getElem h]; exact List.getElem_mem _)
   rw [h1] at this; cases this
theorem fitB_out {xs : List ItemV} {t : TypeV} {u : Int} (h : knownB xs u = false) : fitB xs t u = false := by rw [fitB, h]; rfl
theorem fitB_in {xs : List ItemV} {t : TypeV} {u : Int} (h : knownB xs u = true) : fitB xs t u = fitsB (itemAt xs u) t := by rw [fitB, h]; rfl

set_option maxRecDepth 100000 in
set_option maxHeartbeats 4000000 in
theorem eachFits_any (r : ReqV) (h : ReqH) (a : Option Addr) (n c : Nat) (us : List Int) (t : TypeV) (w : World) (hr : RdReq w r h) (hs : r.small) (hg : ErrT w) (hu : Rd w a n us) (hn : n ≤ 1048600) (hz : classI r = 0) :
 Calls Tryz.prog 44 #[reqVal r h, .slice a n c, .agg #[.int .i64 t.id, .int .i64 t.wd, .int .i64 t.ht, .int .i64 t.dp, .int .i64 t.tare, .int .i64 t.gram, .int .i64 t.cost]] w fun e w' => e = .returned (.bool (inAll (itemsR r) t us)) ∧ Below w.heap.size w w' := by
 have HR := hide hr
 have HG := hide hg
 have HU := hide hu
 have HZ := hide hz
 clear hr hg hu hz
 unfold reqVal
 go_enter Tryz.func44, Tryz.ntmps44
 go_wp2_with fail
 generalize hW : ((w.alloc (.cells #[.int .i64 r.way, .int .i64 r.pal.wd, .int .i64 r.pal.dp, .int .i64 r.pal.ht, .int .i64 r.pal.gram, .int .i64 r.classes, .slice h.ap r.pairs.length h.cp, .slice h.at' r.types.length h.ct, .int .i64 r.master, .slice h.ai r.items.length h.ci] 41)).alloc (.cells #[.int .i64 t.id, .int .i64 t.wd, .int .i64 t.ht, .int .i64 t.dp, .int .i64 t.tare, .int .i64 t.gram, .int .i64 t.cost] 54)) = wA at *
 obtain ⟨BwA, KawA, ZawA, KtwA, ZtwA⟩ := en2 hW
 have Ga : w.heap.size ≤ w.heap.size := by omega
 have Gt : w.heap.size ≤ (w.heap.size + 1) := by omega
 have Nqat : w.heap.size ≠ (w.heap.size + 1) := by omega
 have Nqta : (w.heap.size + 1) ≠ w.heap.size := by omega
 clear hW
 refine (units_any r h _ (HR.out.mono BwA.out) hs (HG.out.later BwA.out)).mono ?_
 rintro e v1 ⟨gp, cp, rfl, hgo, hb⟩
 have Bv1 := hide (BwA.out.trans (hb.mono BwA.out.size))
 have Kav1 := hide (Blk.below hb ZawA KawA.out)
 have Zav1 := Nat.lt_of_lt_of_le ZawA hb.size
 have Ktv1 := hide (Blk.below hb ZtwA KtwA.out)
 have Ztv1 := Nat.lt_of_lt_of_le ZtwA hb.size
 clear hb
 clear BwA KawA ZawA KtwA ZtwA
 have UN := hide (Rd.of_owns hgo)
 have hN12 := unitsR_len r
 clear hgo
 have HN : Hid ((unitsL (itemsR r)).length = (unitsR r).length) := rfl
 obtain ⟨N, hN⟩ : ∃ N, N = (unitsR r).length := ⟨_, rfl⟩
 rw [← hN] at UN HN hN12 ⊢
 clear hN
 obtain ⟨wb, hwb⟩ : ∃ wb : World, wb = v1 := ⟨_, rfl⟩
 subst hwb
 go_wp2_with fail
 go_loopw [14] (fun i wr => ∃ (k : Nat), k ≤ n ∧ i = .int .i64 k ∧ (us.take k).all (fitB (itemsR r) t) = true ∧ Blk wr w.heap.size [.int .i64 r.way, .int .i64 r.pal.wd, .int .i64 r.pal.dp, .int .i64 r.pal.ht, .int .i64 r.pal.gram, .int .i64 r.classes, .slice h.ap r.pairs.length h.cp, .slice h.at' r.types.length h.ct, .int .i64 r.master, .slice h.ai r.items.length h.ci] ∧ w.heap.size < wr.heap.size ∧ Blk wr (w.heap.size + 1) [.int .i64 t.id, .int .i64 t.wd, .int .i64 t.ht, .int .i64 t.dp, .int .i64 t.tare, .int .i64 t.gram, .int .i64 t.cost] ∧ (w.heap.size + 1) < wr.heap.size ∧ Below wb.heap.size wb wr) (fun i _ => n - (intOf i).toNat)
 case atStart => exact ⟨0, Nat.zero_le _, rfl, by simp, unhide Kav1, Zav1, unhide Ktv1, Ztv1, Below.refl _ _⟩
 case round =>
  obtain ⟨k, hk, rfl, hall, ka, Zawr, kt, Ztwr, hb⟩ := hrel
  have Bwr := hide hb
  have Kawr := hide ka
  have Ktwr := hide kt
  have HALL := hide hall
  have HBW := hide (Bv1.out.trans (hb.mono Bv1.out.size))
  clear hb ka kt hall Kav1 Ktv1 Zav1 Ztv1
  by_cases hlk : k < n
  case neg =>
   have HE : Hid (inAll (itemsR r) t us = true) := by have := unhide HALL; rw [List.take_of_length_le (by rw [HU.out.1]; omega)] at this; exact this
   go_wp2
   go_ret
   exact ⟨ret_boolF HE.out.symm, unhide HBW⟩
  obtain ⟨b, off, hua, hc⟩ := (HU.out.mono HBW.out).2 k hlk
  have hku : k < us.length := by rw [HU.out.1]; exact hlk
  have HGO := hide (all_go (f := fitB (itemsR r) t) hku HALL.out)
  have HST := hide (all_stop (f := fitB (itemsR r) t) (us := us) hku)
  generalize us.getD k 0 = x at hc HGO HST
  subst hua
  by_cases hkn : knownB (itemsR r) x = true
  case neg =>
   have hkn0 : knownB (itemsR r) x = false := by simpa using hkn
   have HK : Hid (inB x 0 ((N : Int) - 1) = false) := by rw [← unhide HN]; exact hkn0
   have HE : Hid (inAll (itemsR r) t us = false) := HST.out (fitB_out hkn0)
   clear hkn hkn0
   go_upto_region 5 with fail
   clear hc
   go_cut [36] (fun v wc => v = .bool true ∧ Blk wc w.heap.size [.int .i64 r.way, .int .i64 r.pal.wd, .int .i64 r.pal.dp, .int .i64 r.pal.ht, .int .i64 r.pal.gram, .int .i64 r.classes, .slice h.ap r.pairs.length h.cp, .slice h.at' r.types.length h.ct, .int .i64 r.master, .slice h.ai r.items.length h.ci] ∧ w.heap.size < wc.heap.size ∧ Blk wc (w.heap.size + 1) [.int .i64 t.id, .int .i64 t.wd, .int .i64 t.ht, .int .i64 t.dp, .int .i64 t.tare, .int .i64 t.gram, .int .i64 t.cost] ∧ (w.heap.size + 1) < wc.heap.size ∧ Below wb.heap.size wb wc)
   case first =>
    refine wp_region_noPanic ?_
    have Bu0 : Hid (Below wb.heap.size wb wr.drew) := Bwr.out.drew
    have Kau0 : Hid (Blk wr.drew w.heap.size [.int .i64 r.way, .int .i64 r.pal.wd, .int .i64 r.pal.dp, .int .i64 r.pal.ht, .int .i64 r.pal.gram, .int .i64 r.classes, .slice h.ap r.pairs.length h.cp, .slice h.at' r.types.length h.ct, .int .i64 r.master, .slice h.ai r.items.length h.ci]) := unhide Kawr
    have Zau0 : w.heap.size < wr.drew.heap.size := Zawr
    have Ktu0 : Hid (Blk wr.drew (w.heap.size + 1) [.int .i64 t.id, .int .i64 t.wd, .int .i64 t.ht, .int .i64 t.dp, .int .i64 t.tare, .int .i64 t.gram, .int .i64 t.cost]) := unhide Ktwr
    have Ztu0 : (w.heap.size + 1) < wr.drew.heap.size := Ztwr
    obtain ⟨S, hSdef⟩ : ∃ S : World → Prop, S = (fun w' => True) := ⟨_, rfl⟩
    have hSmk : ∀ wq, S wq := fun wq  => by rw [hSdef]; exact trivial
    have hSd : ∀ wq, S wq → (fun w' => True) wq := fun wq h => by rw [hSdef] at h; exact h
    clear hSdef
    have hHeld : S wr.drew := hSmk wr.drew 
    refine wp_region_to (S := S) (T := []) (by kernel_rfl) hHeld (fun _ => ?_)
    generalize wr.drew = u0 at *
    refine wpTo_ts (i := 0) (v := ?_) rfl (by kernel_rfl) hSd (by rfl) (fun w hSw => ?_) (by assumption) ?_
    rotate_left
    · ((try dsimp only [RqC] at hSw); go_simp <;> with_reducible rfl)
    refine wpTo_ts (i := 1) (v := ?_) rfl (by kernel_rfl) hSd (by rfl) (fun w hSw => ?_) (by assumption) ?_
    rotate_left
    · ((try dsimp only [RqC] at hSw); go_simp <;> with_reducible rfl)
    refine wpTo_ts (i := 2) (v := ?_) rfl (by kernel_rfl) hSd (by rfl) (fun w hSw => ?_) (by assumption) ?_
    rotate_left
    · ((try dsimp only [RqC] at hSw); go_simp <;> with_reducible rfl)
    try simp only [Act.put, zz1, zz2, zz3, zz4, zz5, zz6]
    refine wpTo_ts (i := 3) (v := ?_) rfl (by kernel_rfl) hSd (by rfl) (fun w hSw => ?_) (by assumption) ?_
    rotate_left
    · ((try dsimp only [RqC] at hSw); go_simp <;> with_reducible rfl)
    try simp only [Act.put, zz1, zz2, zz3, zz4, zz5, zz6]
    rw [wrap_fits (x := (N : Int) - 1) (by omega) (by omega)]
    refine wpTo_ready (rs := [4]) (by kernel_rfl) (by simp) ?_
    refine AllTo.cons (o := _) rfl (fun K hK => ?_) ?_
    ·
     (try simp only [zz1, zz2, zz3])
     go_simp
     refine (within_any _ _ _ _).mono ?_
     rintro e wz ⟨rfl, hwz⟩
     subst wz
     rw [unhide HK]
     go_wp2_with fail
     have hHeld := hSmk u0 
     refine hK.out _ _ (fun _ => hHeld) ?_
     clear hK K
     try simp only [Act.put, zz1, zz2, zz3, zz4, zz5, zz6]
     refine wpTo_ts (i := 5) (v := ?_) rfl (by kernel_rfl) hSd (by rfl) (fun w hSw => ?_) (by assumption) ?_
     rotate_left
     · ((try dsimp only [RqC] at hSw); go_simp <;> with_reducible rfl)
     refine wpTo_ts (i := 6) (v := ?_) rfl (by kernel_rfl) hSd (by rfl) (fun w hSw => ?_) (by assumption) ?_
     rotate_left
     · ((try dsimp only [RqC] at hSw); go_simp <;> with_reducible rfl)
     try simp only [Act.put, zz1, zz2, zz3, zz4, zz5, zz6]
     refine wpTo_tk (i := 7) (v := undef) rfl (by kernel_rfl) (Or.inr ⟨by rfl, rfl⟩) (by assumption) ?_
     try simp only [Act.put, zz1, zz2, zz3, zz4, zz5, zz6]
     refine wpTo_tk (i := 8) (v := undef) rfl (by kernel_rfl) (Or.inr ⟨by rfl, rfl⟩) (by assumption) ?_
     try simp only [Act.put, zz1, zz2, zz3, zz4, zz5, zz6]
     refine wpTo_tk (i := 9) (v := undef) rfl (by kernel_rfl) (Or.inr ⟨by rfl, rfl⟩) (by assumption) ?_
     try simp only [Act.put, zz1, zz2, zz3, zz4, zz5, zz6]
     refine wpTo_tk (i := 10) (v := undef) rfl (by kernel_rfl) (Or.inr ⟨by rfl, rfl⟩) (by assumption) ?_
     try simp only [Act.put, zz1, zz2, zz3, zz4, zz5, zz6]
     refine wpTo_tk (i := 11) (v := undef) rfl (by kernel_rfl) (Or.inr ⟨by rfl, rfl⟩) (by assumption) ?_
     try simp only [Act.put, zz1, zz2, zz3, zz4, zz5, zz6]
     refine wpTo_tk (i := 12) (v := undef) rfl (by kernel_rfl) (Or.inr ⟨by rfl, rfl⟩) (by assumption) ?_
     try simp only [Act.put, zz1, zz2, zz3, zz4, zz5, zz6]
     refine wpTo_tk (i := 13) (v := undef) rfl (by kernel_rfl) (Or.inr ⟨by rfl, rfl⟩) (by assumption) ?_
     try simp only [Act.put, zz1, zz2, zz3, zz4, zz5, zz6]
     refine wpTo_tk (i := 14) (v := undef) rfl (by kernel_rfl) (Or.inr ⟨by rfl, rfl⟩) (by assumption) ?_
     try simp only [Act.put, zz1, zz2, zz3, zz4, zz5, zz6]
     refine wpTo_tk (i := 15) (v := undef) rfl (by kernel_rfl) (Or.inr ⟨by rfl, rfl⟩) (by assumption) ?_
     try simp only [Act.put, zz1, zz2, zz3, zz4, zz5, zz6]
     refine wpTo_ready (rs := [16]) (by kernel_rfl) (by simp) ?_
     refine AllTo.cons (o := _) rfl (fun K hK => ?_) ?_
     ·
      skip
      rw [if_neg (by first | decide | (intro h; cases h))]
      refine hK.out _ _ (fun _ => hHeld) ?_
      clear hK K
      try simp only [Act.put, zz1, zz2, zz3, zz4, zz5, zz6]
      refine wpTo_tk (i := 17) (v := undef) rfl (by kernel_rfl) (Or.inr ⟨by rfl, rfl⟩) (by assumption) ?_
      try simp only [Act.put, zz1, zz2, zz3, zz4, zz5, zz6]
      refine wpTo_ts (i := 18) (v := ?_) rfl (by kernel_rfl) hSd (by rfl) (fun w hSw => ?_) (by assumption) ?_
      rotate_left
      · ((try dsimp only [RqC] at hSw); go_simp <;> with_reducible rfl)
      try simp only [Act.put, zz1, zz2, zz3, zz4, zz5, zz6]
      refine wpTo_done (by kernel_rfl) ?_ _
      refine NoPanic.normal ?_
      go_wp2_with fail
      go_meet
      case rel => exact ⟨rfl, unhide Kau0, Zau0, unhide Ktu0, Ztu0, unhide Bu0⟩
     exact AllTo.nil
    exact AllTo.nil
   case rest =>
    obtain ⟨rfl, ka, za, kt, zt, hb⟩ := hcut
    have HBC := hide (Bv1.out.trans (hb.mono Bv1.out.size))
    clear ka kt hb
    go_wp2
    go_ret
    exact ⟨ret_boolF HE.out.symm, unhide HBC⟩
  obtain ⟨v, rfl⟩ : ∃ v : Nat, x = (v : Int) := ⟨x.toNat, by rw [knownB, inB_iff] at hkn; omega⟩
  have hvN : v < N := by rw [knownB, inB_iff, unhide HN] at hkn; omega
  have hun : v < (unitsL (itemsR r)).length := by rw [unhide HN]; exact hvN
  obtain ⟨p, hp, hpl⟩ := unitsL_lt (itemsR r) v hun
  have HIT : Hid (itemAt (itemsR r) (v : Int) = r.items.getD p default) := by rw [Hid, itemAt_in hun hp, itemsR_zero HZ.out]
  rw [itemsR_zero HZ.out] at hpl
  have HK : Hid (inB (v : Int) 0 ((N : Int) - 1) = true) := by rw [← unhide HN]; exact hkn
  have HF : Hid (fitB (itemsR r) t (v : Int) = fitsB (r.items.getD p default) t) := by rw [Hid, fitB_in hkn, unhide HIT]
  obtain ⟨bi, offi, hai, hci⟩ := (HR.out.mono Bv1.out).2.2.2 p hpl
  have Kawr2 : Hid (Blk wr w.heap.size [.int .i64 r.way, .int .i64 r.pal.wd, .int .i64 r.pal.dp, .int .i64 r.pal.ht, .int .i64 r.pal.gram, .int .i64 r.classes, .slice h.ap r.pairs.length h.cp, .slice h.at' r.types.length h.ct, .int .i64 r.master, .slice (some ⟨bi, offi, none⟩) r.items.length h.ci]) := by have h9 := unhide Kawr; rw [hai] at h9; exact h9
  have HAI := hide hai
  have hcp0 : wb.cell? ⟨gp, v, none⟩ = some (.int .i64 (p : Int)) := by
   obtain ⟨b', off', e, hc'⟩ := UN.out.2 v hvN
   injection e with e
   injection e with e1 e2
   subst e1 e2
   rw [show (unitsR r).getD v 0 = (p : Int) from hp] at hc'
   simpa using hc'
  have hcp : ∀ u, Below wb.heap.size wb u → u.cell? ⟨gp, v, none⟩ = some (.int .i64 (p : Int)) := fun u hb => (hb.cell (World.block_lt_of_cell? wb _ hcp0)).trans hcp0
  generalize r.items.getD p default = q at hci HIT HF
  have hci00 : wb.cell? ⟨bi, offi + p * 7, none⟩ = some (.int .i64 q.id) := hci 0 (by omega)
  have hci0 : ∀ u, Below wb.heap.size wb u → u.cell? ⟨bi, offi + p * 7, none⟩ = some (.int .i64 q.id) := fun u hb => (hb.cell (World.block_lt_of_cell? wb _ hci00)).trans hci00
  clear hci00
  have hci10 : wb.cell? ⟨bi, offi + p * 7 + 1, none⟩ = some (.int .i64 q.wd) := hci 1 (by omega)
  have hci1 : ∀ u, Below wb.heap.size wb u → u.cell? ⟨bi, offi + p * 7 + 1, none⟩ = some (.int .i64 q.wd) := fun u hb => (hb.cell (World.block_lt_of_cell? wb _ hci10)).trans hci10
  clear hci10
  have hci20 : wb.cell? ⟨bi, offi + p * 7 + 2, none⟩ = some (.int .i64 q.ht) := hci 2 (by omega)
  have hci2 : ∀ u, Below wb.heap.size wb u → u.cell? ⟨bi, offi + p * 7 + 2, none⟩ = some (.int .i64 q.ht) := fun u hb => (hb.cell (World.block_lt_of_cell? wb _ hci20)).trans hci20
  clear hci20
  have hci30 : wb.cell? ⟨bi, offi + p * 7 + 3, none⟩ = some (.int .i64 q.dp) := hci 3 (by omega)
  have hci3 : ∀ u, Below wb.heap.size wb u → u.cell? ⟨bi, offi + p * 7 + 3, none⟩ = some (.int .i64 q.dp) := fun u hb => (hb.cell (World.block_lt_of_cell? wb _ hci30)).trans hci30
  clear hci30
  have hci40 : wb.cell? ⟨bi, offi + p * 7 + 4, none⟩ = some (.int .i64 q.gram) := hci 4 (by omega)
  have hci4 : ∀ u, Below wb.heap.size wb u → u.cell? ⟨bi, offi + p * 7 + 4, none⟩ = some (.int .i64 q.gram) := fun u hb => (hb.cell (World.block_lt_of_cell? wb _ hci40)).trans hci40
  clear hci40
  have hci50 : wb.cell? ⟨bi, offi + p * 7 + 5, none⟩ = some (.int .i64 q.cls) := hci 5 (by omega)
  have hci5 : ∀ u, Below wb.heap.size wb u → u.cell? ⟨bi, offi + p * 7 + 5, none⟩ = some (.int .i64 q.cls) := fun u hb => (hb.cell (World.block_lt_of_cell? wb _ hci50)).trans hci50
  clear hci50
  have hci60 : wb.cell? ⟨bi, offi + p * 7 + 6, none⟩ = some (.int .i64 q.cnt) := hci 6 (by omega)
  have hci6 : ∀ u, Below wb.heap.size wb u → u.cell? ⟨bi, offi + p * 7 + 6, none⟩ = some (.int .i64 q.cnt) := fun u hb => (hb.cell (World.block_lt_of_cell? wb _ hci60)).trans hci60
  clear hci60
  clear hci hcp0 hp hai hkn hun Kawr
  have Kawr := Kawr2
  clear Kawr2
  go_upto_region 5 with fail
  clear hc
  go_cut [36] (fun v wc => v = .bool (!fitsB q t) ∧ Blk wc w.heap.size [.int .i64 r.way, .int .i64 r.pal.wd, .int .i64 r.pal.dp, .int .i64 r.pal.ht, .int .i64 r.pal.gram, .int .i64 r.classes, .slice h.ap r.pairs.length h.cp, .slice h.at' r.types.length h.ct, .int .i64 r.master, .slice (some ⟨bi, offi, none⟩) r.items.length h.ci] ∧ w.heap.size < wc.heap.size ∧ Blk wc (w.heap.size + 1) [.int .i64 t.id, .int .i64 t.wd, .int .i64 t.ht, .int .i64 t.dp, .int .i64 t.tare, .int .i64 t.gram, .int .i64 t.cost] ∧ (w.heap.size + 1) < wc.heap.size ∧ Below wb.heap.size wb wc)
  case first =>
   refine wp_region_noPanic ?_
   have Bu0 : Hid (Below wb.heap.size wb wr.drew) := Bwr.out.drew
   have Kau0 : Hid (Blk wr.drew w.heap.size [.int .i64 r.way, .int .i64 r.pal.wd, .int .i64 r.pal.dp, .int .i64 r.pal.ht, .int .i64 r.pal.gram, .int .i64 r.classes, .slice h.ap r.pairs.length h.cp, .slice h.at' r.types.length h.ct, .int .i64 r.master, .slice (some ⟨bi, offi, none⟩) r.items.length h.ci]) := unhide Kawr
   have Zau0 : w.heap.size < wr.drew.heap.size := Zawr
   have Ktu0 : Hid (Blk wr.drew (w.heap.size + 1) [.int .i64 t.id, .int .i64 t.wd, .int .i64 t.ht, .int .i64 t.dp, .int .i64 t.tare, .int .i64 t.gram, .int .i64 t.cost]) := unhide Ktwr
   have Ztu0 : (w.heap.size + 1) < wr.drew.heap.size := Ztwr
   obtain ⟨S, hSdef⟩ : ∃ S : World → Prop, S = (fun w' => w'.cell? ⟨w.heap.size, 9, none⟩ = some (.slice (some ⟨bi, offi, none⟩) r.items.length h.ci) ∧ w'.cell? ⟨(w.heap.size + 1), 0, none⟩ = some (.int .i64 t.id) ∧ w'.cell? ⟨(w.heap.size + 1), 1, none⟩ = some (.int .i64 t.wd) ∧ w'.cell? ⟨(w.heap.size + 1), 2, none⟩ = some (.int .i64 t.ht) ∧ w'.cell? ⟨(w.heap.size + 1), 3, none⟩ = some (.int .i64 t.dp) ∧ w'.cell? ⟨(w.heap.size + 1), 4, none⟩ = some (.int .i64 t.tare) ∧ w'.cell? ⟨(w.heap.size + 1), 5, none⟩ = some (.int .i64 t.gram) ∧ w'.cell? ⟨(w.heap.size + 1), 6, none⟩ = some (.int .i64 t.cost) ∧ w'.cell? ⟨gp, v, none⟩ = some (.int .i64 p) ∧ w'.cell? ⟨bi, offi + p * 7, none⟩ = some (.int .i64 q.id) ∧ w'.cell? ⟨bi, offi + p * 7 + 1, none⟩ = some (.int .i64 q.wd) ∧ w'.cell? ⟨bi, offi + p * 7 + 2, none⟩ = some (.int .i64 q.ht) ∧ w'.cell? ⟨bi, offi + p * 7 + 3, none⟩ = some (.int .i64 q.dp) ∧ w'.cell? ⟨bi, offi + p * 7 + 4, none⟩ = some (.int .i64 q.gram) ∧ w'.cell? ⟨bi, offi + p * 7 + 5, none⟩ = some (.int .i64 q.cls) ∧ w'.cell? ⟨bi, offi + p * 7 + 6, none⟩ = some (.int .i64 q.cnt)) := ⟨_, rfl⟩
   have hSmk : ∀ wq, Blk wq w.heap.size [.int .i64 r.way, .int .i64 r.pal.wd, .int .i64 r.pal.dp, .int .i64 r.pal.ht, .int .i64 r.pal.gram, .int .i64 r.classes, .slice h.ap r.pairs.length h.cp, .slice h.at' r.types.length h.ct, .int .i64 r.master, .slice (some ⟨bi, offi, none⟩) r.items.length h.ci] → Blk wq (w.heap.size + 1) [.int .i64 t.id, .int .i64 t.wd, .int .i64 t.ht, .int .i64 t.dp, .int .i64 t.tare, .int .i64 t.gram, .int .i64 t.cost] → (wq.cell? ⟨gp, v, none⟩ = some (.int .i64 p)) → (wq.cell? ⟨bi, offi + p * 7, none⟩ = some (.int .i64 q.id)) → (wq.cell? ⟨bi, offi + p * 7 + 1, none⟩ = some (.int .i64 q.wd)) → (wq.cell? ⟨bi, offi + p * 7 + 2, none⟩ = some (.int .i64 q.ht)) → (wq.cell? ⟨bi, offi + p * 7 + 3, none⟩ = some (.int .i64 q.dp)) → (wq.cell? ⟨bi, offi + p * 7 + 4, none⟩ = some (.int .i64 q.gram)) → (wq.cell? ⟨bi, offi + p * 7 + 5, none⟩ = some (.int .i64 q.cls)) → (wq.cell? ⟨bi, offi + p * 7 + 6, none⟩ = some (.int .i64 q.cnt)) → S wq := fun wq ka kt p0 p1 p2 p3 p4 p5 p6 p7 => by rw [hSdef]; exact ⟨(ka 9 (by simp)).1, (kt 0 (by simp)).1, (kt 1 (by simp)).1, (kt 2 (by simp)).1, (kt 3 (by simp)).1, (kt 4 (by simp)).1, (kt 5 (by simp)).1, (kt 6 (by simp)).1, p0, p1, p2, p3, p4, p5, p6, p7⟩
   have hSd : ∀ wq, S wq → (fun w' => w'.cell? ⟨w.heap.size, 9, none⟩ = some (.slice (some ⟨bi, offi, none⟩) r.items.length h.ci) ∧ w'.cell? ⟨(w.heap.size + 1), 0, none⟩ = some (.int .i64 t.id) ∧ w'.cell? ⟨(w.heap.size + 1), 1, none⟩ = some (.int .i64 t.wd) ∧ w'.cell? ⟨(w.heap.size + 1), 2, none⟩ = some (.int .i64 t.ht) ∧ w'.cell? ⟨(w.heap.size + 1), 3, none⟩ = some (.int .i64 t.dp) ∧ w'.cell? ⟨(w.heap.size + 1), 4, none⟩ = some (.int .i64 t.tare) ∧ w'.cell? ⟨(w.heap.size + 1), 5, none⟩ = some (.int .i64 t.gram) ∧ w'.cell? ⟨(w.heap.size + 1), 6, none⟩ = some (.int .i64 t.cost) ∧ w'.cell? ⟨gp, v, none⟩ = some (.int .i64 p) ∧ w'.cell? ⟨bi, offi + p * 7, none⟩ = some (.int .i64 q.id) ∧ w'.cell? ⟨bi, offi + p * 7 + 1, none⟩ = some (.int .i64 q.wd) ∧ w'.cell? ⟨bi, offi + p * 7 + 2, none⟩ = some (.int .i64 q.ht) ∧ w'.cell? ⟨bi, offi + p * 7 + 3, none⟩ = some (.int .i64 q.dp) ∧ w'.cell? ⟨bi, offi + p * 7 + 4, none⟩ = some (.int .i64 q.gram) ∧ w'.cell? ⟨bi, offi + p * 7 + 5, none⟩ = some (.int .i64 q.cls) ∧ w'.cell? ⟨bi, offi + p * 7 + 6, none⟩ = some (.int .i64 q.cnt)) wq := fun wq h => by rw [hSdef] at h; exact h
   clear hSdef
   have hHeld : S wr.drew := hSmk wr.drew Kau0.out Ktu0.out (hcp _ Bu0.out) (hci0 _ Bu0.out) (hci1 _ Bu0.out) (hci2 _ Bu0.out) (hci3 _ Bu0.out) (hci4 _ Bu0.out) (hci5 _ Bu0.out) (hci6 _ Bu0.out)
   refine wp_region_to (S := S) (T := []) (by kernel_rfl) hHeld (fun _ => ?_)
   generalize wr.drew = u0 at *
   refine wpTo_ts (i := 0) (v := ?_) rfl (by kernel_rfl) hSd (by rfl) (fun w hSw => ?_) (by assumption) ?_
   rotate_left
   · ((try dsimp only [RqC] at hSw); go_simp <;> with_reducible rfl)
   refine wpTo_ts (i := 1) (v := ?_) rfl (by kernel_rfl) hSd (by rfl) (fun w hSw => ?_) (by assumption) ?_
   rotate_left
   · ((try dsimp only [RqC] at hSw); go_simp <;> with_reducible rfl)
   try simp only [Act.put, zz1, zz2, zz3, zz4, zz5, zz6]
   refine wpTo_ts (i := 2) (v := ?_) rfl (by kernel_rfl) hSd (by rfl) (fun w hSw => ?_) (by assumption) ?_
   rotate_left
   · ((try dsimp only [RqC] at hSw); go_simp <;> with_reducible rfl)
   refine wpTo_ts (i := 3) (v := ?_) rfl (by kernel_rfl) hSd (by rfl) (fun w hSw => ?_) (by assumption) ?_
   rotate_left
   · ((try dsimp only [RqC] at hSw); go_simp <;> with_reducible rfl)
   try simp only [Act.put, zz1, zz2, zz3, zz4, zz5, zz6]
   rw [wrap_fits (x := (N : Int) - 1) (by omega) (by omega)]
   refine wpTo_ready (rs := [4]) (by kernel_rfl) (by simp) ?_
   refine AllTo.cons (o := _) rfl (fun K hK => ?_) ?_
   ·
    (try simp only [zz1, zz2, zz3])
    go_simp
    refine (within_any _ _ _ _).mono ?_
    rintro e wz ⟨rfl, hwz⟩
    subst wz
    rw [unhide HK]
    go_wp2_with fail
    have hHeld := hSmk u0 Kau0.out Ktu0.out (hcp _ Bu0.out) (hci0 _ Bu0.out) (hci1 _ Bu0.out) (hci2 _ Bu0.out) (hci3 _ Bu0.out) (hci4 _ Bu0.out) (hci5 _ Bu0.out) (hci6 _ Bu0.out)
    refine hK.out _ _ (fun _ => hHeld) ?_
    clear hK K
    try simp only [Act.put, zz1, zz2, zz3, zz4, zz5, zz6]
    refine wpTo_ts (i := 5) (v := ?_) rfl (by kernel_rfl) hSd (by rfl) (fun w hSw => ?_) (by assumption) ?_
    rotate_left
    · ((try dsimp only [RqC] at hSw); go_simp <;> with_reducible rfl)
    refine wpTo_ts (i := 6) (v := ?_) rfl (by kernel_rfl) hSd (by rfl) (fun w hSw => ?_) (by assumption) ?_
    rotate_left
    · ((try dsimp only [RqC] at hSw); go_simp <;> with_reducible rfl)
    try simp only [Act.put, zz1, zz2, zz3, zz4, zz5, zz6]
    refine wpTo_ts (i := 7) (v := ?_) rfl (by kernel_rfl) hSd (by rfl) (fun w hSw => ?_) (by assumption) ?_
    rotate_left
    · ((try dsimp only [RqC] at hSw); go_simp <;> with_reducible rfl)
    refine wpTo_ts (i := 8) (v := ?_) rfl (by kernel_rfl) hSd (by rfl) (fun w hSw => ?_) (by assumption) ?_
    rotate_left
    · ((try dsimp only [RqC] at hSw); go_simp <;> with_reducible rfl)
    refine wpTo_ts (i := 9) (v := ?_) rfl (by kernel_rfl) hSd (by rfl) (fun w hSw => ?_) (by assumption) ?_
    rotate_left
    · ((try dsimp only [RqC] at hSw); go_simp <;> with_reducible rfl)
    try simp only [Act.put, zz1, zz2, zz3, zz4, zz5, zz6]
    refine wpTo_ts (i := 10) (v := ?_) rfl (by kernel_rfl) hSd (by rfl) (fun w hSw => ?_) (by assumption) ?_
    rotate_left
    · ((try dsimp only [RqC] at hSw); go_simp <;> with_reducible rfl)
    refine wpTo_ts (i := 11) (v := ?_) rfl (by kernel_rfl) hSd (by rfl) (fun w hSw => ?_) (by assumption) ?_
    rotate_left
    · ((try dsimp only [RqC] at hSw); go_simp <;> with_reducible rfl)
    refine wpTo_ts (i := 12) (v := ?_) rfl (by kernel_rfl) hSd (by rfl) (fun w hSw => ?_) (by assumption) ?_
    rotate_left
    · ((try dsimp only [RqC] at hSw); go_simp <;> with_reducible rfl)
    try simp only [Act.put, zz1, zz2, zz3, zz4, zz5, zz6]
    refine wpTo_ts (i := 13) (v := ?_) rfl (by kernel_rfl) hSd (by rfl) (fun w hSw => ?_) (by assumption) ?_
    rotate_left
    · ((try dsimp only [RqC] at hSw); go_simp <;> with_reducible rfl)
    refine wpTo_ts (i := 14) (v := ?_) rfl (by kernel_rfl) hSd (by rfl) (fun w hSw => ?_) (by assumption) ?_
    rotate_left
    · ((try dsimp only [RqC] at hSw); go_simp <;> with_reducible rfl)
    refine wpTo_ts (i := 15) (v := ?_) rfl (by kernel_rfl) hSd (by rfl) (fun w hSw => ?_) (by assumption) ?_
    rotate_left
    · ((try dsimp only [RqC] at hSw); go_simp <;> with_reducible rfl)
    try simp only [Act.put, zz1, zz2, zz3, zz4, zz5, zz6]
    refine wpTo_ready (rs := [16]) (by kernel_rfl) (by simp) ?_
    refine AllTo.cons (o := _) rfl (fun K hK => ?_) ?_
    ·
     (try simp only [zz1, zz2, zz3])
     go_simp
     refine (fits_any q t _).mono ?_
     rintro e u1 ⟨rfl, hb⟩
     have Bu1 := hide (Bu0.out.trans (hb.mono Bu0.out.size))
     have Kau1 := hide (Blk.below hb Zau0 Kau0.out)
     have Zau1 := Nat.lt_of_lt_of_le Zau0 hb.size
     have Ktu1 := hide (Blk.below hb Ztu0 Ktu0.out)
     have Ztu1 := Nat.lt_of_lt_of_le Ztu0 hb.size
     clear hb
     clear Bu0 Kau0 Zau0 Ktu0 Ztu0
     clear hHeld
     go_wp2_with fail
     have hHeld := hSmk u1 Kau1.out Ktu1.out (hcp _ Bu1.out) (hci0 _ Bu1.out) (hci1 _ Bu1.out) (hci2 _ Bu1.out) (hci3 _ Bu1.out) (hci4 _ Bu1.out) (hci5 _ Bu1.out) (hci6 _ Bu1.out)
     refine hK.out _ _ (fun _ => hHeld) ?_
     clear hK K
     try simp only [Act.put, zz1, zz2, zz3, zz4, zz5, zz6]
     refine wpTo_ts (i := 17) (v := ?_) rfl (by kernel_rfl) hSd (by rfl) (fun w hSw => ?_) (by assumption) ?_
     rotate_left
     · ((try dsimp only [RqC] at hSw); go_simp <;> with_reducible rfl)
     try simp only [Act.put, zz1, zz2, zz3, zz4, zz5, zz6]
     refine wpTo_ts (i := 18) (v := ?_) rfl (by kernel_rfl) hSd (by rfl) (fun w hSw => ?_) (by assumption) ?_
     rotate_left
     · ((try dsimp only [RqC] at hSw); go_simp <;> with_reducible rfl)
     try simp only [Act.put, zz1, zz2, zz3, zz4, zz5, zz6]
     refine wpTo_done (by kernel_rfl) ?_ _
     refine NoPanic.normal ?_
     go_wp2_with fail
     go_meet
     case rel => exact ⟨rfl, unhide Kau1, Zau1, unhide Ktu1, Ztu1, unhide Bu1⟩
    exact AllTo.nil
   exact AllTo.nil
  case rest =>
   clear Kawr Ktwr Bwr hcp hci0 hci1 hci2 hci3 hci4 hci5 hci6
   obtain ⟨rfl, ka, za, kt, zt, hb⟩ := hcut
   rw [← unhide HAI] at ka
   have HBC := hide (Bv1.out.trans (hb.mono Bv1.out.size))
   have HKA := hide ka
   have HKT := hide kt
   have HBB := hide hb
   clear ka kt hb
   cases hf : fitsB q t
   case false =>
    have HE : Hid (inAll (itemsR r) t us = false) := HST.out (by rw [unhide HF]; exact hf)
    go_wp2
    go_ret
    exact ⟨ret_boolF HE.out.symm, unhide HBC⟩
   case true =>
    have HG2 := hide (HGO.out (by rw [unhide HF]; exact hf))
    go_wp2
    go_roundw
    case rel => exact ⟨k + 1, by omega, by go_num, unhide HG2, unhide HKA, za, unhide HKT, zt, unhide HBB⟩
    case measure => simp [intOf]; omega

set_option maxRecDepth 100000 in
set_option maxHeartbeats 4000000 in
theorem holds_any (r : ReqV) (h : ReqH) (a : Option Addr) (n c : Nat) (us : List Int) (t : TypeV) (w : World) (hr : RdReq w r h) (hs : r.small) (hg : ErrT w) (hu : Rd w a n us) (hn : n ≤ 1048600) :
 Calls Tryz.prog 18 #[reqVal r h, .slice a n c, .agg #[.int .i64 t.id, .int .i64 t.wd, .int .i64 t.ht, .int .i64 t.dp, .int .i64 t.tare, .int .i64 t.gram, .int .i64 t.cost]] w fun e w' => e = .returned (.bool (holdsR r us t)) ∧ Below w.heap.size w w' := by
 have HR := hide hr
 have HG := hide hg
 have HU := hide hu
 clear hr hg hu
 unfold reqVal
 by_cases hz : classI r = 0
 case neg =>
  have hne : (classI r == 0) = false := by simp [hz]
  have HE : Hid (holdsR r us t = false) := by simp [Hid, holdsR, hz]
  clear hz
  go_enter Tryz.func18, Tryz.ntmps18
  go_wp2_with fail
  generalize hW : ((w.alloc (.cells #[.int .i64 r.way, .int .i64 r.pal.wd, .int .i64 r.pal.dp, .int .i64 r.pal.ht, .int .i64 r.pal.gram, .int .i64 r.classes, .slice h.ap r.pairs.length h.cp, .slice h.at' r.types.length h.ct, .int .i64 r.master, .slice h.ai r.items.length h.ci] 41)).alloc (.cells #[.int .i64 t.id, .int .i64 t.wd, .int .i64 t.ht, .int .i64 t.dp, .int .i64 t.tare, .int .i64 t.gram, .int .i64 t.cost] 54)) = wA at *
  obtain ⟨BwA, KawA, ZawA, KtwA, ZtwA⟩ := en2 hW
  have Ga : w.heap.size ≤ w.heap.size := by omega
  have Gt : w.heap.size ≤ (w.heap.size + 1) := by omega
  have Nqat : w.heap.size ≠ (w.heap.size + 1) := by omega
  have Nqta : (w.heap.size + 1) ≠ w.heap.size := by omega
  clear hW
  go_cut [6] (fun v wc => v = .bool (holdsR r us t) ∧ Below w.heap.size w wc)
  case first =>
   refine wp_region_noPanic ?_
   have Bu0 : Hid (Below w.heap.size w wA.drew) := BwA.out.drew
   have Kau0 : Hid (Blk wA.drew w.heap.size [.int .i64 r.way, .int .i64 r.pal.wd, .int .i64 r.pal.dp, .int .i64 r.pal.ht, .int .i64 r.pal.gram, .int .i64 r.classes, .slice h.ap r.pairs.length h.cp, .slice h.at' r.types.length h.ct, .int .i64 r.master, .slice h.ai r.items.length h.ci]) := unhide KawA
   have Zau0 : w.heap.size < wA.drew.heap.size := ZawA
   have Ktu0 : Hid (Blk wA.drew (w.heap.size + 1) [.int .i64 t.id, .int .i64 t.wd, .int .i64 t.ht, .int .i64 t.dp, .int .i64 t.tare, .int .i64 t.gram, .int .i64 t.cost]) := unhide KtwA
   have Ztu0 : (w.heap.size + 1) < wA.drew.heap.size := ZtwA
   obtain ⟨S, hSdef⟩ : ∃ S : World → Prop, S = (fun w' => RqC w' w.heap.size r h ∧ w'.cell? ⟨(w.heap.size + 1), 0, none⟩ = some (.int .i64 t.id) ∧ w'.cell? ⟨(w.heap.size + 1), 1, none⟩ = some (.int .i64 t.wd) ∧ w'.cell? ⟨(w.heap.size + 1), 2, none⟩ = some (.int .i64 t.ht) ∧ w'.cell? ⟨(w.heap.size + 1), 3, none⟩ = some (.int .i64 t.dp) ∧ w'.cell? ⟨(w.heap.size + 1), 4, none⟩ = some (.int .i64 t.tare) ∧ w'.cell? ⟨(w.heap.size + 1), 5, none⟩ = some (.int .i64 t.gram) ∧ w'.cell? ⟨(w.heap.size + 1), 6, none⟩ = some (.int .i64 t.cost)) := ⟨_, rfl⟩
   have hSmk : ∀ wq, Blk wq w.heap.size [.int .i64 r.way, .int .i64 r.pal.wd, .int .i64 r.pal.dp, .int .i64 r.pal.ht, .int .i64 r.pal.gram, .int .i64 r.classes, .slice h.ap r.pairs.length h.cp, .slice h.at' r.types.length h.ct, .int .i64 r.master, .slice h.ai r.items.length h.ci] → Blk wq (w.heap.size + 1) [.int .i64 t.id, .int .i64 t.wd, .int .i64 t.ht, .int .i64 t.dp, .int .i64 t.tare, .int .i64 t.gram, .int .i64 t.cost] → S wq := fun wq ka kt => by rw [hSdef]; exact ⟨RqC.of ka, (kt 0 (by simp)).1, (kt 1 (by simp)).1, (kt 2 (by simp)).1, (kt 3 (by simp)).1, (kt 4 (by simp)).1, (kt 5 (by simp)).1, (kt 6 (by simp)).1⟩
   have hSd : ∀ wq, S wq → (fun w' => RqC w' w.heap.size r h ∧ w'.cell? ⟨(w.heap.size + 1), 0, none⟩ = some (.int .i64 t.id) ∧ w'.cell? ⟨(w.heap.size + 1), 1, none⟩ = some (.int .i64 t.wd) ∧ w'.cell? ⟨(w.heap.size + 1), 2, none⟩ = some (.int .i64 t.ht) ∧ w'.cell? ⟨(w.heap.size + 1), 3, none⟩ = some (.int .i64 t.dp) ∧ w'.cell? ⟨(w.heap.size + 1), 4, none⟩ = some (.int .i64 t.tare) ∧ w'.cell? ⟨(w.heap.size + 1), 5, none⟩ = some (.int .i64 t.gram) ∧ w'.cell? ⟨(w.heap.size + 1), 6, none⟩ = some (.int .i64 t.cost)) wq := fun wq h => by rw [hSdef] at h; exact h
   clear hSdef
   have hHeld : S wA.drew := hSmk wA.drew Kau0.out Ktu0.out
   refine wp_region_to (S := S) (T := []) (by kernel_rfl) hHeld (fun _ => ?_)
   generalize wA.drew = u0 at *
   refine wpTo_ts (i := 0) (v := ?_) rfl (by kernel_rfl) hSd (by rfl) (fun w hSw => ?_) (by assumption) ?_
   rotate_left
   · ((try dsimp only [RqC] at hSw); go_simp <;> with_reducible rfl)
   try simp only [Act.put, zz1, zz2, zz3, zz4, zz5, zz6]
   refine wpTo_ready (rs := [1]) (by kernel_rfl) (by simp) ?_
   refine AllTo.cons (o := _) rfl (fun K hK => ?_) ?_
   ·
    (try simp only [zz1, zz2, zz3])
    go_simp
    refine (class_any r h u0 (HR.out.mono Bu0.out) hs (HG.out.later Bu0.out)).mono ?_
    rintro e u1 ⟨rfl, hb⟩
    have Bu1 := hide (Bu0.out.trans (hb.mono Bu0.out.size))
    have Kau1 := hide (Blk.below hb Zau0 Kau0.out)
    have Zau1 := Nat.lt_of_lt_of_le Zau0 hb.size
    have Ktu1 := hide (Blk.below hb Ztu0 Ktu0.out)
    have Ztu1 := Nat.lt_of_lt_of_le Ztu0 hb.size
    clear hb
    clear Bu0 Kau0 Zau0 Ktu0 Ztu0
    clear hHeld
    go_wp2_with fail
    have hHeld := hSmk u1 Kau1.out Ktu1.out
    refine hK.out _ _ (fun _ => hHeld) ?_
    clear hK K
    try simp only [Act.put, zz1, zz2, zz3, zz4, zz5, zz6]
    refine wpTo_ts (i := 2) (v := ?_) rfl (by kernel_rfl) hSd (by rfl) (fun w hSw => ?_) (by assumption) ?_
    rotate_left
    · ((try dsimp only [RqC] at hSw); go_simp <;> with_reducible rfl)
    refine wpTo_ts (i := 3) (v := ?_) rfl (by kernel_rfl) hSd (by rfl) (fun w hSw => ?_) (by assumption) ?_
    rotate_left
    · ((try dsimp only [RqC] at hSw); go_simp <;> with_reducible rfl)
    try simp only [Act.put, zz1, zz2, zz3, zz4, zz5, zz6]
    refine wpTo_tk (i := 4) (v := undef) rfl (by kernel_rfl) (Or.inr ⟨by rfl, rfl⟩) (by assumption) ?_
    try simp only [Act.put, zz1, zz2, zz3, zz4, zz5, zz6]
    refine wpTo_tk (i := 5) (v := undef) rfl (by kernel_rfl) (Or.inr ⟨by rfl, rfl⟩) (by assumption) ?_
    try simp only [Act.put, zz1, zz2, zz3, zz4, zz5, zz6]
    refine wpTo_tk (i := 6) (v := undef) rfl (by kernel_rfl) (Or.inr ⟨by rfl, rfl⟩) (by assumption) ?_
    try simp only [Act.put, zz1, zz2, zz3, zz4, zz5, zz6]
    refine wpTo_ready (rs := [7]) (by kernel_rfl) (by simp) ?_
    refine AllTo.cons (o := _) rfl (fun K hK => ?_) ?_
    ·
     skip
     rw [if_neg (by first | decide | (intro h; cases h))]
     refine hK.out _ _ (fun _ => hHeld) ?_
     clear hK K
     try simp only [Act.put, zz1, zz2, zz3, zz4, zz5, zz6]
     refine wpTo_ts (i := 8) (v := ?_) rfl (by kernel_rfl) hSd (by rfl) (fun w hSw => ?_) (by assumption) ?_
     rotate_left
     · ((try dsimp only [RqC] at hSw); go_simp <;> with_reducible rfl)
     refine wpTo_ts (i := 9) (v := ?_) rfl (by kernel_rfl) hSd (by rfl) (fun w hSw => ?_) (by assumption) ?_
     rotate_left
     · ((try dsimp only [RqC] at hSw); go_simp <;> with_reducible rfl)
     try simp only [Act.put, zz1, zz2, zz3, zz4, zz5, zz6]
     refine wpTo_tk (i := 10) (v := undef) rfl (by kernel_rfl) (Or.inr ⟨by rfl, rfl⟩) (by assumption) ?_
     try simp only [Act.put, zz1, zz2, zz3, zz4, zz5, zz6]
     refine wpTo_tk (i := 11) (v := undef) rfl (by kernel_rfl) (Or.inr ⟨by rfl, rfl⟩) (by assumption) ?_
     try simp only [Act.put, zz1, zz2, zz3, zz4, zz5, zz6]
     refine wpTo_tk (i := 13) (v := undef) rfl (by kernel_rfl) (Or.inr ⟨by rfl, rfl⟩) (by assumption) ?_
     try simp only [Act.put, zz1, zz2, zz3, zz4, zz5, zz6]
     refine wpTo_ready (rs := [12]) (by kernel_rfl) (by simp) ?_
     refine AllTo.cons (o := _) rfl (fun K hK => ?_) ?_
     ·
      skip
      rw [if_neg (by first | decide | (intro h; cases h))]
      refine hK.out _ _ (fun _ => hHeld) ?_
      clear hK K
      try simp only [Act.put, zz1, zz2, zz3, zz4, zz5, zz6]
      refine wpTo_ready (rs := [14]) (by kernel_rfl) (by simp) ?_
      refine AllTo.cons (o := _) rfl (fun K hK => ?_) ?_
      ·
       skip
       rw [if_neg (by first | decide | (intro h; cases h))]
       refine hK.out _ _ (fun _ => hHeld) ?_
       clear hK K
       try simp only [Act.put, zz1, zz2, zz3, zz4, zz5, zz6]
       refine wpTo_ready (rs := [15]) (by kernel_rfl) (by simp) ?_
       refine AllTo.cons (o := _) rfl (fun K hK => ?_) ?_
       ·
        skip
        rw [if_neg (by first | decide | (intro h; cases h))]
        refine hK.out _ _ (fun _ => hHeld) ?_
        clear hK K
        try simp only [Act.put, zz1, zz2, zz3, zz4, zz5, zz6]
        refine wpTo_ts (i := 16) (v := ?_) rfl (by kernel_rfl) hSd (by rfl) (fun w hSw => ?_) (by assumption) ?_
        rotate_left
        · ((try dsimp only [RqC] at hSw); go_simp <;> with_reducible rfl)
        try simp only [Act.put, zz1, zz2, zz3, zz4, zz5, zz6]
        refine wpTo_ts (i := 17) (v := ?_) rfl (by kernel_rfl) hSd (by rfl) (fun w hSw => ?_) (by assumption) ?_
        rotate_left
        · ((try dsimp only [RqC] at hSw); go_simp <;> with_reducible rfl)
        try simp only [Act.put, zz1, zz2, zz3, zz4, zz5, zz6]
        refine wpTo_done (by kernel_rfl) ?_ _
        refine NoPanic.normal ?_
        go_wp2_with fail
        go_meet
        case rel => exact ⟨congrArg Value.bool HE.out.symm, unhide Bu1⟩
       exact AllTo.nil
      exact AllTo.nil
     exact AllTo.nil
    exact AllTo.nil
   exact AllTo.nil
  case rest =>
   obtain ⟨rfl, hb⟩ := hcut
   have HB := hide hb
   clear hb
   go_wp2
   go_ret
   exact ⟨rfl, unhide HB⟩
 have HZ := hide hz
 cases hf : inAll (itemsR r) t us
 case false =>
  have HE : Hid (holdsR r us t = false) := by simp [Hid, holdsR, hf]
  have HF := hide hf
  clear hz hf
  go_enter Tryz.func18, Tryz.ntmps18
  go_wp2_with fail
  generalize hW : ((w.alloc (.cells #[.int .i64 r.way, .int .i64 r.pal.wd, .int .i64 r.pal.dp, .int .i64 r.pal.ht, .int .i64 r.pal.gram, .int .i64 r.classes, .slice h.ap r.pairs.length h.cp, .slice h.at' r.types.length h.ct, .int .i64 r.master, .slice h.ai r.items.length h.ci] 41)).alloc (.cells #[.int .i64 t.id, .int .i64 t.wd, .int .i64 t.ht, .int .i64 t.dp, .int .i64 t.tare, .int .i64 t.gram, .int .i64 t.cost] 54)) = wA at *
  obtain ⟨BwA, KawA, ZawA, KtwA, ZtwA⟩ := en2 hW
  have Ga : w.heap.size ≤ w.heap.size := by omega
  have Gt : w.heap.size ≤ (w.heap.size + 1) := by omega
  have Nqat : w.heap.size ≠ (w.heap.size + 1) := by omega
  have Nqta : (w.heap.size + 1) ≠ w.heap.size := by omega
  clear hW
  go_cut [6] (fun v wc => v = .bool (holdsR r us t) ∧ Below w.heap.size w wc)
  case first =>
   refine wp_region_noPanic ?_
   have Bu0 : Hid (Below w.heap.size w wA.drew) := BwA.out.drew
   have Kau0 : Hid (Blk wA.drew w.heap.size [.int .i64 r.way, .int .i64 r.pal.wd, .int .i64 r.pal.dp, .int .i64 r.pal.ht, .int .i64 r.pal.gram, .int .i64 r.classes, .slice h.ap r.pairs.length h.cp, .slice h.at' r.types.length h.ct, .int .i64 r.master, .slice h.ai r.items.length h.ci]) := unhide KawA
   have Zau0 : w.heap.size < wA.drew.heap.size := ZawA
   have Ktu0 : Hid (Blk wA.drew (w.heap.size + 1) [.int .i64 t.id, .int .i64 t.wd, .int .i64 t.ht, .int .i64 t.dp, .int .i64 t.tare, .int .i64 t.gram, .int .i64 t.cost]) := unhide KtwA
   have Ztu0 : (w.heap.size + 1) < wA.drew.heap.size := ZtwA
   obtain ⟨S, hSdef⟩ : ∃ S : World → Prop, S = (fun w' => RqC w' w.heap.size r h ∧ w'.cell? ⟨(w.heap.size + 1), 0, none⟩ = some (.int .i64 t.id) ∧ w'.cell? ⟨(w.heap.size + 1), 1, none⟩ = some (.int .i64 t.wd) ∧ w'.cell? ⟨(w.heap.size + 1), 2, none⟩ = some (.int .i64 t.ht) ∧ w'.cell? ⟨(w.heap.size + 1), 3, none⟩ = some (.int .i64 t.dp) ∧ w'.cell? ⟨(w.heap.size + 1), 4, none⟩ = some (.int .i64 t.tare) ∧ w'.cell? ⟨(w.heap.size + 1), 5, none⟩ = some (.int .i64 t.gram) ∧ w'.cell? ⟨(w.heap.size + 1), 6, none⟩ = some (.int .i64 t.cost)) := ⟨_, rfl⟩
   have hSmk : ∀ wq, Blk wq w.heap.size [.int .i64 r.way, .int .i64 r.pal.wd, .int .i64 r.pal.dp, .int .i64 r.pal.ht, .int .i64 r.pal.gram, .int .i64 r.classes, .slice h.ap r.pairs.length h.cp, .slice h.at' r.types.length h.ct, .int .i64 r.master, .slice h.ai r.items.length h.ci] → Blk wq (w.heap.size + 1) [.int .i64 t.id, .int .i64 t.wd, .int .i64 t.ht, .int .i64 t.dp, .int .i64 t.tare, .int .i64 t.gram, .int .i64 t.cost] → S wq := fun wq ka kt => by rw [hSdef]; exact ⟨RqC.of ka, (kt 0 (by simp)).1, (kt 1 (by simp)).1, (kt 2 (by simp)).1, (kt 3 (by simp)).1, (kt 4 (by simp)).1, (kt 5 (by simp)).1, (kt 6 (by simp)).1⟩
   have hSd : ∀ wq, S wq → (fun w' => RqC w' w.heap.size r h ∧ w'.cell? ⟨(w.heap.size + 1), 0, none⟩ = some (.int .i64 t.id) ∧ w'.cell? ⟨(w.heap.size + 1), 1, none⟩ = some (.int .i64 t.wd) ∧ w'.cell? ⟨(w.heap.size + 1), 2, none⟩ = some (.int .i64 t.ht) ∧ w'.cell? ⟨(w.heap.size + 1), 3, none⟩ = some (.int .i64 t.dp) ∧ w'.cell? ⟨(w.heap.size + 1), 4, none⟩ = some (.int .i64 t.tare) ∧ w'.cell? ⟨(w.heap.size + 1), 5, none⟩ = some (.int .i64 t.gram) ∧ w'.cell? ⟨(w.heap.size + 1), 6, none⟩ = some (.int .i64 t.cost)) wq := fun wq h => by rw [hSdef] at h; exact h
   clear hSdef
   have hHeld : S wA.drew := hSmk wA.drew Kau0.out Ktu0.out
   refine wp_region_to (S := S) (T := []) (by kernel_rfl) hHeld (fun _ => ?_)
   generalize wA.drew = u0 at *
   refine wpTo_ts (i := 0) (v := ?_) rfl (by kernel_rfl) hSd (by rfl) (fun w hSw => ?_) (by assumption) ?_
   rotate_left
   · ((try dsimp only [RqC] at hSw); go_simp <;> with_reducible rfl)
   try simp only [Act.put, zz1, zz2, zz3, zz4, zz5, zz6]
   refine wpTo_ready (rs := [1]) (by kernel_rfl) (by simp) ?_
   refine AllTo.cons (o := _) rfl (fun K hK => ?_) ?_
   ·
    (try simp only [zz1, zz2, zz3])
    go_simp
    refine (class_any r h u0 (HR.out.mono Bu0.out) hs (HG.out.later Bu0.out)).mono ?_
    rintro e u1 ⟨rfl, hb⟩
    have Bu1 := hide (Bu0.out.trans (hb.mono Bu0.out.size))
    have Kau1 := hide (Blk.below hb Zau0 Kau0.out)
    have Zau1 := Nat.lt_of_lt_of_le Zau0 hb.size
    have Ktu1 := hide (Blk.below hb Ztu0 Ktu0.out)
    have Ztu1 := Nat.lt_of_lt_of_le Ztu0 hb.size
    rw [unhide HZ]
    clear hb
    clear Bu0 Kau0 Zau0 Ktu0 Ztu0
    clear hHeld
    go_wp2_with fail
    have hHeld := hSmk u1 Kau1.out Ktu1.out
    refine hK.out _ _ (fun _ => hHeld) ?_
    clear hK K
    try simp only [Act.put, zz1, zz2, zz3, zz4, zz5, zz6]
    refine wpTo_ts (i := 2) (v := ?_) rfl (by kernel_rfl) hSd (by rfl) (fun w hSw => ?_) (by assumption) ?_
    rotate_left
    · ((try dsimp only [RqC] at hSw); go_simp <;> with_reducible rfl)
    refine wpTo_ts (i := 3) (v := ?_) rfl (by kernel_rfl) hSd (by rfl) (fun w hSw => ?_) (by assumption) ?_
    rotate_left
    · ((try dsimp only [RqC] at hSw); go_simp <;> with_reducible rfl)
    refine wpTo_ts (i := 4) (v := ?_) rfl (by kernel_rfl) hSd (by rfl) (fun w hSw => ?_) (by assumption) ?_
    rotate_left
    · ((try dsimp only [RqC] at hSw); go_simp <;> with_reducible rfl)
    try simp only [Act.put, zz1, zz2, zz3, zz4, zz5, zz6]
    refine wpTo_ts (i := 5) (v := ?_) rfl (by kernel_rfl) hSd (by rfl) (fun w hSw => ?_) (by assumption) ?_
    rotate_left
    · ((try dsimp only [RqC] at hSw); go_simp <;> with_reducible rfl)
    refine wpTo_ts (i := 6) (v := ?_) rfl (by kernel_rfl) hSd (by rfl) (fun w hSw => ?_) (by assumption) ?_
    rotate_left
    · ((try dsimp only [RqC] at hSw); go_simp <;> with_reducible rfl)
    try simp only [Act.put, zz1, zz2, zz3, zz4, zz5, zz6]
    refine wpTo_ready (rs := [7]) (by kernel_rfl) (by simp) ?_
    refine AllTo.cons (o := _) rfl (fun K hK => ?_) ?_
    ·
     (try simp only [zz1, zz2, zz3])
     go_simp
     refine (eachFits_any r h a n c us t u1 (HR.out.mono Bu1.out) hs (HG.out.later Bu1.out) (HU.out.mono Bu1.out) hn HZ.out).mono ?_
     rintro e u2 ⟨rfl, hb⟩
     have Bu2 := hide (Bu1.out.trans (hb.mono Bu1.out.size))
     have Kau2 := hide (Blk.below hb Zau1 Kau1.out)
     have Zau2 := Nat.lt_of_lt_of_le Zau1 hb.size
     have Ktu2 := hide (Blk.below hb Ztu1 Ktu1.out)
     have Ztu2 := Nat.lt_of_lt_of_le Ztu1 hb.size
     rw [unhide HF]
     clear hb
     clear Bu1 Kau1 Zau1 Ktu1 Ztu1
     clear hHeld
     go_wp2_with fail
     have hHeld := hSmk u2 Kau2.out Ktu2.out
     refine hK.out _ _ (fun _ => hHeld) ?_
     clear hK K
     try simp only [Act.put, zz1, zz2, zz3, zz4, zz5, zz6]
     refine wpTo_ts (i := 8) (v := ?_) rfl (by kernel_rfl) hSd (by rfl) (fun w hSw => ?_) (by assumption) ?_
     rotate_left
     · ((try dsimp only [RqC] at hSw); go_simp <;> with_reducible rfl)
     refine wpTo_ts (i := 9) (v := ?_) rfl (by kernel_rfl) hSd (by rfl) (fun w hSw => ?_) (by assumption) ?_
     rotate_left
     · ((try dsimp only [RqC] at hSw); go_simp <;> with_reducible rfl)
     try simp only [Act.put, zz1, zz2, zz3, zz4, zz5, zz6]
     refine wpTo_tk (i := 10) (v := undef) rfl (by kernel_rfl) (Or.inr ⟨by rfl, rfl⟩) (by assumption) ?_
     try simp only [Act.put, zz1, zz2, zz3, zz4, zz5, zz6]
     refine wpTo_tk (i := 11) (v := undef) rfl (by kernel_rfl) (Or.inr ⟨by rfl, rfl⟩) (by assumption) ?_
     try simp only [Act.put, zz1, zz2, zz3, zz4, zz5, zz6]
     refine wpTo_tk (i := 13) (v := undef) rfl (by kernel_rfl) (Or.inr ⟨by rfl, rfl⟩) (by assumption) ?_
     try simp only [Act.put, zz1, zz2, zz3, zz4, zz5, zz6]
     refine wpTo_ready (rs := [12]) (by kernel_rfl) (by simp) ?_
     refine AllTo.cons (o := _) rfl (fun K hK => ?_) ?_
     ·
      skip
      rw [if_neg (by first | decide | (intro h; cases h))]
      refine hK.out _ _ (fun _ => hHeld) ?_
      clear hK K
      try simp only [Act.put, zz1, zz2, zz3, zz4, zz5, zz6]
      refine wpTo_ready (rs := [14]) (by kernel_rfl) (by simp) ?_
      refine AllTo.cons (o := _) rfl (fun K hK => ?_) ?_
      ·
       skip
       rw [if_neg (by first | decide | (intro h; cases h))]
       refine hK.out _ _ (fun _ => hHeld) ?_
       clear hK K
       try simp only [Act.put, zz1, zz2, zz3, zz4, zz5, zz6]
       refine wpTo_ready (rs := [15]) (by kernel_rfl) (by simp) ?_
       refine AllTo.cons (o := _) rfl (fun K hK => ?_) ?_
       ·
        skip
        rw [if_neg (by first | decide | (intro h; cases h))]
        refine hK.out _ _ (fun _ => hHeld) ?_
        clear hK K
        try simp only [Act.put, zz1, zz2, zz3, zz4, zz5, zz6]
        refine wpTo_ts (i := 16) (v := ?_) rfl (by kernel_rfl) hSd (by rfl) (fun w hSw => ?_) (by assumption) ?_
        rotate_left
        · ((try dsimp only [RqC] at hSw); go_simp <;> with_reducible rfl)
        try simp only [Act.put, zz1, zz2, zz3, zz4, zz5, zz6]
        refine wpTo_ts (i := 17) (v := ?_) rfl (by kernel_rfl) hSd (by rfl) (fun w hSw => ?_) (by assumption) ?_
        rotate_left
        · ((try dsimp only [RqC] at hSw); go_simp <;> with_reducible rfl)
        try simp only [Act.put, zz1, zz2, zz3, zz4, zz5, zz6]
        refine wpTo_done (by kernel_rfl) ?_ _
        refine NoPanic.normal ?_
        go_wp2_with fail
        go_meet
        case rel => exact ⟨congrArg Value.bool HE.out.symm, unhide Bu2⟩
       exact AllTo.nil
      exact AllTo.nil
     exact AllTo.nil
    exact AllTo.nil
   exact AllTo.nil
  case rest =>
   obtain ⟨rfl, hb⟩ := hcut
   have HB := hide hb
   clear hb
   go_wp2
   go_ret
   exact ⟨rfl, unhide HB⟩
 case true =>
  have HE : Hid (holdsR r us t = (decide (volOf (itemsR r) us ≤ vol t.wd t.ht t.dp) && decide (gramOf (itemsR r) us ≤ t.gram))) := by rw [Hid, holdsR, hf, hz]; rfl
  have HF := hide hf
  clear hz hf
  go_enter Tryz.func18, Tryz.ntmps18
  go_wp2_with fail
  generalize hW : ((w.alloc (.cells #[.int .i64 r.way, .int .i64 r.pal.wd, .int .i64 r.pal.dp, .int .i64 r.pal.ht, .int .i64 r.pal.gram, .int .i64 r.classes, .slice h.ap r.pairs.length h.cp, .slice h.at' r.types.length h.ct, .int .i64 r.master, .slice h.ai r.items.length h.ci] 41)).alloc (.cells #[.int .i64 t.id, .int .i64 t.wd, .int .i64 t.ht, .int .i64 t.dp, .int .i64 t.tare, .int .i64 t.gram, .int .i64 t.cost] 54)) = wA at *
  obtain ⟨BwA, KawA, ZawA, KtwA, ZtwA⟩ := en2 hW
  have Ga : w.heap.size ≤ w.heap.size := by omega
  have Gt : w.heap.size ≤ (w.heap.size + 1) := by omega
  have Nqat : w.heap.size ≠ (w.heap.size + 1) := by omega
  have Nqta : (w.heap.size + 1) ≠ w.heap.size := by omega
  clear hW
  go_cut [6] (fun v wc => v = .bool (holdsR r us t) ∧ Below w.heap.size w wc)
  case first =>
   refine wp_region_noPanic ?_
   have Bu0 : Hid (Below w.heap.size w wA.drew) := BwA.out.drew
   have Kau0 : Hid (Blk wA.drew w.heap.size [.int .i64 r.way, .int .i64 r.pal.wd, .int .i64 r.pal.dp, .int .i64 r.pal.ht, .int .i64 r.pal.gram, .int .i64 r.classes, .slice h.ap r.pairs.length h.cp, .slice h.at' r.types.length h.ct, .int .i64 r.master, .slice h.ai r.items.length h.ci]) := unhide KawA
   have Zau0 : w.heap.size < wA.drew.heap.size := ZawA
   have Ktu0 : Hid (Blk wA.drew (w.heap.size + 1) [.int .i64 t.id, .int .i64 t.wd, .int .i64 t.ht, .int .i64 t.dp, .int .i64 t.tare, .int .i64 t.gram, .int .i64 t.cost]) := unhide KtwA
   have Ztu0 : (w.heap.size + 1) < wA.drew.heap.size := ZtwA
   obtain ⟨S, hSdef⟩ : ∃ S : World → Prop, S = (fun w' => RqC w' w.heap.size r h ∧ w'.cell? ⟨(w.heap.size + 1), 0, none⟩ = some (.int .i64 t.id) ∧ w'.cell? ⟨(w.heap.size + 1), 1, none⟩ = some (.int .i64 t.wd) ∧ w'.cell? ⟨(w.heap.size + 1), 2, none⟩ = some (.int .i64 t.ht) ∧ w'.cell? ⟨(w.heap.size + 1), 3, none⟩ = some (.int .i64 t.dp) ∧ w'.cell? ⟨(w.heap.size + 1), 4, none⟩ = some (.int .i64 t.tare) ∧ w'.cell? ⟨(w.heap.size + 1), 5, none⟩ = some (.int .i64 t.gram) ∧ w'.cell? ⟨(w.heap.size + 1), 6, none⟩ = some (.int .i64 t.cost)) := ⟨_, rfl⟩
   have hSmk : ∀ wq, Blk wq w.heap.size [.int .i64 r.way, .int .i64 r.pal.wd, .int .i64 r.pal.dp, .int .i64 r.pal.ht, .int .i64 r.pal.gram, .int .i64 r.classes, .slice h.ap r.pairs.length h.cp, .slice h.at' r.types.length h.ct, .int .i64 r.master, .slice h.ai r.items.length h.ci] → Blk wq (w.heap.size + 1) [.int .i64 t.id, .int .i64 t.wd, .int .i64 t.ht, .int .i64 t.dp, .int .i64 t.tare, .int .i64 t.gram, .int .i64 t.cost] → S wq := fun wq ka kt => by rw [hSdef]; exact ⟨RqC.of ka, (kt 0 (by simp)).1, (kt 1 (by simp)).1, (kt 2 (by simp)).1, (kt 3 (by simp)).1, (kt 4 (by simp)).1, (kt 5 (by simp)).1, (kt 6 (by simp)).1⟩
   have hSd : ∀ wq, S wq → (fun w' => RqC w' w.heap.size r h ∧ w'.cell? ⟨(w.heap.size + 1), 0, none⟩ = some (.int .i64 t.id) ∧ w'.cell? ⟨(w.heap.size + 1), 1, none⟩ = some (.int .i64 t.wd) ∧ w'.cell? ⟨(w.heap.size + 1), 2, none⟩ = some (.int .i64 t.ht) ∧ w'.cell? ⟨(w.heap.size + 1), 3, none⟩ = some (.int .i64 t.dp) ∧ w'.cell? ⟨(w.heap.size + 1), 4, none⟩ = some (.int .i64 t.tare) ∧ w'.cell? ⟨(w.heap.size + 1), 5, none⟩ = some (.int .i64 t.gram) ∧ w'.cell? ⟨(w.heap.size + 1), 6, none⟩ = some (.int .i64 t.cost)) wq := fun wq h => by rw [hSdef] at h; exact h
   clear hSdef
   have hHeld : S wA.drew := hSmk wA.drew Kau0.out Ktu0.out
   refine wp_region_to (S := S) (T := []) (by kernel_rfl) hHeld (fun _ => ?_)
   generalize wA.drew = u0 at *
   refine wpTo_ts (i := 0) (v := ?_) rfl (by kernel_rfl) hSd (by rfl) (fun w hSw => ?_) (by assumption) ?_
   rotate_left
   · ((try dsimp only [RqC] at hSw); go_simp <;> with_reducible rfl)
   try simp only [Act.put, zz1, zz2, zz3, zz4, zz5, zz6]
   refine wpTo_ready (rs := [1]) (by kernel_rfl) (by simp) ?_
   refine AllTo.cons (o := _) rfl (fun K hK => ?_) ?_
   ·
    (try simp only [zz1, zz2, zz3])
    go_simp
    refine (class_any r h u0 (HR.out.mono Bu0.out) hs (HG.out.later Bu0.out)).mono ?_
    rintro e u1 ⟨rfl, hb⟩
    have Bu1 := hide (Bu0.out.trans (hb.mono Bu0.out.size))
    have Kau1 := hide (Blk.below hb Zau0 Kau0.out)
    have Zau1 := Nat.lt_of_lt_of_le Zau0 hb.size
    have Ktu1 := hide (Blk.below hb Ztu0 Ktu0.out)
    have Ztu1 := Nat.lt_of_lt_of_le Ztu0 hb.size
    rw [unhide HZ]
    clear hb
    clear Bu0 Kau0 Zau0 Ktu0 Ztu0
    clear hHeld
    go_wp2_with fail
    have hHeld := hSmk u1 Kau1.out Ktu1.out
    refine hK.out _ _ (fun _ => hHeld) ?_
    clear hK K
    try simp only [Act.put, zz1, zz2, zz3, zz4, zz5, zz6]
    refine wpTo_ts (i := 2) (v := ?_) rfl (by kernel_rfl) hSd (by rfl) (fun w hSw => ?_) (by assumption) ?_
    rotate_left
    · ((try dsimp only [RqC] at hSw); go_simp <;> with_reducible rfl)
    refine wpTo_ts (i := 3) (v := ?_) rfl (by kernel_rfl) hSd (by rfl) (fun w hSw => ?_) (by assumption) ?_
    rotate_left
    · ((try dsimp only [RqC] at hSw); go_simp <;> with_reducible rfl)
    refine wpTo_ts (i := 4) (v := ?_) rfl (by kernel_rfl) hSd (by rfl) (fun w hSw => ?_) (by assumption) ?_
    rotate_left
    · ((try dsimp only [RqC] at hSw); go_simp <;> with_reducible rfl)
    try simp only [Act.put, zz1, zz2, zz3, zz4, zz5, zz6]
    refine wpTo_ts (i := 5) (v := ?_) rfl (by kernel_rfl) hSd (by rfl) (fun w hSw => ?_) (by assumption) ?_
    rotate_left
    · ((try dsimp only [RqC] at hSw); go_simp <;> with_reducible rfl)
    refine wpTo_ts (i := 6) (v := ?_) rfl (by kernel_rfl) hSd (by rfl) (fun w hSw => ?_) (by assumption) ?_
    rotate_left
    · ((try dsimp only [RqC] at hSw); go_simp <;> with_reducible rfl)
    try simp only [Act.put, zz1, zz2, zz3, zz4, zz5, zz6]
    refine wpTo_ready (rs := [7]) (by kernel_rfl) (by simp) ?_
    refine AllTo.cons (o := _) rfl (fun K hK => ?_) ?_
    ·
     (try simp only [zz1, zz2, zz3])
     go_simp
     refine (eachFits_any r h a n c us t u1 (HR.out.mono Bu1.out) hs (HG.out.later Bu1.out) (HU.out.mono Bu1.out) hn HZ.out).mono ?_
     rintro e u2 ⟨rfl, hb⟩
     have Bu2 := hide (Bu1.out.trans (hb.mono Bu1.out.size))
     have Kau2 := hide (Blk.below hb Zau1 Kau1.out)
     have Zau2 := Nat.lt_of_lt_of_le Zau1 hb.size
     have Ktu2 := hide (Blk.below hb Ztu1 Ktu1.out)
     have Ztu2 := Nat.lt_of_lt_of_le Ztu1 hb.size
     rw [unhide HF]
     clear hb
     clear Bu1 Kau1 Zau1 Ktu1 Ztu1
     clear hHeld
     go_wp2_with fail
     have hHeld := hSmk u2 Kau2.out Ktu2.out
     refine hK.out _ _ (fun _ => hHeld) ?_
     clear hK K
     try simp only [Act.put, zz1, zz2, zz3, zz4, zz5, zz6]
     refine wpTo_ts (i := 8) (v := ?_) rfl (by kernel_rfl) hSd (by rfl) (fun w hSw => ?_) (by assumption) ?_
     rotate_left
     · ((try dsimp only [RqC] at hSw); go_simp <;> with_reducible rfl)
     refine wpTo_ts (i := 9) (v := ?_) rfl (by kernel_rfl) hSd (by rfl) (fun w hSw => ?_) (by assumption) ?_
     rotate_left
     · ((try dsimp only [RqC] at hSw); go_simp <;> with_reducible rfl)
     try simp only [Act.put, zz1, zz2, zz3, zz4, zz5, zz6]
     refine wpTo_ts (i := 10) (v := ?_) rfl (by kernel_rfl) hSd (by rfl) (fun w hSw => ?_) (by assumption) ?_
     rotate_left
     · ((try dsimp only [RqC] at hSw); go_simp <;> with_reducible rfl)
     refine wpTo_ts (i := 11) (v := ?_) rfl (by kernel_rfl) hSd (by rfl) (fun w hSw => ?_) (by assumption) ?_
     rotate_left
     · ((try dsimp only [RqC] at hSw); go_simp <;> with_reducible rfl)
     refine wpTo_ts (i := 13) (v := ?_) rfl (by kernel_rfl) hSd (by rfl) (fun w hSw => ?_) (by assumption) ?_
     rotate_left
     · ((try dsimp only [RqC] at hSw); go_simp <;> with_reducible rfl)
     try simp only [Act.put, zz1, zz2, zz3, zz4, zz5, zz6]
     refine wpTo_ready (rs := [12]) (by kernel_rfl) (by simp) ?_
     refine AllTo.cons (o := _) rfl (fun K hK => ?_) ?_
     ·
      (try simp only [zz1, zz2, zz3])
      go_simp
      refine (bulkOf_any r h a n c us u2 (HR.out.mono Bu2.out) hs (HG.out.later Bu2.out) (HU.out.mono Bu2.out) hn).mono ?_
      rintro e u3 ⟨rfl, hb⟩
      have Bu3 := hide (Bu2.out.trans (hb.mono Bu2.out.size))
      have Kau3 := hide (Blk.below hb Zau2 Kau2.out)
      have Zau3 := Nat.lt_of_lt_of_le Zau2 hb.size
      have Ktu3 := hide (Blk.below hb Ztu2 Ktu2.out)
      have Ztu3 := Nat.lt_of_lt_of_le Ztu2 hb.size
      clear hb
      clear Bu2 Kau2 Zau2 Ktu2 Ztu2
      clear hHeld
      go_wp2_with fail
      have hHeld := hSmk u3 Kau3.out Ktu3.out
      refine hK.out _ _ (fun _ => hHeld) ?_
      clear hK K
      try simp only [Act.put, zz1, zz2, zz3, zz4, zz5, zz6]
      refine wpTo_ready (rs := [14]) (by kernel_rfl) (by simp) ?_
      refine AllTo.cons (o := _) rfl (fun K hK => ?_) ?_
      ·
       (try simp only [zz1, zz2, zz3])
       go_simp
       refine (mostOf_any t _).mono ?_
       rintro e u4 ⟨rfl, hb⟩
       have Bu4 := hide (Bu3.out.trans (hb.mono Bu3.out.size))
       have Kau4 := hide (Blk.below hb Zau3 Kau3.out)
       have Zau4 := Nat.lt_of_lt_of_le Zau3 hb.size
       have Ktu4 := hide (Blk.below hb Ztu3 Ktu3.out)
       have Ztu4 := Nat.lt_of_lt_of_le Ztu3 hb.size
       clear hb
       clear Bu3 Kau3 Zau3 Ktu3 Ztu3
       clear hHeld
       go_wp2_with fail
       have hHeld := hSmk u4 Kau4.out Ktu4.out
       refine hK.out _ _ (fun _ => hHeld) ?_
       clear hK K
       try simp only [Act.put, zz1, zz2, zz3, zz4, zz5, zz6]
       refine wpTo_ready (rs := [15]) (by kernel_rfl) (by simp) ?_
       refine AllTo.cons (o := _) rfl (fun K hK => ?_) ?_
       ·
        (try simp only [zz1, zz2, zz3])
        go_simp
        refine (isIn_any _ _ _ _ _).mono ?_
        rintro e u5 ⟨rfl, hb⟩
        have Bu5 := hide (Bu4.out.trans (hb.mono Bu4.out.size))
        have Kau5 := hide (Blk.below hb Zau4 Kau4.out)
        have Zau5 := Nat.lt_of_lt_of_le Zau4 hb.size
        have Ktu5 := hide (Blk.below hb Ztu4 Ktu4.out)
        have Ztu5 := Nat.lt_of_lt_of_le Ztu4 hb.size
        clear hb
        clear Bu4 Kau4 Zau4 Ktu4 Ztu4
        clear hHeld
        go_wp2_with fail
        have hHeld := hSmk u5 Kau5.out Ktu5.out
        refine hK.out _ _ (fun _ => hHeld) ?_
        clear hK K
        try simp only [Act.put, zz1, zz2, zz3, zz4, zz5, zz6]
        refine wpTo_ts (i := 16) (v := ?_) rfl (by kernel_rfl) hSd (by rfl) (fun w hSw => ?_) (by assumption) ?_
        rotate_left
        · ((try dsimp only [RqC] at hSw); go_simp <;> with_reducible rfl)
        try simp only [Act.put, zz1, zz2, zz3, zz4, zz5, zz6]
        refine wpTo_ts (i := 17) (v := ?_) rfl (by kernel_rfl) hSd (by rfl) (fun w hSw => ?_) (by assumption) ?_
        rotate_left
        · ((try dsimp only [RqC] at hSw); go_simp <;> with_reducible rfl)
        try simp only [Act.put, zz1, zz2, zz3, zz4, zz5, zz6]
        refine wpTo_done (by kernel_rfl) ?_ _
        refine NoPanic.normal ?_
        go_wp2_with fail
        go_meet
        case rel => exact ⟨congrArg Value.bool HE.out.symm, unhide Bu5⟩
       exact AllTo.nil
      exact AllTo.nil
     exact AllTo.nil
    exact AllTo.nil
   exact AllTo.nil
  case rest =>
   obtain ⟨rfl, hb⟩ := hcut
   have HB := hide hb
   clear hb
   go_wp2
   go_ret
   exact ⟨rfl, unhide HB⟩
end Go.Proofs.YtcblpoeeembniabGreatDoor
