/- Whether a type holds units: the model. -/
import Derived.Test.YtcblpoeeembniabGreatDoorPackSpec
import Derived.Test.YtcblpoeeembniabGreatDoorHoldsImpl
import Derived.Test.YtcblpoeeembniabGreatDoorPkC
import Derived.Deep.DeepMust
import Derived.Deep.DeepCutAuto
import Derived.Deep.RegionHeld3
namespace Go.Proofs.YtcblpoeeembniabGreatDoor
open Go.RowKit
set_option linter.unusedVariables false
set_option linter.unusedSimpArgs false

set_option maxRecDepth 100000 in
set_option maxHeartbeats 4000000 in
theorem specHolds_any (r : ReqV) (h : ReqH) (a : Option Addr) (n c : Nat) (us : List Int) (t : TypeV) (w : World) (hr : RdReq w r h) (hs : r.small) (hu : Rd w a n us) (hn : n ≤ 1048600) :
 Calls Tryz.prog 43 #[reqVal r h, .slice a n c, .agg #[.int .i64 t.id, .int .i64 t.wd, .int .i64 t.ht, .int .i64 t.dp, .int .i64 t.tare, .int .i64 t.gram, .int .i64 t.cost]] w fun e w' => e = .returned (.bool (holdsR r us t)) ∧ Below w.heap.size w w' := by
 have HR := hide hr
 have HU := hide hu
 clear hr hu
 unfold reqVal
 go_enter Tryz.func43, Tryz.ntmps43
 go_wp2_with fail
 generalize hW : ((w.alloc (.cells #[.int .i64 r.way, .int .i64 r.pal.wd, .int .i64 r.pal.dp, .int .i64 r.pal.ht, .int .i64 r.pal.gram, .int .i64 r.classes, .slice h.ap r.pairs.length h.cp, .slice h.at' r.types.length h.ct, .int .i64 r.master, .slice h.ai r.items.length h.ci] 41)).alloc (.cells #[.int .i64 t.id, .int .i64 t.wd, .int .i64 t.ht, .int .i64 t.dp, .int .i64 t.tare, .int .i64 t.gram, .int .i64 t.cost] 54)) = wA at *
 obtain ⟨BwA, KawA, ZawA, KtwA, ZtwA⟩ := en2 hW
 have Ga : w.heap.size ≤ w.heap.size := by omega
 have Gt : w.heap.size ≤ (w.heap.size + 1) := by omega
 have Nqat : w.heap.size ≠ (w.heap.size + 1) := by omega
 have Nqta : (w.heap.size + 1) ≠ w.heap.size := by omega
 clear hW
 refine (specClass_any r h _ (HR.out.mono BwA.out) hs).mono ?_
 rintro e v1 ⟨rfl, hb⟩
 have Bv1 := hide (BwA.out.trans (hb.mono BwA.out.size))
 have Kav1 := hide (Blk.below hb ZawA KawA.out)
 have Zav1 := Nat.lt_of_lt_of_le ZawA hb.size
 have Ktv1 := hide (Blk.below hb ZtwA KtwA.out)
 have Ztv1 := Nat.lt_of_lt_of_le ZtwA hb.size
 clear hb
 clear BwA KawA ZawA KtwA ZtwA
 by_cases hz : classI r = 0
 case neg =>
  have hne : (classI r != 0) = true := by simp [hz]
  have HE : Hid (holdsR r us t = false) := by simp [Hid, holdsR, hz]
  clear hz
  go_wp2
  go_ret
  exact ⟨ret_boolF HE.out.symm, unhide Bv1⟩
 have HE : Hid (holdsR r us t = (inAll (itemsR r) t us && loadB (itemsR r) t us)) := by rw [Hid, holdsR, hz]; rfl
 have HZ := hide hz
 rw [hz]
 clear hz
 obtain ⟨ca0, ca1, ca2, ca3, ca4, ca5, ca6, ca7, ca8, ca9⟩ := Blk.cs10 Kav1.out
 go_wp2_with fail
 refine (l6Units_zero r h _ (HR.out.mono Bv1.out) HZ.out).mono ?_
 rintro e v2 ⟨gp, cp, rfl, hgo, hb⟩
 have Bv2 := hide (Bv1.out.trans (hb.mono Bv1.out.size))
 have Kav2 := hide (Blk.below hb Zav1 Kav1.out)
 have Zav2 := Nat.lt_of_lt_of_le Zav1 hb.size
 have Ktv2 := hide (Blk.below hb Ztv1 Ktv1.out)
 have Ztv2 := Nat.lt_of_lt_of_le Ztv1 hb.size
 clear hb
 clear Bv1 Kav1 Zav1 Ktv1 Ztv1
 have UN := hide (Rd.of_owns hgo)
 have hN12 := unitsR_len r
 clear hgo
 have HN : Hid ((unitsL (itemsR r)).length = (unitsR r).length) := rfl
 obtain ⟨N, hN⟩ : ∃ N, N = (unitsR r).length := ⟨_, rfl⟩
 rw [← hN] at UN HN hN12 ⊢
 clear hN
 obtain ⟨wb, hwb⟩ : ∃ wb : World, wb = v2 := ⟨_, rfl⟩
 subst hwb
 clear ca0 ca1 ca2 ca3 ca4 ca5 ca6 ca7 ca8 ca9
 go_wp2_with fail
 go_loopw [8] (fun i wr => ∃ (k : Nat), k ≤ n ∧ i = .int .i64 k ∧ (us.take k).all (fitB (itemsR r) t) = true ∧ Blk wr w.heap.size [.int .i64 r.way, .int .i64 r.pal.wd, .int .i64 r.pal.dp, .int .i64 r.pal.ht, .int .i64 r.pal.gram, .int .i64 r.classes, .slice h.ap r.pairs.length h.cp, .slice h.at' r.types.length h.ct, .int .i64 r.master, .slice h.ai r.items.length h.ci] ∧ w.heap.size < wr.heap.size ∧ Blk wr (w.heap.size + 1) [.int .i64 t.id, .int .i64 t.wd, .int .i64 t.ht, .int .i64 t.dp, .int .i64 t.tare, .int .i64 t.gram, .int .i64 t.cost] ∧ (w.heap.size + 1) < wr.heap.size ∧ Below wb.heap.size wb wr) (fun i _ => n - (intOf i).toNat)
 case atStart => exact ⟨0, Nat.zero_le _, rfl, by simp, unhide Kav2, Zav2, unhide Ktv2, Ztv2, Below.refl _ _⟩
 case round =>
  obtain ⟨k, hk, rfl, hall, ka, Zawr, kt, Ztwr, hb⟩ := hrel
  have Bwr := hide hb
  have Kawr := hide ka
  have Ktwr := hide kt
  have HALL := hide hall
  have HBW := hide (Bv2.out.trans (hb.mono Bv2.out.size))
  clear hb ka kt hall Kav2 Ktv2 Zav2 Ztv2
  by_cases hlk : k < n
  case neg =>
   have HA : Hid (inAll (itemsR r) t us = true) := by have := unhide HALL; rw [List.take_of_length_le (by rw [HU.out.1]; omega)] at this; exact this
   obtain ⟨ca0, ca1, ca2, ca3, ca4, ca5, ca6, ca7, ca8, ca9⟩ := Blk.cs10 Kawr.out
   go_wp2_with fail
   refine (l7Of_any r h _ _ _ _ _ _ us wr (HR.out.mono HBW.out) (UN.out.mono Bwr.out) (HU.out.mono HBW.out) hn).mono ?_
   rintro e wd ⟨rfl, hb⟩
   have HBD := hide (HBW.out.trans (hb.mono HBW.out.size))
   have KT := hide (Blk.below hb Ztwr Ktwr.out)
   have ZT : (w.heap.size + 1) < wd.heap.size := Nat.lt_of_lt_of_le Ztwr hb.size
   clear hb ca0 ca1 ca2 ca3 ca4 ca5 ca6 ca7 ca8 ca9
   go_wp2_with fail
   have KL : Hid (Blk (wd.alloc (.cells #[.int .i64 (volOf (itemsR r) us), .int .i64 (gramOf (itemsR r) us)] 115)) wd.heap.size [.int .i64 (volOf (itemsR r) us), .int .i64 (gramOf (itemsR r) us)]) := Blk.allocAt [.int .i64 (volOf (itemsR r) us), .int .i64 (gramOf (itemsR r) us)] rfl
   have KT2 := hide (KT.out.allocOld ZT (.cells #[.int .i64 (volOf (itemsR r) us), .int .i64 (gramOf (itemsR r) us)] 115))
   have HB := hide (HBD.out.alloc HBD.out.size (.cells #[.int .i64 (volOf (itemsR r) us), .int .i64 (gramOf (itemsR r) us)] 115))
   generalize (wd.alloc (.cells #[.int .i64 (volOf (itemsR r) us), .int .i64 (gramOf (itemsR r) us)] 115)) = we at *
   have HL : Hid ((decide (volOf (itemsR r) us ≤ vol t.wd t.ht t.dp) && decide (gramOf (itemsR r) us ≤ t.gram)) = holdsR r us t) := by rw [Hid, unhide HE, unhide HA]; rfl
   have l0 := (KL.out 0 (by simp)).1
   have l1 := (KL.out 1 (by simp)).1
   have t1 := (KT2.out 1 (by simp)).1
   have t2 := (KT2.out 2 (by simp)).1
   have t3 := (KT2.out 3 (by simp)).1
   have t5 := (KT2.out 5 (by simp)).1
   clear KL KT KT2
   simp only [List.getElem?_cons_zero, List.getElem?_cons_succ] at l0 l1 t1 t2 t3 t5
   generalize volOf (itemsR r) us = v at *
   generalize gramOf (itemsR r) us = g at *
   by_cases h1 : v ≤ vol t.wd t.ht t.dp
   case pos =>
    have h1d : decide (v ≤ vol t.wd t.ht t.dp) = true := decide_eq_true h1
    go_upto_region 11 with fail
    go_quiet ((go_at_call 71; exact Calls.quiet_of_same (specVolume_any _ _ _ _)))
    go_wp2
    go_ret
    exact ⟨ret_boolF (by rw [← unhide HL, h1d, Bool.true_and]), HB.out.drewsN nq⟩
   case neg =>
    have h1d : decide (v ≤ vol t.wd t.ht t.dp) = false := decide_eq_false h1
    go_upto_region 11 with fail
    go_quiet ((go_at_call 71; exact Calls.quiet_of_same (specVolume_any _ _ _ _)))
    go_wp2
    go_ret
    exact ⟨ret_boolF (by rw [← unhide HL, h1d, Bool.false_and]), HB.out.drewsN nq⟩
  obtain ⟨b, off, hua, hc⟩ := (HU.out.mono HBW.out).2 k hlk
  have hcw : wb.cell? ⟨b, off + k, none⟩ = some (.int .i64 (us.getD k 0)) := by
   obtain ⟨b', off', e, hc'⟩ := (HU.out.mono Bv2.out).2 k hlk
   rw [hua] at e
   injection e with e
   injection e with e1 e2
   subst e1 e2
   exact hc'
  have hku : k < us.length := by rw [HU.out.1]; exact hlk
  have HGO := hide (all_go (f := fitB (itemsR r) t) hku HALL.out)
  have HST := hide (all_stop (f := fitB (itemsR r) t) (us := us) hku)
  generalize us.getD k 0 = x at hc hcw HGO HST
  subst hua
  have hcu : ∀ u, Below wb.heap.size wb u → u.cell? ⟨b, off + k, none⟩ = some (.int .i64 x) := fun u hb => (hb.cell (World.block_lt_of_cell? wb _ hcw)).trans hcw
  clear hcw
  go_upto_region 7 with fail
  clear hc
  go_cut [9, 10] (fun v vb wc => ∃ gx, v = .pointer (some ⟨gx, 0, none⟩) ∧ vb = .bool (inB x 0 ((N : Int) - 1)) ∧ Blk wc gx [.int .i64 (itemAt (itemsR r) x).id, .int .i64 (itemAt (itemsR r) x).wd, .int .i64 (itemAt (itemsR r) x).ht, .int .i64 (itemAt (itemsR r) x).dp, .int .i64 (itemAt (itemsR r) x).gram, .int .i64 (itemAt (itemsR r) x).cls, .int .i64 (itemAt (itemsR r) x).cnt] ∧ Blk wc w.heap.size [.int .i64 r.way, .int .i64 r.pal.wd, .int .i64 r.pal.dp, .int .i64 r.pal.ht, .int .i64 r.pal.gram, .int .i64 r.classes, .slice h.ap r.pairs.length h.cp, .slice h.at' r.types.length h.ct, .int .i64 r.master, .slice h.ai r.items.length h.ci] ∧ w.heap.size < wc.heap.size ∧ Blk wc (w.heap.size + 1) [.int .i64 t.id, .int .i64 t.wd, .int .i64 t.ht, .int .i64 t.dp, .int .i64 t.tare, .int .i64 t.gram, .int .i64 t.cost] ∧ (w.heap.size + 1) < wc.heap.size ∧ Below wb.heap.size wb wc)
  case first =>
   refine wp_region_noPanic ?_
   have Bu0 : Hid (Below wb.heap.size wb wr.drew) := Bwr.out.drew
   have Kau0 : Hid (Blk wr.drew w.heap.size [.int .i64 r.way, .int .i64 r.pal.wd, .int .i64 r.pal.dp, .int .i64 r.pal.ht, .int .i64 r.pal.gram, .int .i64 r.classes, .slice h.ap r.pairs.length h.cp, .slice h.at' r.types.length h.ct, .int .i64 r.master, .slice h.ai r.items.length h.ci]) := unhide Kawr
   have Zau0 : w.heap.size < wr.drew.heap.size := Zawr
   have Ktu0 : Hid (Blk wr.drew (w.heap.size + 1) [.int .i64 t.id, .int .i64 t.wd, .int .i64 t.ht, .int .i64 t.dp, .int .i64 t.tare, .int .i64 t.gram, .int .i64 t.cost]) := unhide Ktwr
   have Ztu0 : (w.heap.size + 1) < wr.drew.heap.size := Ztwr
   obtain ⟨S, hSdef⟩ : ∃ S : World → Prop, S = (fun w' => RqC w' w.heap.size r h ∧ w'.cell? ⟨b, off + k, none⟩ = some (.int .i64 x)) := ⟨_, rfl⟩
   have hSmk : ∀ wq, Blk wq w.heap.size [.int .i64 r.way, .int .i64 r.pal.wd, .int .i64 r.pal.dp, .int .i64 r.pal.ht, .int .i64 r.pal.gram, .int .i64 r.classes, .slice h.ap r.pairs.length h.cp, .slice h.at' r.types.length h.ct, .int .i64 r.master, .slice h.ai r.items.length h.ci] → (wq.cell? ⟨b, off + k, none⟩ = some (.int .i64 x)) → S wq := fun wq ka p0 => by rw [hSdef]; exact ⟨RqC.of ka, p0⟩
   have hSd : ∀ wq, S wq → (fun w' => RqC w' w.heap.size r h ∧ w'.cell? ⟨b, off + k, none⟩ = some (.int .i64 x)) wq := fun wq h => by rw [hSdef] at h; exact h
   clear hSdef
   have hHeld : S wr.drew := hSmk wr.drew Kau0.out (hcu _ Bu0.out)
   refine wp_region_to (S := S) (T := []) (by kernel_rfl) hHeld (fun _ => ?_)
   generalize wr.drew = u0 at *
   refine wpTo_ts (i := 0) (v := ?_) rfl (by kernel_rfl) hSd (by rfl) (fun w hSw => ?_) (by assumption) ?_
   rotate_left
   · ((try dsimp only [RqC] at hSw); go_simp <;> with_reducible rfl)
   refine wpTo_ts (i := 1) (v := ?_) rfl (by kernel_rfl) hSd (by rfl) (fun w hSw => ?_) (by assumption) ?_
   rotate_left
   · ((try dsimp only [RqC] at hSw); go_simp <;> with_reducible rfl)
   refine wpTo_ts (i := 2) (v := ?_) rfl (by kernel_rfl) hSd (by rfl) (fun w hSw => ?_) (by assumption) ?_
   rotate_left
   · ((try dsimp only [RqC] at hSw); go_simp <;> with_reducible rfl)
   try simp only [Act.put, zz1, zz2, zz3, zz4, zz5, zz6]
   refine wpTo_ts (i := 3) (v := ?_) rfl (by kernel_rfl) hSd (by rfl) (fun w hSw => ?_) (by assumption) ?_
   rotate_left
   · ((try dsimp only [RqC] at hSw); go_simp <;> with_reducible rfl)
   refine wpTo_ts (i := 4) (v := ?_) rfl (by kernel_rfl) hSd (by rfl) (fun w hSw => ?_) (by assumption) ?_
   rotate_left
   · ((try dsimp only [RqC] at hSw); go_simp <;> with_reducible rfl)
   refine wpTo_ts (i := 5) (v := ?_) rfl (by kernel_rfl) hSd (by rfl) (fun w hSw => ?_) (by assumption) ?_
   rotate_left
   · ((try dsimp only [RqC] at hSw); go_simp <;> with_reducible rfl)
   try simp only [Act.put, zz1, zz2, zz3, zz4, zz5, zz6]
   refine wpTo_ready (rs := [6, 10]) (by kernel_rfl) (by simp) ?_
   refine AllTo.cons (o := _) rfl (fun K hK => ?_) ?_
   ·
    (try simp only [zz1, zz2, zz3])
    go_simp
    refine (l6Item_in r h _ _ _ x u0 (HR.out.mono (Bv2.out.trans (Bu0.out.mono Bv2.out.size))) (UN.out.mono Bu0.out)).mono ?_
    rintro e u1 ⟨bb, rfl, hbb, hb⟩
    have Bu1 := hide (Bu0.out.trans (hb.mono Bu0.out.size))
    have Kau1 := hide (Blk.below hb Zau0 Kau0.out)
    have Zau1 := Nat.lt_of_lt_of_le Zau0 hb.size
    have Ktu1 := hide (Blk.below hb Ztu0 Ktu0.out)
    have Ztu1 := Nat.lt_of_lt_of_le Ztu0 hb.size
    subst hbb
    unfold itemVal
    clear hb
    clear Bu0 Kau0 Zau0 Ktu0 Ztu0
    clear hHeld
    go_wp2_with fail
    have hHeld := hSmk u1 Kau1.out (hcu _ Bu1.out)
    refine hK.out _ _ (fun _ => hHeld) ?_
    clear hK K
    try simp only [Act.put, zz1, zz2, zz3, zz4, zz5, zz6]
    refine wpTo_ts (i := 7) (v := ?_) rfl (by kernel_rfl) hSd (by rfl) (fun w hSw => ?_) (by assumption) ?_
    rotate_left
    · ((try dsimp only [RqC] at hSw); go_simp <;> with_reducible rfl)
    try simp only [Act.put, zz1, zz2, zz3, zz4, zz5, zz6]
    refine wpTo_ts (i := 8) (v := ?_) rfl (by kernel_rfl) hSd (by rfl) (fun w hSw => ?_) (by assumption) ?_
    rotate_left
    · ((try dsimp only [RqC] at hSw); go_simp <;> with_reducible rfl)
    refine wpTo_ts (i := 9) (v := ?_) rfl (by kernel_rfl) hSd (by rfl) (fun w hSw => ?_) (by assumption) ?_
    rotate_left
    · ((try dsimp only [RqC] at hSw); go_simp <;> with_reducible rfl)
    try simp only [Act.put, zz1, zz2, zz3, zz4, zz5, zz6]
    refine wpTo_ready (rs := [10]) (by kernel_rfl) (by simp) ?_
    refine AllTo.cons (o := _) rfl (fun K hK => ?_) ?_
    ·
     (try simp only [zz1, zz2, zz3])
     go_simp
     clear hHeld
     generalize hW : (u1.alloc (.cells #[.int .i64 0, .int .i64 0, .int .i64 0, .int .i64 0, .int .i64 0, .int .i64 0, .int .i64 0] 89)) = u2 at *
     obtain ⟨hb, Kxu2, Zxu2⟩ := en1 hW
     have hb := unhide hb
     have Bu2 := hide (Bu1.out.trans (hb.mono Bu1.out.size))
     have Gx : wb.heap.size ≤ u1.heap.size := Bu1.out.size
     have Kau2 := hide (Blk.below hb Zau1 Kau1.out)
     have Zau2 := Nat.lt_of_lt_of_le Zau1 hb.size
     have Ktu2 := hide (Blk.below hb Ztu1 Ktu1.out)
     have Ztu2 := Nat.lt_of_lt_of_le Ztu1 hb.size
     have Nqax : w.heap.size ≠ u1.heap.size := Nat.ne_of_lt Zau1
     have Nqxa := Ne.symm Nqax
     have Nqtx : (w.heap.size + 1) ≠ u1.heap.size := Nat.ne_of_lt Ztu1
     have Nqxt := Ne.symm Nqtx
     clear hb hW
     clear Bu1 Kau1 Zau1 Ktu1 Ztu1
     have hHeld := hSmk u2 Kau2.out (hcu _ Bu2.out)
     refine hK.out _ _ (fun _ => hHeld) ?_
     clear hK K
     try simp only [Act.put, zz1, zz2, zz3, zz4, zz5, zz6]
     refine wpTo_ready (rs := [11]) (by kernel_rfl) (by simp) ?_
     refine AllTo.cons (o := _) rfl (fun K hK => ?_) ?_
     ·
      (try simp only [zz1, zz2, zz3])
      have p0 := (Kxu2.out 0 (by simp)).1
      have q0 := (Kxu2.out 0 (by simp)).2
      have p1 := (Kxu2.out 1 (by simp)).1
      have q1 := (Kxu2.out 1 (by simp)).2
      have p2 := (Kxu2.out 2 (by simp)).1
      have q2 := (Kxu2.out 2 (by simp)).2
      have p3 := (Kxu2.out 3 (by simp)).1
      have q3 := (Kxu2.out 3 (by simp)).2
      have p4 := (Kxu2.out 4 (by simp)).1
      have q4 := (Kxu2.out 4 (by simp)).2
      have p5 := (Kxu2.out 5 (by simp)).1
      have q5 := (Kxu2.out 5 (by simp)).2
      have p6 := (Kxu2.out 6 (by simp)).1
      have q6 := (Kxu2.out 6 (by simp)).2
      go_simp
      clear p0 q0 p1 q1 p2 q2 p3 q3 p4 q4 p5 q5 p6 q6
      clear hHeld
      generalize hW : (((((((u2.setCell ⟨u1.heap.size, 0, none⟩ (.int .i64 (itemAt (itemsR r) x).id)).setCell ⟨u1.heap.size, 1, none⟩ (.int .i64 (itemAt (itemsR r) x).wd)).setCell ⟨u1.heap.size, 2, none⟩ (.int .i64 (itemAt (itemsR r) x).ht)).setCell ⟨u1.heap.size, 3, none⟩ (.int .i64 (itemAt (itemsR r) x).dp)).setCell ⟨u1.heap.size, 4, none⟩ (.int .i64 (itemAt (itemsR r) x).gram)).setCell ⟨u1.heap.size, 5, none⟩ (.int .i64 (itemAt (itemsR r) x).cls)).setCell ⟨u1.heap.size, 6, none⟩ (.int .i64 (itemAt (itemsR r) x).cnt)) = u3 at *
      have Bu3 : Hid (Below wb.heap.size wb u3) := by rw [← hW]; exact (((((((Bu2.out.setCell Gx _).setCell Gx _).setCell Gx _).setCell Gx _).setCell Gx _).setCell Gx _).setCell Gx _)
      have Kxu3 : Hid (Blk u3 u1.heap.size [.int .i64 (itemAt (itemsR r) x).id, .int .i64 (itemAt (itemsR r) x).wd, .int .i64 (itemAt (itemsR r) x).ht, .int .i64 (itemAt (itemsR r) x).dp, .int .i64 (itemAt (itemsR r) x).gram, .int .i64 (itemAt (itemsR r) x).cls, .int .i64 (itemAt (itemsR r) x).cnt]) := by rw [← hW]; exact Blk.fill7 Kxu2.out
      have Zxu3 : u1.heap.size < u3.heap.size := by rw [← hW]; simpa using Zxu2
      have Kau3 : Hid (Blk u3 w.heap.size [.int .i64 r.way, .int .i64 r.pal.wd, .int .i64 r.pal.dp, .int .i64 r.pal.ht, .int .i64 r.pal.gram, .int .i64 r.classes, .slice h.ap r.pairs.length h.cp, .slice h.at' r.types.length h.ct, .int .i64 r.master, .slice h.ai r.items.length h.ci]) := by rw [← hW]; exact (((((((Kau2.out.other Nqax).other Nqax).other Nqax).other Nqax).other Nqax).other Nqax).other Nqax)
      have Zau3 : w.heap.size < u3.heap.size := by rw [← hW]; simpa using Zau2
      have Ktu3 : Hid (Blk u3 (w.heap.size + 1) [.int .i64 t.id, .int .i64 t.wd, .int .i64 t.ht, .int .i64 t.dp, .int .i64 t.tare, .int .i64 t.gram, .int .i64 t.cost]) := by rw [← hW]; exact (((((((Ktu2.out.other Nqtx).other Nqtx).other Nqtx).other Nqtx).other Nqtx).other Nqtx).other Nqtx)
      have Ztu3 : (w.heap.size + 1) < u3.heap.size := by rw [← hW]; simpa using Ztu2
      clear hW
      clear Bu2 Kau2 Zau2 Ktu2 Ztu2 Kxu2 Zxu2
      have hHeld := hSmk u3 Kau3.out (hcu _ Bu3.out)
      refine hK.out _ _ (fun _ => hHeld) ?_
      clear hK K
      try simp only [Act.put, zz1, zz2, zz3, zz4, zz5, zz6]
      refine wpTo_ts (i := 12) (v := ?_) rfl (by kernel_rfl) hSd (by rfl) (fun w hSw => ?_) (by assumption) ?_
      rotate_left
      · ((try dsimp only [RqC] at hSw); go_simp <;> with_reducible rfl)
      try simp only [Act.put, zz1, zz2, zz3, zz4, zz5, zz6]
      refine wpTo_done (by kernel_rfl) ?_ _
      refine NoPanic.normal ?_
      go_wp2_with fail
      go_meet
      case rel => exact ⟨_, rfl, rfl, unhide Kxu3, unhide Kau3, Zau3, unhide Ktu3, Ztu3, unhide Bu3⟩
     exact AllTo.nil
    exact AllTo.nil
   refine AllTo.cons (o := _) rfl (fun K hK => ?_) ?_
   ·
    (try simp only [zz1, zz2, zz3])
    go_simp
    clear hHeld
    generalize hW : (u0.alloc (.cells #[.int .i64 0, .int .i64 0, .int .i64 0, .int .i64 0, .int .i64 0, .int .i64 0, .int .i64 0] 89)) = u1 at *
    obtain ⟨hb, Kxu1, Zxu1⟩ := en1 hW
    have hb := unhide hb
    have Bu1 := hide (Bu0.out.trans (hb.mono Bu0.out.size))
    have Gx : wb.heap.size ≤ u0.heap.size := Bu0.out.size
    have Kau1 := hide (Blk.below hb Zau0 Kau0.out)
    have Zau1 := Nat.lt_of_lt_of_le Zau0 hb.size
    have Ktu1 := hide (Blk.below hb Ztu0 Ktu0.out)
    have Ztu1 := Nat.lt_of_lt_of_le Ztu0 hb.size
    have Nqax : w.heap.size ≠ u0.heap.size := Nat.ne_of_lt Zau0
    have Nqxa := Ne.symm Nqax
    have Nqtx : (w.heap.size + 1) ≠ u0.heap.size := Nat.ne_of_lt Ztu0
    have Nqxt := Ne.symm Nqtx
    clear hb hW
    clear Bu0 Kau0 Zau0 Ktu0 Ztu0
    have hHeld := hSmk u1 Kau1.out (hcu _ Bu1.out)
    refine hK.out _ _ (fun _ => hHeld) ?_
    clear hK K
    try simp only [Act.put, zz1, zz2, zz3, zz4, zz5, zz6]
    refine wpTo_ready (rs := [6]) (by kernel_rfl) (by simp) ?_
    refine AllTo.cons (o := _) rfl (fun K hK => ?_) ?_
    ·
     (try simp only [zz1, zz2, zz3])
     go_simp
     refine (l6Item_in r h _ _ _ x u1 (HR.out.mono (Bv2.out.trans (Bu1.out.mono Bv2.out.size))) (UN.out.mono Bu1.out)).mono ?_
     rintro e u2 ⟨bb, rfl, hbb, hb⟩
     have Bu2 := hide (Bu1.out.trans (hb.mono Bu1.out.size))
     have Kau2 := hide (Blk.below hb Zau1 Kau1.out)
     have Zau2 := Nat.lt_of_lt_of_le Zau1 hb.size
     have Ktu2 := hide (Blk.below hb Ztu1 Ktu1.out)
     have Ztu2 := Nat.lt_of_lt_of_le Ztu1 hb.size
     have Kxu2 := hide (Blk.below hb Zxu1 Kxu1.out)
     have Zxu2 := Nat.lt_of_lt_of_le Zxu1 hb.size
     subst hbb
     unfold itemVal
     clear hb
     clear Bu1 Kau1 Zau1 Ktu1 Ztu1 Kxu1 Zxu1
     clear hHeld
     go_wp2_with fail
     have hHeld := hSmk u2 Kau2.out (hcu _ Bu2.out)
     refine hK.out _ _ (fun _ => hHeld) ?_
     clear hK K
     try simp only [Act.put, zz1, zz2, zz3, zz4, zz5, zz6]
     refine wpTo_ts (i := 7) (v := ?_) rfl (by kernel_rfl) hSd (by rfl) (fun w hSw => ?_) (by assumption) ?_
     rotate_left
     · ((try dsimp only [RqC] at hSw); go_simp <;> with_reducible rfl)
     refine wpTo_ts (i := 8) (v := ?_) rfl (by kernel_rfl) hSd (by rfl) (fun w hSw => ?_) (by assumption) ?_
     rotate_left
     · ((try dsimp only [RqC] at hSw); go_simp <;> with_reducible rfl)
     try simp only [Act.put, zz1, zz2, zz3, zz4, zz5, zz6]
     refine wpTo_ts (i := 9) (v := ?_) rfl (by kernel_rfl) hSd (by rfl) (fun w hSw => ?_) (by assumption) ?_
     rotate_left
     · ((try dsimp only [RqC] at hSw); go_simp <;> with_reducible rfl)
     try simp only [Act.put, zz1, zz2, zz3, zz4, zz5, zz6]
     refine wpTo_ready (rs := [11]) (by kernel_rfl) (by simp) ?_
     refine AllTo.cons (o := _) rfl (fun K hK => ?_) ?_
     ·
      (try simp only [zz1, zz2, zz3])
      have p0 := (Kxu2.out 0 (by simp)).1
      have q0 := (Kxu2.out 0 (by simp)).2
      have p1 := (Kxu2.out 1 (by simp)).1
      have q1 := (Kxu2.out 1 (by simp)).2
      have p2 := (Kxu2.out 2 (by simp)).1
      have q2 := (Kxu2.out 2 (by simp)).2
      have p3 := (Kxu2.out 3 (by simp)).1
      have q3 := (Kxu2.out 3 (by simp)).2
      have p4 := (Kxu2.out 4 (by simp)).1
      have q4 := (Kxu2.out 4 (by simp)).2
      have p5 := (Kxu2.out 5 (by simp)).1
      have q5 := (Kxu2.out 5 (by simp)).2
      have p6 := (Kxu2.out 6 (by simp)).1
      have q6 := (Kxu2.out 6 (by simp)).2
      go_simp
      clear p0 q0 p1 q1 p2 q2 p3 q3 p4 q4 p5 q5 p6 q6
      clear hHeld
      generalize hW : (((((((u2.setCell ⟨u0.heap.size, 0, none⟩ (.int .i64 (itemAt (itemsR r) x).id)).setCell ⟨u0.heap.size, 1, none⟩ (.int .i64 (itemAt (itemsR r) x).wd)).setCell ⟨u0.heap.size, 2, none⟩ (.int .i64 (itemAt (itemsR r) x).ht)).setCell ⟨u0.heap.size, 3, none⟩ (.int .i64 (itemAt (itemsR r) x).dp)).setCell ⟨u0.heap.size, 4, none⟩ (.int .i64 (itemAt (itemsR r) x).gram)).setCell ⟨u0.heap.size, 5, none⟩ (.int .i64 (itemAt (itemsR r) x).cls)).setCell ⟨u0.heap.size, 6, none⟩ (.int .i64 (itemAt (itemsR r) x).cnt)) = u3 at *
      have Bu3 : Hid (Below wb.heap.size wb u3) := by rw [← hW]; exact (((((((Bu2.out.setCell Gx _).setCell Gx _).setCell Gx _).setCell Gx _).setCell Gx _).setCell Gx _).setCell Gx _)
      have Kxu3 : Hid (Blk u3 u0.heap.size [.int .i64 (itemAt (itemsR r) x).id, .int .i64 (itemAt (itemsR r) x).wd, .int .i64 (itemAt (itemsR r) x).ht, .int .i64 (itemAt (itemsR r) x).dp, .int .i64 (itemAt (itemsR r) x).gram, .int .i64 (itemAt (itemsR r) x).cls, .int .i64 (itemAt (itemsR r) x).cnt]) := by rw [← hW]; exact Blk.fill7 Kxu2.out
      have Zxu3 : u0.heap.size < u3.heap.size := by rw [← hW]; simpa using Zxu2
      have Kau3 : Hid (Blk u3 w.heap.size [.int .i64 r.way, .int .i64 r.pal.wd, .int .i64 r.pal.dp, .int .i64 r.pal.ht, .int .i64 r.pal.gram, .int .i64 r.classes, .slice h.ap r.pairs.length h.cp, .slice h.at' r.types.length h.ct, .int .i64 r.master, .slice h.ai r.items.length h.ci]) := by rw [← hW]; exact (((((((Kau2.out.other Nqax).other Nqax).other Nqax).other Nqax).other Nqax).other Nqax).other Nqax)
      have Zau3 : w.heap.size < u3.heap.size := by rw [← hW]; simpa using Zau2
      have Ktu3 : Hid (Blk u3 (w.heap.size + 1) [.int .i64 t.id, .int .i64 t.wd, .int .i64 t.ht, .int .i64 t.dp, .int .i64 t.tare, .int .i64 t.gram, .int .i64 t.cost]) := by rw [← hW]; exact (((((((Ktu2.out.other Nqtx).other Nqtx).other Nqtx).other Nqtx).other Nqtx).other Nqtx).other Nqtx)
      have Ztu3 : (w.heap.size + 1) < u3.heap.size := by rw [← hW]; simpa using Ztu2
      clear hW
      clear Bu2 Kau2 Zau2 Ktu2 Ztu2 Kxu2 Zxu2
      have hHeld := hSmk u3 Kau3.out (hcu _ Bu3.out)
      refine hK.out _ _ (fun _ => hHeld) ?_
      clear hK K
      try simp only [Act.put, zz1, zz2, zz3, zz4, zz5, zz6]
      refine wpTo_ts (i := 12) (v := ?_) rfl (by kernel_rfl) hSd (by rfl) (fun w hSw => ?_) (by assumption) ?_
      rotate_left
      · ((try dsimp only [RqC] at hSw); go_simp <;> with_reducible rfl)
      try simp only [Act.put, zz1, zz2, zz3, zz4, zz5, zz6]
      refine wpTo_done (by kernel_rfl) ?_ _
      refine NoPanic.normal ?_
      go_wp2_with fail
      go_meet
      case rel => exact ⟨_, rfl, rfl, unhide Kxu3, unhide Kau3, Zau3, unhide Ktu3, Ztu3, unhide Bu3⟩
     exact AllTo.nil
    exact AllTo.nil
   exact AllTo.nil
  case rest =>
   clear Kawr Ktwr Bwr hcu Zawr Ztwr
   obtain ⟨gx, rfl, rfl, kx, ka, za, kt, zt, hb⟩ := hcut
   have HBC := hide (Bv2.out.trans (hb.mono Bv2.out.size))
   have HK : Hid (knownB (itemsR r) x = inB x 0 ((N : Int) - 1)) := by rw [Hid, ← unhide HN]; rfl
   have HKA := hide ka
   have HKT := hide kt
   have HBB := hide hb
   have hk0 := hide kx
   clear ka kt hb kx
   cases hkn : inB x 0 ((N : Int) - 1)
   case false =>
    have HF : Hid (inAll (itemsR r) t us = false) := HST.out (fitB_out (by rw [unhide HK]; exact hkn))
    clear hkn
    go_wp2_with fail
    go_ret
    exact ⟨ret_boolF (by rw [unhide HE, unhide HF]; rfl), unhide HBC⟩
   case true =>
    have HF : Hid (fitB (itemsR r) t x = fitsB (itemAt (itemsR r) x) t) := fitB_in (by rw [unhide HK]; exact hkn)
    clear hkn
    generalize (itemAt (itemsR r) x) = q at *
    obtain ⟨cx0, cx1, cx2, cx3, cx4, cx5, cx6⟩ := Blk.cs7 hk0.out
    obtain ⟨ct0, ct1, ct2, ct3, ct4, ct5, ct6⟩ := Blk.cs7 HKT.out
    go_wp2_with fail
    refine (specFits_any q t wc).mono ?_
    rintro e wd ⟨rfl, hb⟩
    have HKA2 := hide (Blk.below hb za HKA.out)
    have HKT2 := hide (Blk.below hb zt HKT.out)
    have za2 : w.heap.size < wd.heap.size := Nat.lt_of_lt_of_le za hb.size
    have zt2 : (w.heap.size + 1) < wd.heap.size := Nat.lt_of_lt_of_le zt hb.size
    have HBB2 := hide (HBB.out.trans (hb.mono HBB.out.size))
    have HBC2 := hide (HBC.out.trans (hb.mono HBC.out.size))
    clear hb cx0 ct0 cx1 ct1 cx2 ct2 cx3 ct3 cx4 ct4 cx5 ct5 cx6 ct6
    cases hf : fitsB q t
    case false =>
     have HA : Hid (inAll (itemsR r) t us = false) := HST.out (by rw [unhide HF]; exact hf)
     go_wp2_with fail
     go_ret
     exact ⟨ret_boolF (by rw [unhide HE, unhide HA]; rfl), unhide HBC2⟩
    case true =>
     have HG2 := hide (HGO.out (by rw [unhide HF]; exact hf))
     go_wp2_with fail
     go_roundw
     case rel => exact ⟨k + 1, by omega, by go_num, unhide HG2, unhide HKA2, za2, unhide HKT2, zt2, unhide HBB2⟩
     case measure => simp [intOf]; omega
end Go.Proofs.YtcblpoeeembniabGreatDoor
