/- What units come to, and whether there is room: the model. -/
import Derived.Test.YtcblpoeeembniabGreatDoorPackPlain
import Derived.Test.YtcblpoeeembniabGreatDoorSpecVol
import Derived.Test.YtcblpoeeembniabGreatDoorPkG
import Derived.Test.YtcblpoeeembniabGreatDoorAppendSome
import Derived.Test.YtcblpoeeembniabGreatDoorPackImpl
import Derived.Test.YtcblpoeeembniabGreatDoorPkC
import Derived.Deep.DeepMust
import Derived.Deep.DeepCutAuto
import Derived.Deep.RegionHeld3
namespace Go.Proofs.YtcblpoeeembniabGreatDoor
open Go.RowKit
set_option linter.unusedVariables false
set_option linter.unusedSimpArgs false


set_option maxRecDepth 100000 in
set_option maxHeartbeats 4000000 in
theorem l7Of_any (r : ReqV) (h : ReqH) (aa : Option Addr) (na ca : Nat) (au : Option Addr) (n c : Nat) (us : List Int) (w : World) (hr : RdReq w r h) (ha : Rd w aa na (unitsR r)) (hu : Rd w au n us) (hn : n ≤ 1048600) :
 Calls Tryz.prog 70 #[reqVal r h, .slice aa na ca, .slice au n c] w fun e w' => e = .returned (.agg #[.int .i64 (volOf (itemsR r) us), .int .i64 (gramOf (itemsR r) us)]) ∧ Below w.heap.size w w' := by
 have HR := hide hr
 have HA := hide ha
 have HU := hide hu
 clear hr ha hu
 unfold reqVal
 go_enter Tryz.func70, Tryz.ntmps70
 go_wp2
 generalize hW : (((w.alloc (.cells #[.int .i64 r.way, .int .i64 r.pal.wd, .int .i64 r.pal.dp, .int .i64 r.pal.ht, .int .i64 r.pal.gram, .int .i64 r.classes, .slice h.ap r.pairs.length h.cp, .slice h.at' r.types.length h.ct, .int .i64 r.master, .slice h.ai r.items.length h.ci] 41)).alloc (.cells #[.int .i64 0, .int .i64 0] 115)).alloc (.cells #[.int .i64 0, .int .i64 0] 115)) = wA at *
 obtain ⟨BwA, KawA, ZawA, KswA, ZswA, KlwA, ZlwA⟩ := en3 hW
 have Ga : w.heap.size ≤ w.heap.size := by omega
 have Gs : w.heap.size ≤ (w.heap.size + 1) := by omega
 have Nqas : w.heap.size ≠ (w.heap.size + 1) := by omega
 have Nqsa : (w.heap.size + 1) ≠ w.heap.size := by omega
 have Gl : w.heap.size ≤ (w.heap.size + 1 + 1) := by omega
 have Nqal : w.heap.size ≠ (w.heap.size + 1 + 1) := by omega
 have Nqla : (w.heap.size + 1 + 1) ≠ w.heap.size := by omega
 have Nqsl : (w.heap.size + 1) ≠ (w.heap.size + 1 + 1) := by omega
 have Nqls : (w.heap.size + 1 + 1) ≠ (w.heap.size + 1) := by omega
 clear hW
 go_loopw [8] (fun i wr => ∃ (k : Nat) (t g : Int), k ≤ n ∧ i = .int .i64 k ∧ t = ((us.take k).map (volAt (itemsR r))).sum ∧ g = ((us.take k).map (gramAt (itemsR r))).sum ∧ Blk wr w.heap.size [.int .i64 r.way, .int .i64 r.pal.wd, .int .i64 r.pal.dp, .int .i64 r.pal.ht, .int .i64 r.pal.gram, .int .i64 r.classes, .slice h.ap r.pairs.length h.cp, .slice h.at' r.types.length h.ct, .int .i64 r.master, .slice h.ai r.items.length h.ci] ∧ w.heap.size < wr.heap.size ∧ Blk wr (w.heap.size + 1) [.int .i64 0, .int .i64 0] ∧ (w.heap.size + 1) < wr.heap.size ∧ Blk wr (w.heap.size + 1 + 1) [.int .i64 t, .int .i64 g] ∧ (w.heap.size + 1 + 1) < wr.heap.size ∧ Below w.heap.size w wr) (fun i _ => n - (intOf i).toNat)
 case atStart => exact ⟨0, 0, 0, Nat.zero_le _, rfl, by simp, by simp, unhide KawA, ZawA, unhide KswA, ZswA, unhide KlwA, ZlwA, unhide BwA⟩
 case round =>
  clear BwA KawA ZawA KswA ZswA KlwA ZlwA
  obtain ⟨k, t, g, hk, rfl, ht, hg, ka, Zawr, ks, Zswr, kl, Zlwr, hb⟩ := hrel
  have Bwr := hide hb
  have Kawr := hide ka
  have Kswr := hide ks
  have Klwr := hide kl
  have HT := hide ht
  have HGG := hide hg
  clear hb ka ks kl
  by_cases hlk : k < n
  case neg =>
   have HE1 : Hid (t = volOf (itemsR r) us) := by rw [unhide HT, List.take_of_length_le (by rw [HU.out.1]; omega)]; rfl
   have HE2 : Hid (g = gramOf (itemsR r) us) := by rw [unhide HGG, List.take_of_length_le (by rw [HU.out.1]; omega)]; rfl
   clear ht hg
   have cl0 : wr.cell? ⟨w.heap.size + 1 + 1, 0, none⟩ = some (.int .i64 t) := (Klwr.out 0 (by simp)).1
   have cl1 : wr.cell? ⟨w.heap.size + 1 + 1, 1, none⟩ = some (.int .i64 g) := (Klwr.out 1 (by simp)).1
   have cs0 : wr.cell? ⟨w.heap.size + 1, 0, none⟩ = some (.int .i64 0) := (Kswr.out 0 (by simp)).1
   have cs1 : wr.cell? ⟨w.heap.size + 1, 1, none⟩ = some (.int .i64 0) := (Kswr.out 1 (by simp)).1
   have fs0 : wr.frozen? ⟨w.heap.size + 1, 0, none⟩ = false := (Kswr.out 0 (by simp)).2
   have fs1 : wr.frozen? ⟨w.heap.size + 1, 1, none⟩ = false := (Kswr.out 1 (by simp)).2
   go_wp2
   have hk2 := Blk.fill2 (x := .int .i64 t) (y := .int .i64 g) Kswr.out
   have hB2 := (Bwr.out.setCell (p := ⟨w.heap.size + 1, 0, none⟩) Gs (.int .i64 t)).setCell (p := ⟨w.heap.size + 1, 1, none⟩) Gs (.int .i64 g)
   generalize ((wr.setCell ⟨w.heap.size + 1, 0, none⟩ (.int .i64 t)).setCell ⟨w.heap.size + 1, 1, none⟩ (.int .i64 g)) = X at *
   have k0 := (hk2 0 (by simp)).1
   have k1 := (hk2 1 (by simp)).1
   refine bodyPost_ret (v := .agg #[.int .i64 t, .int .i64 g]) (by simp [results, Tryz.results70, go_sem, k0, k1]) rfl ?_
   exact ⟨ret_bulk HE1.out HE2.out, hB2⟩
  obtain ⟨b, off, hua, hc⟩ := (HU.out.mono Bwr.out).2 k hlk
  have hcw : w.cell? ⟨b, off + k, none⟩ = some (.int .i64 (us.getD k 0)) := by
   obtain ⟨b', off', e, hc'⟩ := HU.out.2 k hlk
   rw [hua] at e
   injection e with e
   injection e with e1 e2
   subst e1 e2
   exact hc'
  have htb := sumTo_bd (volAt (itemsR r)) 8000000000 (by omega) (volAt_bd (itemsR r)) us k (by omega)
  rw [← ht] at htb
  have hgb := sumTo_bd (gramAt (itemsR r)) 100000 (by omega) (gramAt_bd (itemsR r) (itemsR_good r).gram) us k (by omega)
  rw [← hg] at hgb
  have HST := hide (sumTo_step (volAt (itemsR r)) us k (by rw [HU.out.1]; exact hlk))
  have HSG := hide (sumTo_step (gramAt (itemsR r)) us k (by rw [HU.out.1]; exact hlk))
  generalize us.getD k 0 = x at hc hcw HST HSG
  subst hua
  have hxb := volAt_bd (itemsR r) x
  have hyb := gramAt_bd (itemsR r) (itemsR_good r).gram x
  have HVQ : Hid (volAt (itemsR r) x = vol (itemAt (itemsR r) x).wd (itemAt (itemsR r) x).ht (itemAt (itemsR r) x).dp) := rfl
  have HGQ : Hid (gramAt (itemsR r) x = (itemAt (itemsR r) x).gram) := rfl
  rw [unhide HVQ] at hxb
  rw [unhide HGQ] at hyb
  have HTB : Hid (0 ≤ t ∧ t ≤ 8388800000000000 ∧ 0 ≤ g ∧ g ≤ 104860000000 ∧ 0 ≤ vol (itemAt (itemsR r) x).wd (itemAt (itemsR r) x).ht (itemAt (itemsR r) x).dp ∧ vol (itemAt (itemsR r) x).wd (itemAt (itemsR r) x).ht (itemAt (itemsR r) x).dp ≤ 8000000000 ∧ 0 ≤ (itemAt (itemsR r) x).gram ∧ (itemAt (itemsR r) x).gram ≤ 100000) := ⟨by omega, by omega, by omega, by omega, by omega, by omega, by omega, by omega⟩
  have hcu : ∀ u, Below w.heap.size w u → u.cell? ⟨b, off + k, none⟩ = some (.int .i64 x) := fun u hb => (hb.cell (World.block_lt_of_cell? w _ hcw)).trans hcw
  clear ht hg htb hgb hxb hyb hcw
  go_upto_region 5 with fail
  clear hc
  go_cut [9] (fun v wc => ∃ gx, v = .pointer (some ⟨gx, 0, none⟩) ∧ Blk wc gx [.int .i64 (itemAt (itemsR r) x).id, .int .i64 (itemAt (itemsR r) x).wd, .int .i64 (itemAt (itemsR r) x).ht, .int .i64 (itemAt (itemsR r) x).dp, .int .i64 (itemAt (itemsR r) x).gram, .int .i64 (itemAt (itemsR r) x).cls, .int .i64 (itemAt (itemsR r) x).cnt] ∧ gx < wc.heap.size ∧ w.heap.size ≤ gx ∧ w.heap.size ≠ gx ∧ gx ≠ w.heap.size ∧ (w.heap.size + 1) ≠ gx ∧ gx ≠ (w.heap.size + 1) ∧ (w.heap.size + 1 + 1) ≠ gx ∧ gx ≠ (w.heap.size + 1 + 1) ∧ Blk wc w.heap.size [.int .i64 r.way, .int .i64 r.pal.wd, .int .i64 r.pal.dp, .int .i64 r.pal.ht, .int .i64 r.pal.gram, .int .i64 r.classes, .slice h.ap r.pairs.length h.cp, .slice h.at' r.types.length h.ct, .int .i64 r.master, .slice h.ai r.items.length h.ci] ∧ w.heap.size < wc.heap.size ∧ Blk wc (w.heap.size + 1) [.int .i64 0, .int .i64 0] ∧ (w.heap.size + 1) < wc.heap.size ∧ Blk wc (w.heap.size + 1 + 1) [.int .i64 t, .int .i64 g] ∧ (w.heap.size + 1 + 1) < wc.heap.size ∧ Below w.heap.size w wc)
  case first =>
   refine wp_region_noPanic ?_
   have Bu0 : Hid (Below w.heap.size w wr.drew) := Bwr.out.drew
   have Kau0 : Hid (Blk wr.drew w.heap.size [.int .i64 r.way, .int .i64 r.pal.wd, .int .i64 r.pal.dp, .int .i64 r.pal.ht, .int .i64 r.pal.gram, .int .i64 r.classes, .slice h.ap r.pairs.length h.cp, .slice h.at' r.types.length h.ct, .int .i64 r.master, .slice h.ai r.items.length h.ci]) := unhide Kawr
   have Zau0 : w.heap.size < wr.drew.heap.size := Zawr
   have Ksu0 : Hid (Blk wr.drew (w.heap.size + 1) [.int .i64 0, .int .i64 0]) := unhide Kswr
   have Zsu0 : (w.heap.size + 1) < wr.drew.heap.size := Zswr
   have Klu0 : Hid (Blk wr.drew (w.heap.size + 1 + 1) [.int .i64 t, .int .i64 g]) := unhide Klwr
   have Zlu0 : (w.heap.size + 1 + 1) < wr.drew.heap.size := Zlwr
   obtain ⟨S, hSdef⟩ : ∃ S : World → Prop, S = (fun w' => RqC w' w.heap.size r h ∧ w'.cell? ⟨b, off + k, none⟩ = some (.int .i64 x)) := ⟨_, rfl⟩
   have hSmk : ∀ wq, Blk wq w.heap.size [.int .i64 r.way, .int .i64 r.pal.wd, .int .i64 r.pal.dp, .int .i64 r.pal.ht, .int .i64 r.pal.gram, .int .i64 r.classes, .slice h.ap r.pairs.length h.cp, .slice h.at' r.types.length h.ct, .int .i64 r.master, .slice h.ai r.items.length h.ci] → (wq.cell? ⟨b, off + k, none⟩ = some (.int .i64 x)) → S wq := fun wq ka p0 => by rw [hSdef]; exact ⟨RqC.of ka, p0⟩
   have hSd : ∀ wq, S wq → (fun w' => RqC w' w.heap.size r h ∧ w'.cell? ⟨b, off + k, none⟩ = some (.int .i64 x)) wq := fun wq h => by rw [hSdef] at h; exact h
   clear hSdef
   have hHeld : S wr.drew := hSmk wr.drew Kau0.out (hcu _ Bu0.out)
   refine wp_region_to (S := S) (T := []) (by kernel_rfl) hHeld (fun _ => ?_)
   generalize wr.drew = u0 at *
   refine wpTo_ts (i := 0) (v := ?_) rfl (by kernel_rfl) hSd (by rfl) (fun w hSw => ?_) (by assumption) ?_
   rotate_left
   · ((try dsimp only [RqC] at hSw); go_simp <;> with_reducible rfl)
   refine wpTo_ts (i := 1) (v := ?_) rfl (by kernel_rfl) hSd (by rfl) (fun w hSw => ?_) (by assumption) ?_
   rotate_left
   · ((try dsimp only [RqC] at hSw); go_simp <;> with_reducible rfl)
   refine wpTo_ts (i := 2) (v := ?_) rfl (by kernel_rfl) hSd (by rfl) (fun w hSw => ?_) (by assumption) ?_
   rotate_left
   · ((try dsimp only [RqC] at hSw); go_simp <;> with_reducible rfl)
   try simp only [Act.put, zz1, zz2, zz3, zz4, zz5, zz6]
   refine wpTo_ts (i := 3) (v := ?_) rfl (by kernel_rfl) hSd (by rfl) (fun w hSw => ?_) (by assumption) ?_
   rotate_left
   · ((try dsimp only [RqC] at hSw); go_simp <;> with_reducible rfl)
   refine wpTo_ts (i := 4) (v := ?_) rfl (by kernel_rfl) hSd (by rfl) (fun w hSw => ?_) (by assumption) ?_
   rotate_left
   · ((try dsimp only [RqC] at hSw); go_simp <;> with_reducible rfl)
   refine wpTo_ts (i := 5) (v := ?_) rfl (by kernel_rfl) hSd (by rfl) (fun w hSw => ?_) (by assumption) ?_
   rotate_left
   · ((try dsimp only [RqC] at hSw); go_simp <;> with_reducible rfl)
   try simp only [Act.put, zz1, zz2, zz3, zz4, zz5, zz6]
   refine wpTo_ready (rs := [6, 10]) (by kernel_rfl) (by simp) ?_
   refine AllTo.cons (o := _) rfl (fun K hK => ?_) ?_
   ·
    (try simp only [zz1, zz2, zz3])
    go_simp
    refine (l6Item_any r h _ _ _ x u0 (HR.out.mono Bu0.out) (HA.out.mono Bu0.out)).mono ?_
    rintro e u1 ⟨bb, rfl, hb⟩
    have Bu1 := hide (Bu0.out.trans (hb.mono Bu0.out.size))
    have Kau1 := hide (Blk.below hb Zau0 Kau0.out)
    have Zau1 := Nat.lt_of_lt_of_le Zau0 hb.size
    have Ksu1 := hide (Blk.below hb Zsu0 Ksu0.out)
    have Zsu1 := Nat.lt_of_lt_of_le Zsu0 hb.size
    have Klu1 := hide (Blk.below hb Zlu0 Klu0.out)
    have Zlu1 := Nat.lt_of_lt_of_le Zlu0 hb.size
    unfold itemVal
    clear hb
    clear Bu0 Kau0 Zau0 Ksu0 Zsu0 Klu0 Zlu0
    clear hHeld
    go_wp2_with fail
    have hHeld := hSmk u1 Kau1.out (hcu _ Bu1.out)
    refine hK.out _ _ (fun _ => hHeld) ?_
    clear hK K
    try simp only [Act.put, zz1, zz2, zz3, zz4, zz5, zz6]
    refine wpTo_ts (i := 7) (v := ?_) rfl (by kernel_rfl) hSd (by rfl) (fun w hSw => ?_) (by assumption) ?_
    rotate_left
    · ((try dsimp only [RqC] at hSw); go_simp <;> with_reducible rfl)
    try simp only [Act.put, zz1, zz2, zz3, zz4, zz5, zz6]
    refine wpTo_ts (i := 8) (v := ?_) rfl (by kernel_rfl) hSd (by rfl) (fun w hSw => ?_) (by assumption) ?_
    rotate_left
    · ((try dsimp only [RqC] at hSw); go_simp <;> with_reducible rfl)
    refine wpTo_ts (i := 9) (v := ?_) rfl (by kernel_rfl) hSd (by rfl) (fun w hSw => ?_) (by assumption) ?_
    rotate_left
    · ((try dsimp only [RqC] at hSw); go_simp <;> with_reducible rfl)
    try simp only [Act.put, zz1, zz2, zz3, zz4, zz5, zz6]
    refine wpTo_ready (rs := [10]) (by kernel_rfl) (by simp) ?_
    refine AllTo.cons (o := _) rfl (fun K hK => ?_) ?_
    ·
     (try simp only [zz1, zz2, zz3])
     go_simp
     clear hHeld
     generalize hW : (u1.alloc (.cells #[.int .i64 0, .int .i64 0, .int .i64 0, .int .i64 0, .int .i64 0, .int .i64 0, .int .i64 0] 89)) = u2 at *
     obtain ⟨hb, Kxu2, Zxu2⟩ := en1 hW
     have hb := unhide hb
     have Bu2 := hide (Bu1.out.trans (hb.mono Bu1.out.size))
     have Gx : w.heap.size ≤ u1.heap.size := Bu1.out.size
     have Kau2 := hide (Blk.below hb Zau1 Kau1.out)
     have Zau2 := Nat.lt_of_lt_of_le Zau1 hb.size
     have Ksu2 := hide (Blk.below hb Zsu1 Ksu1.out)
     have Zsu2 := Nat.lt_of_lt_of_le Zsu1 hb.size
     have Klu2 := hide (Blk.below hb Zlu1 Klu1.out)
     have Zlu2 := Nat.lt_of_lt_of_le Zlu1 hb.size
     have Nqax : w.heap.size ≠ u1.heap.size := Nat.ne_of_lt Zau1
     have Nqxa := Ne.symm Nqax
     have Nqsx : (w.heap.size + 1) ≠ u1.heap.size := Nat.ne_of_lt Zsu1
     have Nqxs := Ne.symm Nqsx
     have Nqlx : (w.heap.size + 1 + 1) ≠ u1.heap.size := Nat.ne_of_lt Zlu1
     have Nqxl := Ne.symm Nqlx
     clear hb hW
     clear Bu1 Kau1 Zau1 Ksu1 Zsu1 Klu1 Zlu1
     have hHeld := hSmk u2 Kau2.out (hcu _ Bu2.out)
     refine hK.out _ _ (fun _ => hHeld) ?_
     clear hK K
     try simp only [Act.put, zz1, zz2, zz3, zz4, zz5, zz6]
     refine wpTo_ready (rs := [11]) (by kernel_rfl) (by simp) ?_
     refine AllTo.cons (o := _) rfl (fun K hK => ?_) ?_
     ·
      (try simp only [zz1, zz2, zz3])
      have p0 := (Kxu2.out 0 (by simp)).1
      have q0 := (Kxu2.out 0 (by simp)).2
      have p1 := (Kxu2.out 1 (by simp)).1
      have q1 := (Kxu2.out 1 (by simp)).2
      have p2 := (Kxu2.out 2 (by simp)).1
      have q2 := (Kxu2.out 2 (by simp)).2
      have p3 := (Kxu2.out 3 (by simp)).1
      have q3 := (Kxu2.out 3 (by simp)).2
      have p4 := (Kxu2.out 4 (by simp)).1
      have q4 := (Kxu2.out 4 (by simp)).2
      have p5 := (Kxu2.out 5 (by simp)).1
      have q5 := (Kxu2.out 5 (by simp)).2
      have p6 := (Kxu2.out 6 (by simp)).1
      have q6 := (Kxu2.out 6 (by simp)).2
      go_simp
      clear p0 q0 p1 q1 p2 q2 p3 q3 p4 q4 p5 q5 p6 q6
      clear hHeld
      generalize hW : (((((((u2.setCell ⟨u1.heap.size, 0, none⟩ (.int .i64 (itemAt (itemsR r) x).id)).setCell ⟨u1.heap.size, 1, none⟩ (.int .i64 (itemAt (itemsR r) x).wd)).setCell ⟨u1.heap.size, 2, none⟩ (.int .i64 (itemAt (itemsR r) x).ht)).setCell ⟨u1.heap.size, 3, none⟩ (.int .i64 (itemAt (itemsR r) x).dp)).setCell ⟨u1.heap.size, 4, none⟩ (.int .i64 (itemAt (itemsR r) x).gram)).setCell ⟨u1.heap.size, 5, none⟩ (.int .i64 (itemAt (itemsR r) x).cls)).setCell ⟨u1.heap.size, 6, none⟩ (.int .i64 (itemAt (itemsR r) x).cnt)) = u3 at *
      have Bu3 : Hid (Below w.heap.size w u3) := by rw [← hW]; exact (((((((Bu2.out.setCell Gx _).setCell Gx _).setCell Gx _).setCell Gx _).setCell Gx _).setCell Gx _).setCell Gx _)
      have Kxu3 : Hid (Blk u3 u1.heap.size [.int .i64 (itemAt (itemsR r) x).id, .int .i64 (itemAt (itemsR r) x).wd, .int .i64 (itemAt (itemsR r) x).ht, .int .i64 (itemAt (itemsR r) x).dp, .int .i64 (itemAt (itemsR r) x).gram, .int .i64 (itemAt (itemsR r) x).cls, .int .i64 (itemAt (itemsR r) x).cnt]) := by rw [← hW]; exact Blk.fill7 Kxu2.out
      have Zxu3 : u1.heap.size < u3.heap.size := by rw [← hW]; simpa using Zxu2
      have Kau3 : Hid (Blk u3 w.heap.size [.int .i64 r.way, .int .i64 r.pal.wd, .int .i64 r.pal.dp, .int .i64 r.pal.ht, .int .i64 r.pal.gram, .int .i64 r.classes, .slice h.ap r.pairs.length h.cp, .slice h.at' r.types.length h.ct, .int .i64 r.master, .slice h.ai r.items.length h.ci]) := by rw [← hW]; exact (((((((Kau2.out.other Nqax).other Nqax).other Nqax).other Nqax).other Nqax).other Nqax).other Nqax)
      have Zau3 : w.heap.size < u3.heap.size := by rw [← hW]; simpa using Zau2
      have Ksu3 : Hid (Blk u3 (w.heap.size + 1) [.int .i64 0, .int .i64 0]) := by rw [← hW]; exact (((((((Ksu2.out.other Nqsx).other Nqsx).other Nqsx).other Nqsx).other Nqsx).other Nqsx).other Nqsx)
      have Zsu3 : (w.heap.size + 1) < u3.heap.size := by rw [← hW]; simpa using Zsu2
      have Klu3 : Hid (Blk u3 (w.heap.size + 1 + 1) [.int .i64 t, .int .i64 g]) := by rw [← hW]; exact (((((((Klu2.out.other Nqlx).other Nqlx).other Nqlx).other Nqlx).other Nqlx).other Nqlx).other Nqlx)
      have Zlu3 : (w.heap.size + 1 + 1) < u3.heap.size := by rw [← hW]; simpa using Zlu2
      clear hW
      clear Bu2 Kau2 Zau2 Ksu2 Zsu2 Klu2 Zlu2 Kxu2 Zxu2
      have hHeld := hSmk u3 Kau3.out (hcu _ Bu3.out)
      refine hK.out _ _ (fun _ => hHeld) ?_
      clear hK K
      try simp only [Act.put, zz1, zz2, zz3, zz4, zz5, zz6]
      refine wpTo_ts (i := 12) (v := ?_) rfl (by kernel_rfl) hSd (by rfl) (fun w hSw => ?_) (by assumption) ?_
      rotate_left
      · ((try dsimp only [RqC] at hSw); go_simp <;> with_reducible rfl)
      try simp only [Act.put, zz1, zz2, zz3, zz4, zz5, zz6]
      refine wpTo_done (by kernel_rfl) ?_ _
      refine NoPanic.normal ?_
      go_wp2_with fail
      go_meet
      case rel => exact ⟨_, rfl, unhide Kxu3, Zxu3, Gx, Nqax, Nqxa, Nqsx, Nqxs, Nqlx, Nqxl, unhide Kau3, Zau3, unhide Ksu3, Zsu3, unhide Klu3, Zlu3, unhide Bu3⟩
     exact AllTo.nil
    exact AllTo.nil
   refine AllTo.cons (o := _) rfl (fun K hK => ?_) ?_
   ·
    (try simp only [zz1, zz2, zz3])
    go_simp
    clear hHeld
    generalize hW : (u0.alloc (.cells #[.int .i64 0, .int .i64 0, .int .i64 0, .int .i64 0, .int .i64 0, .int .i64 0, .int .i64 0] 89)) = u1 at *
    obtain ⟨hb, Kxu1, Zxu1⟩ := en1 hW
    have hb := unhide hb
    have Bu1 := hide (Bu0.out.trans (hb.mono Bu0.out.size))
    have Gx : w.heap.size ≤ u0.heap.size := Bu0.out.size
    have Kau1 := hide (Blk.below hb Zau0 Kau0.out)
    have Zau1 := Nat.lt_of_lt_of_le Zau0 hb.size
    have Ksu1 := hide (Blk.below hb Zsu0 Ksu0.out)
    have Zsu1 := Nat.lt_of_lt_of_le Zsu0 hb.size
    have Klu1 := hide (Blk.below hb Zlu0 Klu0.out)
    have Zlu1 := Nat.lt_of_lt_of_le Zlu0 hb.size
    have Nqax : w.heap.size ≠ u0.heap.size := Nat.ne_of_lt Zau0
    have Nqxa := Ne.symm Nqax
    have Nqsx : (w.heap.size + 1) ≠ u0.heap.size := Nat.ne_of_lt Zsu0
    have Nqxs := Ne.symm Nqsx
    have Nqlx : (w.heap.size + 1 + 1) ≠ u0.heap.size := Nat.ne_of_lt Zlu0
    have Nqxl := Ne.symm Nqlx
    clear hb hW
    clear Bu0 Kau0 Zau0 Ksu0 Zsu0 Klu0 Zlu0
    have hHeld := hSmk u1 Kau1.out (hcu _ Bu1.out)
    refine hK.out _ _ (fun _ => hHeld) ?_
    clear hK K
    try simp only [Act.put, zz1, zz2, zz3, zz4, zz5, zz6]
    refine wpTo_ready (rs := [6]) (by kernel_rfl) (by simp) ?_
    refine AllTo.cons (o := _) rfl (fun K hK => ?_) ?_
    ·
     (try simp only [zz1, zz2, zz3])
     go_simp
     refine (l6Item_any r h _ _ _ x u1 (HR.out.mono Bu1.out) (HA.out.mono Bu1.out)).mono ?_
     rintro e u2 ⟨bb, rfl, hb⟩
     have Bu2 := hide (Bu1.out.trans (hb.mono Bu1.out.size))
     have Kau2 := hide (Blk.below hb Zau1 Kau1.out)
     have Zau2 := Nat.lt_of_lt_of_le Zau1 hb.size
     have Ksu2 := hide (Blk.below hb Zsu1 Ksu1.out)
     have Zsu2 := Nat.lt_of_lt_of_le Zsu1 hb.size
     have Klu2 := hide (Blk.below hb Zlu1 Klu1.out)
     have Zlu2 := Nat.lt_of_lt_of_le Zlu1 hb.size
     have Kxu2 := hide (Blk.below hb Zxu1 Kxu1.out)
     have Zxu2 := Nat.lt_of_lt_of_le Zxu1 hb.size
     unfold itemVal
     clear hb
     clear Bu1 Kau1 Zau1 Ksu1 Zsu1 Klu1 Zlu1 Kxu1 Zxu1
     clear hHeld
     go_wp2_with fail
     have hHeld := hSmk u2 Kau2.out (hcu _ Bu2.out)
     refine hK.out _ _ (fun _ => hHeld) ?_
     clear hK K
     try simp only [Act.put, zz1, zz2, zz3, zz4, zz5, zz6]
     refine wpTo_ts (i := 7) (v := ?_) rfl (by kernel_rfl) hSd (by rfl) (fun w hSw => ?_) (by assumption) ?_
     rotate_left
     · ((try dsimp only [RqC] at hSw); go_simp <;> with_reducible rfl)
     refine wpTo_ts (i := 8) (v := ?_) rfl (by kernel_rfl) hSd (by rfl) (fun w hSw => ?_) (by assumption) ?_
     rotate_left
     · ((try dsimp only [RqC] at hSw); go_simp <;> with_reducible rfl)
     try simp only [Act.put, zz1, zz2, zz3, zz4, zz5, zz6]
     refine wpTo_ts (i := 9) (v := ?_) rfl (by kernel_rfl) hSd (by rfl) (fun w hSw => ?_) (by assumption) ?_
     rotate_left
     · ((try dsimp only [RqC] at hSw); go_simp <;> with_reducible rfl)
     try simp only [Act.put, zz1, zz2, zz3, zz4, zz5, zz6]
     refine wpTo_ready (rs := [11]) (by kernel_rfl) (by simp) ?_
     refine AllTo.cons (o := _) rfl (fun K hK => ?_) ?_
     ·
      (try simp only [zz1, zz2, zz3])
      have p0 := (Kxu2.out 0 (by simp)).1
      have q0 := (Kxu2.out 0 (by simp)).2
      have p1 := (Kxu2.out 1 (by simp)).1
      have q1 := (Kxu2.out 1 (by simp)).2
      have p2 := (Kxu2.out 2 (by simp)).1
      have q2 := (Kxu2.out 2 (by simp)).2
      have p3 := (Kxu2.out 3 (by simp)).1
      have q3 := (Kxu2.out 3 (by simp)).2
      have p4 := (Kxu2.out 4 (by simp)).1
      have q4 := (Kxu2.out 4 (by simp)).2
      have p5 := (Kxu2.out 5 (by simp)).1
      have q5 := (Kxu2.out 5 (by simp)).2
      have p6 := (Kxu2.out 6 (by simp)).1
      have q6 := (Kxu2.out 6 (by simp)).2
      go_simp
      clear p0 q0 p1 q1 p2 q2 p3 q3 p4 q4 p5 q5 p6 q6
      clear hHeld
      generalize hW : (((((((u2.setCell ⟨u0.heap.size, 0, none⟩ (.int .i64 (itemAt (itemsR r) x).id)).setCell ⟨u0.heap.size, 1, none⟩ (.int .i64 (itemAt (itemsR r) x).wd)).setCell ⟨u0.heap.size, 2, none⟩ (.int .i64 (itemAt (itemsR r) x).ht)).setCell ⟨u0.heap.size, 3, none⟩ (.int .i64 (itemAt (itemsR r) x).dp)).setCell ⟨u0.heap.size, 4, none⟩ (.int .i64 (itemAt (itemsR r) x).gram)).setCell ⟨u0.heap.size, 5, none⟩ (.int .i64 (itemAt (itemsR r) x).cls)).setCell ⟨u0.heap.size, 6, none⟩ (.int .i64 (itemAt (itemsR r) x).cnt)) = u3 at *
      have Bu3 : Hid (Below w.heap.size w u3) := by rw [← hW]; exact (((((((Bu2.out.setCell Gx _).setCell Gx _).setCell Gx _).setCell Gx _).setCell Gx _).setCell Gx _).setCell Gx _)
      have Kxu3 : Hid (Blk u3 u0.heap.size [.int .i64 (itemAt (itemsR r) x).id, .int .i64 (itemAt (itemsR r) x).wd, .int .i64 (itemAt (itemsR r) x).ht, .int .i64 (itemAt (itemsR r) x).dp, .int .i64 (itemAt (itemsR r) x).gram, .int .i64 (itemAt (itemsR r) x).cls, .int .i64 (itemAt (itemsR r) x).cnt]) := by rw [← hW]; exact Blk.fill7 Kxu2.out
      have Zxu3 : u0.heap.size < u3.heap.size := by rw [← hW]; simpa using Zxu2
      have Kau3 : Hid (Blk u3 w.heap.size [.int .i64 r.way, .int .i64 r.pal.wd, .int .i64 r.pal.dp, .int .i64 r.pal.ht, .int .i64 r.pal.gram, .int .i64 r.classes, .slice h.ap r.pairs.length h.cp, .slice h.at' r.types.length h.ct, .int .i64 r.master, .slice h.ai r.items.length h.ci]) := by rw [← hW]; exact (((((((Kau2.out.other Nqax).other Nqax).other Nqax).other Nqax).other Nqax).other Nqax).other Nqax)
      have Zau3 : w.heap.size < u3.heap.size := by rw [← hW]; simpa using Zau2
      have Ksu3 : Hid (Blk u3 (w.heap.size + 1) [.int .i64 0, .int .i64 0]) := by rw [← hW]; exact (((((((Ksu2.out.other Nqsx).other Nqsx).other Nqsx).other Nqsx).other Nqsx).other Nqsx).other Nqsx)
      have Zsu3 : (w.heap.size + 1) < u3.heap.size := by rw [← hW]; simpa using Zsu2
      have Klu3 : Hid (Blk u3 (w.heap.size + 1 + 1) [.int .i64 t, .int .i64 g]) := by rw [← hW]; exact (((((((Klu2.out.other Nqlx).other Nqlx).other Nqlx).other Nqlx).other Nqlx).other Nqlx).other Nqlx)
      have Zlu3 : (w.heap.size + 1 + 1) < u3.heap.size := by rw [← hW]; simpa using Zlu2
      clear hW
      clear Bu2 Kau2 Zau2 Ksu2 Zsu2 Klu2 Zlu2 Kxu2 Zxu2
      have hHeld := hSmk u3 Kau3.out (hcu _ Bu3.out)
      refine hK.out _ _ (fun _ => hHeld) ?_
      clear hK K
      try simp only [Act.put, zz1, zz2, zz3, zz4, zz5, zz6]
      refine wpTo_ts (i := 12) (v := ?_) rfl (by kernel_rfl) hSd (by rfl) (fun w hSw => ?_) (by assumption) ?_
      rotate_left
      · ((try dsimp only [RqC] at hSw); go_simp <;> with_reducible rfl)
      try simp only [Act.put, zz1, zz2, zz3, zz4, zz5, zz6]
      refine wpTo_done (by kernel_rfl) ?_ _
      refine NoPanic.normal ?_
      go_wp2_with fail
      go_meet
      case rel => exact ⟨_, rfl, unhide Kxu3, Zxu3, Gx, Nqax, Nqxa, Nqsx, Nqxs, Nqlx, Nqxl, unhide Kau3, Zau3, unhide Ksu3, Zsu3, unhide Klu3, Zlu3, unhide Bu3⟩
     exact AllTo.nil
    exact AllTo.nil
   exact AllTo.nil
  case rest =>
   clear Bwr Kawr Kswr Klwr Zawr Zswr Zlwr
   obtain ⟨gx, rfl, kx, Zxwc, Gx, Nqax, Nqxa, Nqsx, Nqxs, Nqlx, Nqxl, ka, Zawc, ks, Zswc, kl, Zlwc, hb⟩ := hcut
   have Bwc := hide hb
   have Kxwc := hide kx
   have Kawc := hide ka
   have Kswc := hide ks
   have Klwc := hide kl
   clear hb kx ka ks kl hcu
   go_upto_region 6 with fail
   go_cut [8] (fun v wd => v = .int .i64 k ∧ Blk wd gx [.int .i64 (itemAt (itemsR r) x).id, .int .i64 (itemAt (itemsR r) x).wd, .int .i64 (itemAt (itemsR r) x).ht, .int .i64 (itemAt (itemsR r) x).dp, .int .i64 (itemAt (itemsR r) x).gram, .int .i64 (itemAt (itemsR r) x).cls, .int .i64 (itemAt (itemsR r) x).cnt] ∧ gx < wd.heap.size ∧ Blk wd w.heap.size [.int .i64 r.way, .int .i64 r.pal.wd, .int .i64 r.pal.dp, .int .i64 r.pal.ht, .int .i64 r.pal.gram, .int .i64 r.classes, .slice h.ap r.pairs.length h.cp, .slice h.at' r.types.length h.ct, .int .i64 r.master, .slice h.ai r.items.length h.ci] ∧ w.heap.size < wd.heap.size ∧ Blk wd (w.heap.size + 1) [.int .i64 0, .int .i64 0] ∧ (w.heap.size + 1) < wd.heap.size ∧ Blk wd (w.heap.size + 1 + 1) [.int .i64 (t + vol (itemAt (itemsR r) x).wd (itemAt (itemsR r) x).ht (itemAt (itemsR r) x).dp), .int .i64 g] ∧ (w.heap.size + 1 + 1) < wd.heap.size ∧ Below w.heap.size w wd)
   case first =>
    refine wp_region_noPanic ?_
    have Bu0 : Hid (Below w.heap.size w wc.drew) := Bwc.out.drew
    have Kau0 : Hid (Blk wc.drew w.heap.size [.int .i64 r.way, .int .i64 r.pal.wd, .int .i64 r.pal.dp, .int .i64 r.pal.ht, .int .i64 r.pal.gram, .int .i64 r.classes, .slice h.ap r.pairs.length h.cp, .slice h.at' r.types.length h.ct, .int .i64 r.master, .slice h.ai r.items.length h.ci]) := unhide Kawc
    have Zau0 : w.heap.size < wc.drew.heap.size := Zawc
    have Ksu0 : Hid (Blk wc.drew (w.heap.size + 1) [.int .i64 0, .int .i64 0]) := unhide Kswc
    have Zsu0 : (w.heap.size + 1) < wc.drew.heap.size := Zswc
    have Klu0 : Hid (Blk wc.drew (w.heap.size + 1 + 1) [.int .i64 t, .int .i64 g]) := unhide Klwc
    have Zlu0 : (w.heap.size + 1 + 1) < wc.drew.heap.size := Zlwc
    have Kxu0 : Hid (Blk wc.drew gx [.int .i64 (itemAt (itemsR r) x).id, .int .i64 (itemAt (itemsR r) x).wd, .int .i64 (itemAt (itemsR r) x).ht, .int .i64 (itemAt (itemsR r) x).dp, .int .i64 (itemAt (itemsR r) x).gram, .int .i64 (itemAt (itemsR r) x).cls, .int .i64 (itemAt (itemsR r) x).cnt]) := unhide Kxwc
    have Zxu0 : gx < wc.drew.heap.size := Zxwc
    obtain ⟨S, hSdef⟩ : ∃ S : World → Prop, S = (fun w' => w'.cell? ⟨(w.heap.size + 1 + 1), 0, none⟩ = some (.int .i64 t) ∧ w'.cell? ⟨gx, 1, none⟩ = some (.int .i64 (itemAt (itemsR r) x).wd) ∧ w'.cell? ⟨gx, 2, none⟩ = some (.int .i64 (itemAt (itemsR r) x).ht) ∧ w'.cell? ⟨gx, 3, none⟩ = some (.int .i64 (itemAt (itemsR r) x).dp)) := ⟨_, rfl⟩
    have hSmk : ∀ wq, Blk wq (w.heap.size + 1 + 1) [.int .i64 t, .int .i64 g] → Blk wq gx [.int .i64 (itemAt (itemsR r) x).id, .int .i64 (itemAt (itemsR r) x).wd, .int .i64 (itemAt (itemsR r) x).ht, .int .i64 (itemAt (itemsR r) x).dp, .int .i64 (itemAt (itemsR r) x).gram, .int .i64 (itemAt (itemsR r) x).cls, .int .i64 (itemAt (itemsR r) x).cnt] → S wq := fun wq kl kx => by rw [hSdef]; exact ⟨(kl 0 (by simp)).1, (kx 1 (by simp)).1, (kx 2 (by simp)).1, (kx 3 (by simp)).1⟩
    have hSd : ∀ wq, S wq → (fun w' => w'.cell? ⟨(w.heap.size + 1 + 1), 0, none⟩ = some (.int .i64 t) ∧ w'.cell? ⟨gx, 1, none⟩ = some (.int .i64 (itemAt (itemsR r) x).wd) ∧ w'.cell? ⟨gx, 2, none⟩ = some (.int .i64 (itemAt (itemsR r) x).ht) ∧ w'.cell? ⟨gx, 3, none⟩ = some (.int .i64 (itemAt (itemsR r) x).dp)) wq := fun wq h => by rw [hSdef] at h; exact h
    clear hSdef
    have hHeld : S wc.drew := hSmk wc.drew Klu0.out Kxu0.out
    refine wp_region_to (S := S) (T := [11]) (by kernel_rfl) hHeld (fun _ => ?_)
    generalize wc.drew = u0 at *
    refine wpTo_ts (i := 0) (v := ?_) rfl (by kernel_rfl) hSd (by rfl) (fun w hSw => ?_) (by assumption) ?_
    rotate_left
    · ((try dsimp only [RqC] at hSw); go_simp <;> with_reducible rfl)
    refine wpTo_ts (i := 1) (v := ?_) rfl (by kernel_rfl) hSd (by rfl) (fun w hSw => ?_) (by assumption) ?_
    rotate_left
    · ((try dsimp only [RqC] at hSw); go_simp <;> with_reducible rfl)
    refine wpTo_ts (i := 2) (v := ?_) rfl (by kernel_rfl) hSd (by rfl) (fun w hSw => ?_) (by assumption) ?_
    rotate_left
    · ((try dsimp only [RqC] at hSw); go_simp <;> with_reducible rfl)
    try simp only [Act.put, zz1, zz2, zz3, zz4, zz5, zz6]
    refine wpTo_ts (i := 3) (v := ?_) rfl (by kernel_rfl) hSd (by rfl) (fun w hSw => ?_) (by assumption) ?_
    rotate_left
    · ((try dsimp only [RqC] at hSw); go_simp <;> with_reducible rfl)
    refine wpTo_ts (i := 4) (v := ?_) rfl (by kernel_rfl) hSd (by rfl) (fun w hSw => ?_) (by assumption) ?_
    rotate_left
    · ((try dsimp only [RqC] at hSw); go_simp <;> with_reducible rfl)
    refine wpTo_ts (i := 5) (v := ?_) rfl (by kernel_rfl) hSd (by rfl) (fun w hSw => ?_) (by assumption) ?_
    rotate_left
    · ((try dsimp only [RqC] at hSw); go_simp <;> with_reducible rfl)
    try simp only [Act.put, zz1, zz2, zz3, zz4, zz5, zz6]
    refine wpTo_ts (i := 6) (v := ?_) rfl (by kernel_rfl) hSd (by rfl) (fun w hSw => ?_) (by assumption) ?_
    rotate_left
    · ((try dsimp only [RqC] at hSw); go_simp <;> with_reducible rfl)
    refine wpTo_ts (i := 7) (v := ?_) rfl (by kernel_rfl) hSd (by rfl) (fun w hSw => ?_) (by assumption) ?_
    rotate_left
    · ((try dsimp only [RqC] at hSw); go_simp <;> with_reducible rfl)
    try simp only [Act.put, zz1, zz2, zz3, zz4, zz5, zz6]
    refine wpTo_ready (rs := [8]) (by kernel_rfl) (by simp) ?_
    refine AllTo.cons (o := _) rfl (fun K hK => ?_) ?_
    ·
     (try simp only [zz1, zz2, zz3])
     go_simp
     refine (specVolume_any _ _ _ _).mono ?_
     rintro e wz ⟨rfl, hwz⟩
     subst wz
     go_wp2_with fail
     have hHeld := hSmk u0 Klu0.out Kxu0.out
     refine hK.out _ _ (fun _ => hHeld) ?_
     clear hK K
     try simp only [Act.put, zz1, zz2, zz3, zz4, zz5, zz6]
     refine wpTo_ts (i := 9) (v := ?_) rfl (by kernel_rfl) hSd (by rfl) (fun w hSw => ?_) (by assumption) ?_
     rotate_left
     · ((try dsimp only [RqC] at hSw); go_simp <;> with_reducible rfl)
     try simp only [Act.put, zz1, zz2, zz3, zz4, zz5, zz6]
     rw [wrap_fits (x := t + vol (itemAt (itemsR r) x).wd (itemAt (itemsR r) x).ht (itemAt (itemsR r) x).dp) (by have := unhide HTB; omega) (by have := unhide HTB; omega)]
     refine wpTo_ts (i := 10) (v := ?_) rfl (by kernel_rfl) hSd (by rfl) (fun w hSw => ?_) (by assumption) ?_
     rotate_left
     · ((try dsimp only [RqC] at hSw); go_simp <;> with_reducible rfl)
     try simp only [Act.put, zz1, zz2, zz3, zz4, zz5, zz6]
     refine wpTo_ready (rs := [11]) (by kernel_rfl) (by simp) ?_
     refine AllTo.cons (o := _) rfl (fun K hK => ?_) ?_
     ·
      (try simp only [zz1, zz2, zz3])
      have p0 := (Klu0.out 0 (by simp)).1
      have q0 := (Klu0.out 0 (by simp)).2
      go_simp
      clear p0 q0
      have Bu1 : Hid (Below w.heap.size w (u0.setCell ⟨(w.heap.size + 1 + 1), 0, none⟩ (.int .i64 (t + vol (itemAt (itemsR r) x).wd (itemAt (itemsR r) x).ht (itemAt (itemsR r) x).dp)))) := Bu0.out.setCell Gl _
      have Klu1 : Hid (Blk (u0.setCell ⟨(w.heap.size + 1 + 1), 0, none⟩ (.int .i64 (t + vol (itemAt (itemsR r) x).wd (itemAt (itemsR r) x).ht (itemAt (itemsR r) x).dp))) (w.heap.size + 1 + 1) [.int .i64 (t + vol (itemAt (itemsR r) x).wd (itemAt (itemsR r) x).ht (itemAt (itemsR r) x).dp), .int .i64 g]) := Klu0.out.set (j := 0) (v := .int .i64 (t + vol (itemAt (itemsR r) x).wd (itemAt (itemsR r) x).ht (itemAt (itemsR r) x).dp)) (by simp)
      have Zlu1 : (w.heap.size + 1 + 1) < (u0.setCell ⟨(w.heap.size + 1 + 1), 0, none⟩ (.int .i64 (t + vol (itemAt (itemsR r) x).wd (itemAt (itemsR r) x).ht (itemAt (itemsR r) x).dp))).heap.size := by simpa using Zlu0
      have Kau1 : Hid (Blk (u0.setCell ⟨(w.heap.size + 1 + 1), 0, none⟩ (.int .i64 (t + vol (itemAt (itemsR r) x).wd (itemAt (itemsR r) x).ht (itemAt (itemsR r) x).dp))) w.heap.size [.int .i64 r.way, .int .i64 r.pal.wd, .int .i64 r.pal.dp, .int .i64 r.pal.ht, .int .i64 r.pal.gram, .int .i64 r.classes, .slice h.ap r.pairs.length h.cp, .slice h.at' r.types.length h.ct, .int .i64 r.master, .slice h.ai r.items.length h.ci]) := Kau0.out.other Nqal
      have Zau1 : w.heap.size < (u0.setCell ⟨(w.heap.size + 1 + 1), 0, none⟩ (.int .i64 (t + vol (itemAt (itemsR r) x).wd (itemAt (itemsR r) x).ht (itemAt (itemsR r) x).dp))).heap.size := by simpa using Zau0
      have Ksu1 : Hid (Blk (u0.setCell ⟨(w.heap.size + 1 + 1), 0, none⟩ (.int .i64 (t + vol (itemAt (itemsR r) x).wd (itemAt (itemsR r) x).ht (itemAt (itemsR r) x).dp))) (w.heap.size + 1) [.int .i64 0, .int .i64 0]) := Ksu0.out.other Nqsl
      have Zsu1 : (w.heap.size + 1) < (u0.setCell ⟨(w.heap.size + 1 + 1), 0, none⟩ (.int .i64 (t + vol (itemAt (itemsR r) x).wd (itemAt (itemsR r) x).ht (itemAt (itemsR r) x).dp))).heap.size := by simpa using Zsu0
      have Kxu1 : Hid (Blk (u0.setCell ⟨(w.heap.size + 1 + 1), 0, none⟩ (.int .i64 (t + vol (itemAt (itemsR r) x).wd (itemAt (itemsR r) x).ht (itemAt (itemsR r) x).dp))) gx [.int .i64 (itemAt (itemsR r) x).id, .int .i64 (itemAt (itemsR r) x).wd, .int .i64 (itemAt (itemsR r) x).ht, .int .i64 (itemAt (itemsR r) x).dp, .int .i64 (itemAt (itemsR r) x).gram, .int .i64 (itemAt (itemsR r) x).cls, .int .i64 (itemAt (itemsR r) x).cnt]) := Kxu0.out.other Nqxl
      have Zxu1 : gx < (u0.setCell ⟨(w.heap.size + 1 + 1), 0, none⟩ (.int .i64 (t + vol (itemAt (itemsR r) x).wd (itemAt (itemsR r) x).ht (itemAt (itemsR r) x).dp))).heap.size := by simpa using Zxu0
      clear hHeld
      clear Bu0 Kau0 Zau0 Ksu0 Zsu0 Klu0 Zlu0 Kxu0 Zxu0
      generalize (u0.setCell ⟨(w.heap.size + 1 + 1), 0, none⟩ (.int .i64 (t + vol (itemAt (itemsR r) x).wd (itemAt (itemsR r) x).ht (itemAt (itemsR r) x).dp))) = u1 at *
      refine hK.out _ _ (fun hn => absurd (by decide) hn) ?_
      clear hK K
      try simp only [Act.put, zz1, zz2, zz3, zz4, zz5, zz6]
      refine wpTo_done (by kernel_rfl) ?_ _
      refine NoPanic.normal ?_
      go_wp2_with fail
      go_meet
      case rel => exact ⟨rfl, unhide Kxu1, Zxu1, unhide Kau1, Zau1, unhide Ksu1, Zsu1, unhide Klu1, Zlu1, unhide Bu1⟩
     exact AllTo.nil
    exact AllTo.nil
   case rest =>
    clear Bwc Kawc Kswc Klwc Zawc Zswc Zlwc Kxwc Zxwc
    obtain ⟨rfl, kx, zx, ka, za, ks, zs, kl, zl, hb⟩ := hcut
    have HKL := hide kl
    have HKA := hide ka
    have HKS := hide ks
    have HBD := hide hb
    have HTB0 := unhide HTB
    obtain ⟨t0, t1, g0, g1, v0, v1, q0, q1⟩ := HTB0
    have cl1 : wc.cell? ⟨w.heap.size + 1 + 1, 1, none⟩ = some (.int .i64 g) := (kl 1 (by simp)).1
    have fl1 : wc.frozen? ⟨w.heap.size + 1 + 1, 1, none⟩ = false := (kl 1 (by simp)).2
    have cx4 : wc.cell? ⟨gx, 4, none⟩ = some (.int .i64 (itemAt (itemsR r) x).gram) := (kx 4 (by simp)).1
    clear kl ka ks hb kx
    go_wp2
    go_roundw
    case rel => exact ⟨k + 1, t + vol (itemAt (itemsR r) x).wd (itemAt (itemsR r) x).ht (itemAt (itemsR r) x).dp, g + (itemAt (itemsR r) x).gram, by omega, by go_num, by rw [unhide HST, ← unhide HT, unhide HVQ], by rw [unhide HSG, ← unhide HGG, unhide HGQ], HKA.out.other Nqal, by simpa using za, HKS.out.other Nqsl, by simpa using zs, HKL.out.set (j := 1) (v := .int .i64 (g + (itemAt (itemsR r) x).gram)) (by simp), by simpa using zl, HBD.out.setCell (p := ⟨w.heap.size + 1 + 1, 1, none⟩) Gl _⟩
    case measure => simp [intOf]; omega


theorem l6Units_zero (r : ReqV) (h : ReqH) (w : World) (hr : RdReq w r h) (hz : classI r = 0) :
 Calls Tryz.prog 68 #[reqVal r h] w fun e w' => ∃ g cap, e = .returned (.slice (some ⟨g, 0, none⟩) (unitsR r).length cap) ∧ w'.ownsRow w.heap.size 3 1 (.slice (some ⟨g, 0, none⟩) (unitsR r).length cap) (unitsR r).length (ci (unitsR r)) ∧ Below w.heap.size w w' := by
 have e : unitsR r = unitsL r.items := by rw [unitsR, itemsR_zero hz]
 rw [e]
 exact l6Units_any r h w hr (good_items hz)
end Go.Proofs.YtcblpoeeembniabGreatDoor
