/- The law of BoxOf, walked. -/
import Derived.Test.YtcblpoeeembniabGreatDoorBoxOfSpec
import Derived.Test.YtcblpoeeembniabGreatDoorBoxOfImpl
import Derived.Test.YtcblpoeeembniabGreatDoorPkA
import Derived.Test.YtcblpoeeembniabGreatDoorPkK
import Derived.Deep.DeepMust
import Derived.Deep.DeepCutAuto
namespace Go.Proofs.YtcblpoeeembniabGreatDoor
open Go.RowKit
set_option linter.unusedVariables false
set_option linter.unusedSimpArgs false
theorem Blk.fill4 {w : World} {g : Nat} {a b c d x y z u : Value} (h : Blk w g [a, b, c, d]) : Blk ((((w.setCell ⟨g, 0, none⟩ x).setCell ⟨g, 1, none⟩ y).setCell ⟨g, 2, none⟩ z).setCell ⟨g, 3, none⟩ u) g [x, y, z, u] :=
 (((h.set (by simp)).set (by simp)).set (by simp)).set (by simp)
set_option maxRecDepth 100000 in
set_option maxHeartbeats 4000000 in
theorem law_boxOf (r : ReqV) (h : ReqH) (t p : Int) (a : Option Addr) (c : Nat) (us : List Int) (w : World) (hr : RdReq w r h) (hp : r.pairs.length ≤ maxLen) (ht : r.types.length ≤ maxLen) (hi : r.items.length ≤ maxLen) (hg : ErrT w) (hu : Rd w a us.length us) (hm : us.length ≤ maxLen) :
 Calls Tryz.prog 3 #[reqVal r h, .agg #[.int .i64 t, .int .i64 p, .slice a us.length c]] w fun e w' => e = .returned (.bool true) ∧ Below w.heap.size w w' := by
 by_cases hs : (1048576 : Int) - r.pairs.length - r.types.length - r.items.length < 0
 · unfold reqVal
   go_enter Tryz.func3, Tryz.ntmps3
   go_wp2_with fail
   refine (szRequest_any r h _ _ (by omega) (by omega) hp ht hi).mono ?_
   rintro e w1 ⟨rfl, hb1⟩
   rw [if_pos (by omega)]
   have H1 : Hid (Below w.heap.size w w1) := (((Below.refl w.heap.size w).alloc (Nat.le_refl _) _).alloc (by simp) _).trans (hb1.mono (by simp; omega))
   clear hb1
   go_wp2_with fail
   go_ret
   exact ⟨rfl, unhide H1⟩
 have hsm : r.small := by unfold ReqV.small; omega
 have htl : r.types.length ≤ 1048600 := by unfold ReqV.small at hsm; omega
 unfold reqVal
 go_enter Tryz.func3, Tryz.ntmps3
 go_wp2_with fail
 generalize hW : ((w.alloc (.cells #[.int .i64 r.way, .int .i64 r.pal.wd, .int .i64 r.pal.dp, .int .i64 r.pal.ht, .int .i64 r.pal.gram, .int .i64 r.classes, .slice h.ap r.pairs.length h.cp, .slice h.at' r.types.length h.ct, .int .i64 r.master, .slice h.ai r.items.length h.ci] 28)).alloc (.cells #[.int .i64 t, .int .i64 p, .slice a us.length c] 31)) = wA at *
 obtain ⟨BwA, KawA, ZawA, KbwA, ZbwA⟩ := en2 hW
 have Ga : w.heap.size ≤ w.heap.size := by omega
 have Gb : w.heap.size ≤ (w.heap.size + 1) := by omega
 have Nqab : w.heap.size ≠ (w.heap.size + 1) := by omega
 have Nqba : (w.heap.size + 1) ≠ w.heap.size := by omega
 clear hW
 have QrwA : Hid (RdReq wA r h) := hr.mono BwA.out
 have QgwA : Hid (ErrT wA) := hg.later BwA.out
 have QywA : Hid (Rd wA (a) us.length us) := hu.mono BwA.out
 have HRW := hide hr
 have HGW := hide hg
 have HUW := hide hu
 clear hr hg hu
 refine (szRequest_any r h _ _ (by omega) (by omega) hp ht hi).mono ?_
 rintro e v1 ⟨rfl, hb⟩
 have Bv1 := hide (BwA.out.trans (hb.mono BwA.out.size))
 have Kav1 := hide (Blk.below hb ZawA KawA.out)
 have Zav1 := Nat.lt_of_lt_of_le ZawA hb.size
 have Kbv1 := hide (Blk.below hb ZbwA KbwA.out)
 have Zbv1 := Nat.lt_of_lt_of_le ZbwA hb.size
 have Qrv1 : Hid (RdReq v1 r h) := QrwA.out.mono hb
 have Qgv1 : Hid (ErrT v1) := QgwA.out.later hb
 have Qyv1 : Hid (Rd v1 (a) us.length us) := Rd.mono QywA.out hb
 clear hb
 clear BwA KawA ZawA KbwA ZbwA QrwA QgwA QywA
 rw [if_neg (by omega)]
 obtain ⟨cb0, cb1, cb2⟩ := Blk.cs3 Kbv1.out
 go_wp2_with fail
 refine (szCarton_any t p a us.length c _ _ hm (by omega) (by omega)).mono ?_
 rintro e v2 ⟨rfl, hb⟩
 have Bv2 := hide (Bv1.out.trans (hb.mono Bv1.out.size))
 have Kav2 := hide (Blk.below hb Zav1 Kav1.out)
 have Zav2 := Nat.lt_of_lt_of_le Zav1 hb.size
 have Kbv2 := hide (Blk.below hb Zbv1 Kbv1.out)
 have Zbv2 := Nat.lt_of_lt_of_le Zbv1 hb.size
 have Qrv2 : Hid (RdReq v2 r h) := Qrv1.out.mono hb
 have Qgv2 : Hid (ErrT v2) := Qgv1.out.later hb
 have Qyv2 : Hid (Rd v2 (a) us.length us) := Rd.mono Qyv1.out hb
 clear hb
 clear Bv1 Kav1 Zav1 Kbv1 Zbv1 Qrv1 Qgv1 Qyv1
 clear cb0 cb1 cb2
 by_cases hbig : (1048576 : Int) - r.pairs.length - r.types.length - r.items.length - us.length < 0
 · rw [if_pos hbig]
   go_wp2_with fail
   go_ret
   exact ⟨rfl, unhide Bv2⟩
 rw [if_neg hbig]
 have hn6 : us.length ≤ 1048576 := by omega
 have hn7 : us.length ≤ 1048600 := by omega
 go_upto_region 8 with fail
 go_cut [6] (fun v wc => ∃ gb : Nat, v = .pointer (some ⟨gb, 0, none⟩) ∧ Blk wc gb [.int .i64 (boxR r ⟨t, p, us⟩).wd, .int .i64 (boxR r ⟨t, p, us⟩).dp, .int .i64 (boxR r ⟨t, p, us⟩).ht, .int .i64 (boxR r ⟨t, p, us⟩).gram] ∧ gb < wc.heap.size ∧ Blk wc w.heap.size [.int .i64 r.way, .int .i64 r.pal.wd, .int .i64 r.pal.dp, .int .i64 r.pal.ht, .int .i64 r.pal.gram, .int .i64 r.classes, .slice h.ap r.pairs.length h.cp, .slice h.at' r.types.length h.ct, .int .i64 r.master, .slice h.ai r.items.length h.ci] ∧ w.heap.size < wc.heap.size ∧ Blk wc (w.heap.size + 1) [.int .i64 t, .int .i64 p, .slice a us.length c] ∧ (w.heap.size + 1) < wc.heap.size ∧ RdReq wc r h ∧ ErrT wc ∧ Rd wc (a) us.length us ∧ Below w.heap.size w wc)
 case first =>
  refine wp_region_noPanic ?_
  have Bu0 : Hid (Below w.heap.size w v2.drew) := Bv2.out.drew
  have Qru0 : Hid (RdReq v2.drew r h) := Qrv2.out.mono (Below.refl _ _).drew
  have Qgu0 : Hid (ErrT v2.drew) := Qgv2.out.later (Below.refl _ _).drew
  have Qyu0 : Hid (Rd v2.drew (a) us.length us) := Rd.mono Qyv2.out (Below.refl _ _).drew
  have Kau0 : Hid (Blk v2.drew w.heap.size [.int .i64 r.way, .int .i64 r.pal.wd, .int .i64 r.pal.dp, .int .i64 r.pal.ht, .int .i64 r.pal.gram, .int .i64 r.classes, .slice h.ap r.pairs.length h.cp, .slice h.at' r.types.length h.ct, .int .i64 r.master, .slice h.ai r.items.length h.ci]) := unhide Kav2
  have Zau0 : w.heap.size < v2.drew.heap.size := Zav2
  have Kbu0 : Hid (Blk v2.drew (w.heap.size + 1) [.int .i64 t, .int .i64 p, .slice a us.length c]) := unhide Kbv2
  have Zbu0 : (w.heap.size + 1) < v2.drew.heap.size := Zbv2
  obtain ⟨S, hSdef⟩ : ∃ S : World → Prop, S = (fun w' => RqC w' w.heap.size r h ∧ w'.cell? ⟨(w.heap.size + 1), 0, none⟩ = some (.int .i64 t) ∧ w'.cell? ⟨(w.heap.size + 1), 1, none⟩ = some (.int .i64 p) ∧ w'.cell? ⟨(w.heap.size + 1), 2, none⟩ = some (.slice a us.length c)) := ⟨_, rfl⟩
  have hSmk : ∀ wq, Blk wq w.heap.size [.int .i64 r.way, .int .i64 r.pal.wd, .int .i64 r.pal.dp, .int .i64 r.pal.ht, .int .i64 r.pal.gram, .int .i64 r.classes, .slice h.ap r.pairs.length h.cp, .slice h.at' r.types.length h.ct, .int .i64 r.master, .slice h.ai r.items.length h.ci] → Blk wq (w.heap.size + 1) [.int .i64 t, .int .i64 p, .slice a us.length c] → S wq := fun wq ka kb => by rw [hSdef]; exact ⟨RqC.of ka, (kb 0 (by simp)).1, (kb 1 (by simp)).1, (kb 2 (by simp)).1⟩
  have hSd : ∀ wq, S wq → (fun w' => RqC w' w.heap.size r h ∧ w'.cell? ⟨(w.heap.size + 1), 0, none⟩ = some (.int .i64 t) ∧ w'.cell? ⟨(w.heap.size + 1), 1, none⟩ = some (.int .i64 p) ∧ w'.cell? ⟨(w.heap.size + 1), 2, none⟩ = some (.slice a us.length c)) wq := fun wq h => by rw [hSdef] at h; exact h
  clear hSdef
  have hHeld : S v2.drew := hSmk v2.drew Kau0.out Kbu0.out
  refine wp_region_to (S := S) (T := []) (by kernel_rfl) hHeld (fun _ => ?_)
  generalize v2.drew = u0 at *
  refine wpTo_ts (i := 0) (v := ?_) rfl (by kernel_rfl) hSd (by rfl) (fun w hSw => ?_) (by assumption) ?_
  rotate_left
  · ((try dsimp only [RqC] at hSw); go_simp <;> with_reducible rfl)
  refine wpTo_ts (i := 2) (v := ?_) rfl (by kernel_rfl) hSd (by rfl) (fun w hSw => ?_) (by assumption) ?_
  rotate_left
  · ((try dsimp only [RqC] at hSw); go_simp <;> with_reducible rfl)
  try simp only [Act.put, zz1, zz2, zz3, zz4, zz5, zz6]
  refine wpTo_ready (rs := [1, 5]) (by kernel_rfl) (by simp) ?_
  refine AllTo.cons (o := _) rfl (fun K hK => ?_) ?_
  ·
   (try simp only [zz1, zz2, zz3])
   go_simp
   refine (toRequest_any r h u0 Qru0.out hsm).mono ?_
   rintro e u3 ⟨h1, rfl, hq, hf, hb⟩
   have Bu3 := hide (Bu0.out.trans (hb.mono Bu0.out.size))
   have Kau3 := hide (Blk.below hb Zau0 Kau0.out)
   have Zau3 := Nat.lt_of_lt_of_le Zau0 hb.size
   have Kbu3 := hide (Blk.below hb Zbu0 Kbu0.out)
   have Zbu3 := Nat.lt_of_lt_of_le Zbu0 hb.size
   have Qru3 : Hid (RdReq u3 r h) := Qru0.out.mono hb
   have Qgu3 : Hid (ErrT u3) := Qgu0.out.later hb
   have Qyu3 : Hid (Rd u3 (a) us.length us) := Rd.mono Qyu0.out hb
   have Qcu3 : Hid (RdReq u3 r h1) := hq
   clear hq hf
   clear hb
   clear Bu0 Kau0 Zau0 Kbu0 Zbu0 Qru0 Qgu0 Qyu0
   clear hHeld
   go_wp2_with fail
   have hHeld := hSmk u3 Kau3.out Kbu3.out
   refine hK.out _ _ (fun _ => hHeld) ?_
   clear hK K
   try simp only [Act.put, zz1, zz2, zz3, zz4, zz5, zz6]
   refine wpTo_ready (rs := [3, 5]) (by kernel_rfl) (by simp) ?_
   refine AllTo.cons (o := _) rfl (fun K hK => ?_) ?_
   ·
    (try simp only [zz1, zz2, zz3])
    go_simp
    refine (toCarton_any t p a c us u3 Qyu3.out hn6).mono ?_
    rintro e u4 ⟨g1, rfl, ho, hb⟩
    have Bu4 := hide (Bu3.out.trans (hb.mono Bu3.out.size))
    have Kau4 := hide (Blk.below hb Zau3 Kau3.out)
    have Zau4 := Nat.lt_of_lt_of_le Zau3 hb.size
    have Kbu4 := hide (Blk.below hb Zbu3 Kbu3.out)
    have Zbu4 := Nat.lt_of_lt_of_le Zbu3 hb.size
    have Qru4 : Hid (RdReq u4 r h) := Qru3.out.mono hb
    have Qgu4 : Hid (ErrT u4) := Qgu3.out.later hb
    have Qyu4 : Hid (Rd u4 (a) us.length us) := Rd.mono Qyu3.out hb
    have Qcu4 : Hid (RdReq u4 r h1) := Qcu3.out.mono hb
    have Qsu4 : Hid (Rd u4 (some ⟨g1, 0, none⟩) us.length us) := own_reads ho
    clear ho
    clear hb
    clear Bu3 Kau3 Zau3 Kbu3 Zbu3 Qru3 Qgu3 Qyu3 Qcu3
    clear hHeld
    go_wp2_with fail
    have hHeld := hSmk u4 Kau4.out Kbu4.out
    refine hK.out _ _ (fun _ => hHeld) ?_
    clear hK K
    try simp only [Act.put, zz1, zz2, zz3, zz4, zz5, zz6]
    refine wpTo_ready (rs := [4, 5]) (by kernel_rfl) (by simp) ?_
    refine AllTo.cons (o := _) rfl (fun K hK => ?_) ?_
    ·
     (try simp only [zz1, zz2, zz3])
     go_simp
     refine (specBoxOf_any r h1 t p _ us.length us.length us u4 Qcu4.out hsm Qsu4.out hn7).mono ?_
     rintro e u5 ⟨rfl, hb⟩
     have Bu5 := hide (Bu4.out.trans (hb.mono Bu4.out.size))
     have Kau5 := hide (Blk.below hb Zau4 Kau4.out)
     have Zau5 := Nat.lt_of_lt_of_le Zau4 hb.size
     have Kbu5 := hide (Blk.below hb Zbu4 Kbu4.out)
     have Zbu5 := Nat.lt_of_lt_of_le Zbu4 hb.size
     have Qru5 : Hid (RdReq u5 r h) := Qru4.out.mono hb
     have Qgu5 : Hid (ErrT u5) := Qgu4.out.later hb
     have Qyu5 : Hid (Rd u5 (a) us.length us) := Rd.mono Qyu4.out hb
     have Qcu5 : Hid (RdReq u5 r h1) := Qcu4.out.mono hb
     have Qsu5 : Hid (Rd u5 (some ⟨g1, 0, none⟩) us.length us) := Rd.mono Qsu4.out hb
     clear hb
     clear Bu4 Kau4 Zau4 Kbu4 Zbu4 Qru4 Qgu4 Qyu4 Qcu4 Qsu4
     clear hHeld
     go_wp2_with fail
     have hHeld := hSmk u5 Kau5.out Kbu5.out
     refine hK.out _ _ (fun _ => hHeld) ?_
     clear hK K
     try simp only [Act.put, zz1, zz2, zz3, zz4, zz5, zz6]
     refine wpTo_ready (rs := [5]) (by kernel_rfl) (by simp) ?_
     refine AllTo.cons (o := _) rfl (fun K hK => ?_) ?_
     ·
      (try simp only [zz1, zz2, zz3])
      go_simp
      clear hHeld
      generalize hW : (u5.alloc (.cells #[.int .i64 0, .int .i64 0, .int .i64 0, .int .i64 0] 34)) = u6 at *
      obtain ⟨hb, Kou6, Zou6⟩ := en1 hW
      have hb := unhide hb
      have Bu6 := hide (Bu5.out.trans (hb.mono Bu5.out.size))
      have Go : w.heap.size ≤ u5.heap.size := Bu5.out.size
      have Kau6 := hide (Blk.below hb Zau5 Kau5.out)
      have Zau6 := Nat.lt_of_lt_of_le Zau5 hb.size
      have Kbu6 := hide (Blk.below hb Zbu5 Kbu5.out)
      have Zbu6 := Nat.lt_of_lt_of_le Zbu5 hb.size
      have Qru6 : Hid (RdReq u6 r h) := Qru5.out.mono hb
      have Qgu6 : Hid (ErrT u6) := Qgu5.out.later hb
      have Qyu6 : Hid (Rd u6 (a) us.length us) := Rd.mono Qyu5.out hb
      have Qcu6 : Hid (RdReq u6 r h1) := Qcu5.out.mono hb
      have Qsu6 : Hid (Rd u6 (some ⟨g1, 0, none⟩) us.length us) := Rd.mono Qsu5.out hb
      have Nqao : w.heap.size ≠ u5.heap.size := Nat.ne_of_lt Zau5
      have Nqoa := Ne.symm Nqao
      have Nqbo : (w.heap.size + 1) ≠ u5.heap.size := Nat.ne_of_lt Zbu5
      have Nqob := Ne.symm Nqbo
      clear hb hW
      clear Bu5 Kau5 Zau5 Kbu5 Zbu5 Qru5 Qgu5 Qyu5 Qcu5 Qsu5
      have hHeld := hSmk u6 Kau6.out Kbu6.out
      refine hK.out _ _ (fun _ => hHeld) ?_
      clear hK K
      try simp only [Act.put, zz1, zz2, zz3, zz4, zz5, zz6]
      refine wpTo_ready (rs := [6]) (by kernel_rfl) (by simp) ?_
      refine AllTo.cons (o := _) rfl (fun K hK => ?_) ?_
      ·
       (try simp only [zz1, zz2, zz3])
       have p0 := (Kou6.out 0 (by simp)).1
       have q0 := (Kou6.out 0 (by simp)).2
       have p1 := (Kou6.out 1 (by simp)).1
       have q1 := (Kou6.out 1 (by simp)).2
       have p2 := (Kou6.out 2 (by simp)).1
       have q2 := (Kou6.out 2 (by simp)).2
       have p3 := (Kou6.out 3 (by simp)).1
       have q3 := (Kou6.out 3 (by simp)).2
       go_simp
       clear p0 q0 p1 q1 p2 q2 p3 q3
       clear hHeld
       generalize hW : ((((u6.setCell ⟨u5.heap.size, 0, none⟩ (.int .i64 (boxR r ⟨t, p, us⟩).wd)).setCell ⟨u5.heap.size, 1, none⟩ (.int .i64 (boxR r ⟨t, p, us⟩).dp)).setCell ⟨u5.heap.size, 2, none⟩ (.int .i64 (boxR r ⟨t, p, us⟩).ht)).setCell ⟨u5.heap.size, 3, none⟩ (.int .i64 (boxR r ⟨t, p, us⟩).gram)) = u7 at *
       have Bu7 : Hid (Below w.heap.size w u7) := by rw [← hW]; exact ((((Bu6.out.setCell Go _).setCell Go _).setCell Go _).setCell Go _)
       have Kou7 : Hid (Blk u7 u5.heap.size [.int .i64 (boxR r ⟨t, p, us⟩).wd, .int .i64 (boxR r ⟨t, p, us⟩).dp, .int .i64 (boxR r ⟨t, p, us⟩).ht, .int .i64 (boxR r ⟨t, p, us⟩).gram]) := by rw [← hW]; exact Blk.fill4 Kou6.out
       have Zou7 : u5.heap.size < u7.heap.size := by rw [← hW]; simpa using Zou6
       have Kau7 : Hid (Blk u7 w.heap.size [.int .i64 r.way, .int .i64 r.pal.wd, .int .i64 r.pal.dp, .int .i64 r.pal.ht, .int .i64 r.pal.gram, .int .i64 r.classes, .slice h.ap r.pairs.length h.cp, .slice h.at' r.types.length h.ct, .int .i64 r.master, .slice h.ai r.items.length h.ci]) := by rw [← hW]; exact ((((Kau6.out.other Nqao).other Nqao).other Nqao).other Nqao)
       have Zau7 : w.heap.size < u7.heap.size := by rw [← hW]; simpa using Zau6
       have Kbu7 : Hid (Blk u7 (w.heap.size + 1) [.int .i64 t, .int .i64 p, .slice a us.length c]) := by rw [← hW]; exact ((((Kbu6.out.other Nqbo).other Nqbo).other Nqbo).other Nqbo)
       have Zbu7 : (w.heap.size + 1) < u7.heap.size := by rw [← hW]; simpa using Zbu6
       clear hW
       clear Bu6 Kau6 Zau6 Kbu6 Zbu6 Kou6 Zou6 Qru6 Qgu6 Qyu6 Qcu6 Qsu6
       have hHeld := hSmk u7 Kau7.out Kbu7.out
       refine hK.out _ _ (fun _ => hHeld) ?_
       clear hK K
       try simp only [Act.put, zz1, zz2, zz3, zz4, zz5, zz6]
       refine wpTo_done (by kernel_rfl) ?_ _
       refine NoPanic.normal ?_
       go_wp2_with fail
       go_meet
       case rel => exact ⟨_, rfl, unhide Kou7, Zou7, unhide Kau7, Zau7, unhide Kbu7, Zbu7, HRW.out.mono Bu7.out, HGW.out.later Bu7.out, Rd.mono HUW.out Bu7.out, unhide Bu7⟩
      exact AllTo.nil
     exact AllTo.nil
    refine AllTo.cons (o := _) rfl (fun K hK => ?_) ?_
    ·
     (try simp only [zz1, zz2, zz3])
     go_simp
     clear hHeld
     generalize hW : (u4.alloc (.cells #[.int .i64 0, .int .i64 0, .int .i64 0, .int .i64 0] 34)) = u5 at *
     obtain ⟨hb, Kou5, Zou5⟩ := en1 hW
     have hb := unhide hb
     have Bu5 := hide (Bu4.out.trans (hb.mono Bu4.out.size))
     have Go : w.heap.size ≤ u4.heap.size := Bu4.out.size
     have Kau5 := hide (Blk.below hb Zau4 Kau4.out)
     have Zau5 := Nat.lt_of_lt_of_le Zau4 hb.size
     have Kbu5 := hide (Blk.below hb Zbu4 Kbu4.out)
     have Zbu5 := Nat.lt_of_lt_of_le Zbu4 hb.size
     have Qru5 : Hid (RdReq u5 r h) := Qru4.out.mono hb
     have Qgu5 : Hid (ErrT u5) := Qgu4.out.later hb
     have Qyu5 : Hid (Rd u5 (a) us.length us) := Rd.mono Qyu4.out hb
     have Qcu5 : Hid (RdReq u5 r h1) := Qcu4.out.mono hb
     have Qsu5 : Hid (Rd u5 (some ⟨g1, 0, none⟩) us.length us) := Rd.mono Qsu4.out hb
     have Nqao : w.heap.size ≠ u4.heap.size := Nat.ne_of_lt Zau4
     have Nqoa := Ne.symm Nqao
     have Nqbo : (w.heap.size + 1) ≠ u4.heap.size := Nat.ne_of_lt Zbu4
     have Nqob := Ne.symm Nqbo
     clear hb hW
     clear Bu4 Kau4 Zau4 Kbu4 Zbu4 Qru4 Qgu4 Qyu4 Qcu4 Qsu4
     have hHeld := hSmk u5 Kau5.out Kbu5.out
     refine hK.out _ _ (fun _ => hHeld) ?_
     clear hK K
     try simp only [Act.put, zz1, zz2, zz3, zz4, zz5, zz6]
     refine wpTo_ready (rs := [4]) (by kernel_rfl) (by simp) ?_
     refine AllTo.cons (o := _) rfl (fun K hK => ?_) ?_
     ·
      (try simp only [zz1, zz2, zz3])
      go_simp
      refine (specBoxOf_any r h1 t p _ us.length us.length us u5 Qcu5.out hsm Qsu5.out hn7).mono ?_
      rintro e u6 ⟨rfl, hb⟩
      have Bu6 := hide (Bu5.out.trans (hb.mono Bu5.out.size))
      have Kau6 := hide (Blk.below hb Zau5 Kau5.out)
      have Zau6 := Nat.lt_of_lt_of_le Zau5 hb.size
      have Kbu6 := hide (Blk.below hb Zbu5 Kbu5.out)
      have Zbu6 := Nat.lt_of_lt_of_le Zbu5 hb.size
      have Kou6 := hide (Blk.below hb Zou5 Kou5.out)
      have Zou6 := Nat.lt_of_lt_of_le Zou5 hb.size
      have Qru6 : Hid (RdReq u6 r h) := Qru5.out.mono hb
      have Qgu6 : Hid (ErrT u6) := Qgu5.out.later hb
      have Qyu6 : Hid (Rd u6 (a) us.length us) := Rd.mono Qyu5.out hb
      have Qcu6 : Hid (RdReq u6 r h1) := Qcu5.out.mono hb
      have Qsu6 : Hid (Rd u6 (some ⟨g1, 0, none⟩) us.length us) := Rd.mono Qsu5.out hb
      clear hb
      clear Bu5 Kau5 Zau5 Kbu5 Zbu5 Kou5 Zou5 Qru5 Qgu5 Qyu5 Qcu5 Qsu5
      clear hHeld
      go_wp2_with fail
      have hHeld := hSmk u6 Kau6.out Kbu6.out
      refine hK.out _ _ (fun _ => hHeld) ?_
      clear hK K
      try simp only [Act.put, zz1, zz2, zz3, zz4, zz5, zz6]
      refine wpTo_ready (rs := [6]) (by kernel_rfl) (by simp) ?_
      refine AllTo.cons (o := _) rfl (fun K hK => ?_) ?_
      ·
       (try simp only [zz1, zz2, zz3])
       have p0 := (Kou6.out 0 (by simp)).1
       have q0 := (Kou6.out 0 (by simp)).2
       have p1 := (Kou6.out 1 (by simp)).1
       have q1 := (Kou6.out 1 (by simp)).2
       have p2 := (Kou6.out 2 (by simp)).1
       have q2 := (Kou6.out 2 (by simp)).2
       have p3 := (Kou6.out 3 (by simp)).1
       have q3 := (Kou6.out 3 (by simp)).2
       go_simp
       clear p0 q0 p1 q1 p2 q2 p3 q3
       clear hHeld
       generalize hW : ((((u6.setCell ⟨u4.heap.size, 0, none⟩ (.int .i64 (boxR r ⟨t, p, us⟩).wd)).setCell ⟨u4.heap.size, 1, none⟩ (.int .i64 (boxR r ⟨t, p, us⟩).dp)).setCell ⟨u4.heap.size, 2, none⟩ (.int .i64 (boxR r ⟨t, p, us⟩).ht)).setCell ⟨u4.heap.size, 3, none⟩ (.int .i64 (boxR r ⟨t, p, us⟩).gram)) = u7 at *
       have Bu7 : Hid (Below w.heap.size w u7) := by rw [← hW]; exact ((((Bu6.out.setCell Go _).setCell Go _).setCell Go _).setCell Go _)
       have Kou7 : Hid (Blk u7 u4.heap.size [.int .i64 (boxR r ⟨t, p, us⟩).wd, .int .i64 (boxR r ⟨t, p, us⟩).dp, .int .i64 (boxR r ⟨t, p, us⟩).ht, .int .i64 (boxR r ⟨t, p, us⟩).gram]) := by rw [← hW]; exact Blk.fill4 Kou6.out
       have Zou7 : u4.heap.size < u7.heap.size := by rw [← hW]; simpa using Zou6
       have Kau7 : Hid (Blk u7 w.heap.size [.int .i64 r.way, .int .i64 r.pal.wd, .int .i64 r.pal.dp, .int .i64 r.pal.ht, .int .i64 r.pal.gram, .int .i64 r.classes, .slice h.ap r.pairs.length h.cp, .slice h.at' r.types.length h.ct, .int .i64 r.master, .slice h.ai r.items.length h.ci]) := by rw [← hW]; exact ((((Kau6.out.other Nqao).other Nqao).other Nqao).other Nqao)
       have Zau7 : w.heap.size < u7.heap.size := by rw [← hW]; simpa using Zau6
       have Kbu7 : Hid (Blk u7 (w.heap.size + 1) [.int .i64 t, .int .i64 p, .slice a us.length c]) := by rw [← hW]; exact ((((Kbu6.out.other Nqbo).other Nqbo).other Nqbo).other Nqbo)
       have Zbu7 : (w.heap.size + 1) < u7.heap.size := by rw [← hW]; simpa using Zbu6
       clear hW
       clear Bu6 Kau6 Zau6 Kbu6 Zbu6 Kou6 Zou6 Qru6 Qgu6 Qyu6 Qcu6 Qsu6
       have hHeld := hSmk u7 Kau7.out Kbu7.out
       refine hK.out _ _ (fun _ => hHeld) ?_
       clear hK K
       try simp only [Act.put, zz1, zz2, zz3, zz4, zz5, zz6]
       refine wpTo_done (by kernel_rfl) ?_ _
       refine NoPanic.normal ?_
       go_wp2_with fail
       go_meet
       case rel => exact ⟨_, rfl, unhide Kou7, Zou7, unhide Kau7, Zau7, unhide Kbu7, Zbu7, HRW.out.mono Bu7.out, HGW.out.later Bu7.out, Rd.mono HUW.out Bu7.out, unhide Bu7⟩
      exact AllTo.nil
     exact AllTo.nil
    exact AllTo.nil
   refine AllTo.cons (o := _) rfl (fun K hK => ?_) ?_
   ·
    (try simp only [zz1, zz2, zz3])
    go_simp
    clear hHeld
    generalize hW : (u3.alloc (.cells #[.int .i64 0, .int .i64 0, .int .i64 0, .int .i64 0] 34)) = u4 at *
    obtain ⟨hb, Kou4, Zou4⟩ := en1 hW
    have hb := unhide hb
    have Bu4 := hide (Bu3.out.trans (hb.mono Bu3.out.size))
    have Go : w.heap.size ≤ u3.heap.size := Bu3.out.size
    have Kau4 := hide (Blk.below hb Zau3 Kau3.out)
    have Zau4 := Nat.lt_of_lt_of_le Zau3 hb.size
    have Kbu4 := hide (Blk.below hb Zbu3 Kbu3.out)
    have Zbu4 := Nat.lt_of_lt_of_le Zbu3 hb.size
    have Qru4 : Hid (RdReq u4 r h) := Qru3.out.mono hb
    have Qgu4 : Hid (ErrT u4) := Qgu3.out.later hb
    have Qyu4 : Hid (Rd u4 (a) us.length us) := Rd.mono Qyu3.out hb
    have Qcu4 : Hid (RdReq u4 r h1) := Qcu3.out.mono hb
    have Nqao : w.heap.size ≠ u3.heap.size := Nat.ne_of_lt Zau3
    have Nqoa := Ne.symm Nqao
    have Nqbo : (w.heap.size + 1) ≠ u3.heap.size := Nat.ne_of_lt Zbu3
    have Nqob := Ne.symm Nqbo
    clear hb hW
    clear Bu3 Kau3 Zau3 Kbu3 Zbu3 Qru3 Qgu3 Qyu3 Qcu3
    have hHeld := hSmk u4 Kau4.out Kbu4.out
    refine hK.out _ _ (fun _ => hHeld) ?_
    clear hK K
    try simp only [Act.put, zz1, zz2, zz3, zz4, zz5, zz6]
    refine wpTo_ready (rs := [3]) (by kernel_rfl) (by simp) ?_
    refine AllTo.cons (o := _) rfl (fun K hK => ?_) ?_
    ·
     (try simp only [zz1, zz2, zz3])
     go_simp
     refine (toCarton_any t p a c us u4 Qyu4.out hn6).mono ?_
     rintro e u5 ⟨g1, rfl, ho, hb⟩
     have Bu5 := hide (Bu4.out.trans (hb.mono Bu4.out.size))
     have Kau5 := hide (Blk.below hb Zau4 Kau4.out)
     have Zau5 := Nat.lt_of_lt_of_le Zau4 hb.size
     have Kbu5 := hide (Blk.below hb Zbu4 Kbu4.out)
     have Zbu5 := Nat.lt_of_lt_of_le Zbu4 hb.size
     have Kou5 := hide (Blk.below hb Zou4 Kou4.out)
     have Zou5 := Nat.lt_of_lt_of_le Zou4 hb.size
     have Qru5 : Hid (RdReq u5 r h) := Qru4.out.mono hb
     have Qgu5 : Hid (ErrT u5) := Qgu4.out.later hb
     have Qyu5 : Hid (Rd u5 (a) us.length us) := Rd.mono Qyu4.out hb
     have Qcu5 : Hid (RdReq u5 r h1) := Qcu4.out.mono hb
     have Qsu5 : Hid (Rd u5 (some ⟨g1, 0, none⟩) us.length us) := own_reads ho
     clear ho
     clear hb
     clear Bu4 Kau4 Zau4 Kbu4 Zbu4 Kou4 Zou4 Qru4 Qgu4 Qyu4 Qcu4
     clear hHeld
     go_wp2_with fail
     have hHeld := hSmk u5 Kau5.out Kbu5.out
     refine hK.out _ _ (fun _ => hHeld) ?_
     clear hK K
     try simp only [Act.put, zz1, zz2, zz3, zz4, zz5, zz6]
     refine wpTo_ready (rs := [4]) (by kernel_rfl) (by simp) ?_
     refine AllTo.cons (o := _) rfl (fun K hK => ?_) ?_
     ·
      (try simp only [zz1, zz2, zz3])
      go_simp
      refine (specBoxOf_any r h1 t p _ us.length us.length us u5 Qcu5.out hsm Qsu5.out hn7).mono ?_
      rintro e u6 ⟨rfl, hb⟩
      have Bu6 := hide (Bu5.out.trans (hb.mono Bu5.out.size))
      have Kau6 := hide (Blk.below hb Zau5 Kau5.out)
      have Zau6 := Nat.lt_of_lt_of_le Zau5 hb.size
      have Kbu6 := hide (Blk.below hb Zbu5 Kbu5.out)
      have Zbu6 := Nat.lt_of_lt_of_le Zbu5 hb.size
      have Kou6 := hide (Blk.below hb Zou5 Kou5.out)
      have Zou6 := Nat.lt_of_lt_of_le Zou5 hb.size
      have Qru6 : Hid (RdReq u6 r h) := Qru5.out.mono hb
      have Qgu6 : Hid (ErrT u6) := Qgu5.out.later hb
      have Qyu6 : Hid (Rd u6 (a) us.length us) := Rd.mono Qyu5.out hb
      have Qcu6 : Hid (RdReq u6 r h1) := Qcu5.out.mono hb
      have Qsu6 : Hid (Rd u6 (some ⟨g1, 0, none⟩) us.length us) := Rd.mono Qsu5.out hb
      clear hb
      clear Bu5 Kau5 Zau5 Kbu5 Zbu5 Kou5 Zou5 Qru5 Qgu5 Qyu5 Qcu5 Qsu5
      clear hHeld
      go_wp2_with fail
      have hHeld := hSmk u6 Kau6.out Kbu6.out
      refine hK.out _ _ (fun _ => hHeld) ?_
      clear hK K
      try simp only [Act.put, zz1, zz2, zz3, zz4, zz5, zz6]
      refine wpTo_ready (rs := [6]) (by kernel_rfl) (by simp) ?_
      refine AllTo.cons (o := _) rfl (fun K hK => ?_) ?_
      ·
       (try simp only [zz1, zz2, zz3])
       have p0 := (Kou6.out 0 (by simp)).1
       have q0 := (Kou6.out 0 (by simp)).2
       have p1 := (Kou6.out 1 (by simp)).1
       have q1 := (Kou6.out 1 (by simp)).2
       have p2 := (Kou6.out 2 (by simp)).1
       have q2 := (Kou6.out 2 (by simp)).2
       have p3 := (Kou6.out 3 (by simp)).1
       have q3 := (Kou6.out 3 (by simp)).2
       go_simp
       clear p0 q0 p1 q1 p2 q2 p3 q3
       clear hHeld
       generalize hW : ((((u6.setCell ⟨u3.heap.size, 0, none⟩ (.int .i64 (boxR r ⟨t, p, us⟩).wd)).setCell ⟨u3.heap.size, 1, none⟩ (.int .i64 (boxR r ⟨t, p, us⟩).dp)).setCell ⟨u3.heap.size, 2, none⟩ (.int .i64 (boxR r ⟨t, p, us⟩).ht)).setCell ⟨u3.heap.size, 3, none⟩ (.int .i64 (boxR r ⟨t, p, us⟩).gram)) = u7 at *
       have Bu7 : Hid (Below w.heap.size w u7) := by rw [← hW]; exact ((((Bu6.out.setCell Go _).setCell Go _).setCell Go _).setCell Go _)
       have Kou7 : Hid (Blk u7 u3.heap.size [.int .i64 (boxR r ⟨t, p, us⟩).wd, .int .i64 (boxR r ⟨t, p, us⟩).dp, .int .i64 (boxR r ⟨t, p, us⟩).ht, .int .i64 (boxR r ⟨t, p, us⟩).gram]) := by rw [← hW]; exact Blk.fill4 Kou6.out
       have Zou7 : u3.heap.size < u7.heap.size := by rw [← hW]; simpa using Zou6
       have Kau7 : Hid (Blk u7 w.heap.size [.int .i64 r.way, .int .i64 r.pal.wd, .int .i64 r.pal.dp, .int .i64 r.pal.ht, .int .i64 r.pal.gram, .int .i64 r.classes, .slice h.ap r.pairs.length h.cp, .slice h.at' r.types.length h.ct, .int .i64 r.master, .slice h.ai r.items.length h.ci]) := by rw [← hW]; exact ((((Kau6.out.other Nqao).other Nqao).other Nqao).other Nqao)
       have Zau7 : w.heap.size < u7.heap.size := by rw [← hW]; simpa using Zau6
       have Kbu7 : Hid (Blk u7 (w.heap.size + 1) [.int .i64 t, .int .i64 p, .slice a us.length c]) := by rw [← hW]; exact ((((Kbu6.out.other Nqbo).other Nqbo).other Nqbo).other Nqbo)
       have Zbu7 : (w.heap.size + 1) < u7.heap.size := by rw [← hW]; simpa using Zbu6
       clear hW
       clear Bu6 Kau6 Zau6 Kbu6 Zbu6 Kou6 Zou6 Qru6 Qgu6 Qyu6 Qcu6 Qsu6
       have hHeld := hSmk u7 Kau7.out Kbu7.out
       refine hK.out _ _ (fun _ => hHeld) ?_
       clear hK K
       try simp only [Act.put, zz1, zz2, zz3, zz4, zz5, zz6]
       refine wpTo_done (by kernel_rfl) ?_ _
       refine NoPanic.normal ?_
       go_wp2_with fail
       go_meet
       case rel => exact ⟨_, rfl, unhide Kou7, Zou7, unhide Kau7, Zau7, unhide Kbu7, Zbu7, HRW.out.mono Bu7.out, HGW.out.later Bu7.out, Rd.mono HUW.out Bu7.out, unhide Bu7⟩
      exact AllTo.nil
     exact AllTo.nil
    exact AllTo.nil
   exact AllTo.nil
  refine AllTo.cons (o := _) rfl (fun K hK => ?_) ?_
  ·
   (try simp only [zz1, zz2, zz3])
   go_simp
   clear hHeld
   generalize hW : (u0.alloc (.cells #[.int .i64 0, .int .i64 0, .int .i64 0, .int .i64 0] 34)) = u3 at *
   obtain ⟨hb, Kou3, Zou3⟩ := en1 hW
   have hb := unhide hb
   have Bu3 := hide (Bu0.out.trans (hb.mono Bu0.out.size))
   have Go : w.heap.size ≤ u0.heap.size := Bu0.out.size
   have Kau3 := hide (Blk.below hb Zau0 Kau0.out)
   have Zau3 := Nat.lt_of_lt_of_le Zau0 hb.size
   have Kbu3 := hide (Blk.below hb Zbu0 Kbu0.out)
   have Zbu3 := Nat.lt_of_lt_of_le Zbu0 hb.size
   have Qru3 : Hid (RdReq u3 r h) := Qru0.out.mono hb
   have Qgu3 : Hid (ErrT u3) := Qgu0.out.later hb
   have Qyu3 : Hid (Rd u3 (a) us.length us) := Rd.mono Qyu0.out hb
   have Nqao : w.heap.size ≠ u0.heap.size := Nat.ne_of_lt Zau0
   have Nqoa := Ne.symm Nqao
   have Nqbo : (w.heap.size + 1) ≠ u0.heap.size := Nat.ne_of_lt Zbu0
   have Nqob := Ne.symm Nqbo
   clear hb hW
   clear Bu0 Kau0 Zau0 Kbu0 Zbu0 Qru0 Qgu0 Qyu0
   have hHeld := hSmk u3 Kau3.out Kbu3.out
   refine hK.out _ _ (fun _ => hHeld) ?_
   clear hK K
   try simp only [Act.put, zz1, zz2, zz3, zz4, zz5, zz6]
   refine wpTo_ready (rs := [1]) (by kernel_rfl) (by simp) ?_
   refine AllTo.cons (o := _) rfl (fun K hK => ?_) ?_
   ·
    (try simp only [zz1, zz2, zz3])
    go_simp
    refine (toRequest_any r h u3 Qru3.out hsm).mono ?_
    rintro e u4 ⟨h1, rfl, hq, hf, hb⟩
    have Bu4 := hide (Bu3.out.trans (hb.mono Bu3.out.size))
    have Kau4 := hide (Blk.below hb Zau3 Kau3.out)
    have Zau4 := Nat.lt_of_lt_of_le Zau3 hb.size
    have Kbu4 := hide (Blk.below hb Zbu3 Kbu3.out)
    have Zbu4 := Nat.lt_of_lt_of_le Zbu3 hb.size
    have Kou4 := hide (Blk.below hb Zou3 Kou3.out)
    have Zou4 := Nat.lt_of_lt_of_le Zou3 hb.size
    have Qru4 : Hid (RdReq u4 r h) := Qru3.out.mono hb
    have Qgu4 : Hid (ErrT u4) := Qgu3.out.later hb
    have Qyu4 : Hid (Rd u4 (a) us.length us) := Rd.mono Qyu3.out hb
    have Qcu4 : Hid (RdReq u4 r h1) := hq
    clear hq hf
    clear hb
    clear Bu3 Kau3 Zau3 Kbu3 Zbu3 Kou3 Zou3 Qru3 Qgu3 Qyu3
    clear hHeld
    go_wp2_with fail
    have hHeld := hSmk u4 Kau4.out Kbu4.out
    refine hK.out _ _ (fun _ => hHeld) ?_
    clear hK K
    try simp only [Act.put, zz1, zz2, zz3, zz4, zz5, zz6]
    refine wpTo_ready (rs := [3]) (by kernel_rfl) (by simp) ?_
    refine AllTo.cons (o := _) rfl (fun K hK => ?_) ?_
    ·
     (try simp only [zz1, zz2, zz3])
     go_simp
     refine (toCarton_any t p a c us u4 Qyu4.out hn6).mono ?_
     rintro e u5 ⟨g1, rfl, ho, hb⟩
     have Bu5 := hide (Bu4.out.trans (hb.mono Bu4.out.size))
     have Kau5 := hide (Blk.below hb Zau4 Kau4.out)
     have Zau5 := Nat.lt_of_lt_of_le Zau4 hb.size
     have Kbu5 := hide (Blk.below hb Zbu4 Kbu4.out)
     have Zbu5 := Nat.lt_of_lt_of_le Zbu4 hb.size
     have Kou5 := hide (Blk.below hb Zou4 Kou4.out)
     have Zou5 := Nat.lt_of_lt_of_le Zou4 hb.size
     have Qru5 : Hid (RdReq u5 r h) := Qru4.out.mono hb
     have Qgu5 : Hid (ErrT u5) := Qgu4.out.later hb
     have Qyu5 : Hid (Rd u5 (a) us.length us) := Rd.mono Qyu4.out hb
     have Qcu5 : Hid (RdReq u5 r h1) := Qcu4.out.mono hb
     have Qsu5 : Hid (Rd u5 (some ⟨g1, 0, none⟩) us.length us) := own_reads ho
     clear ho
     clear hb
     clear Bu4 Kau4 Zau4 Kbu4 Zbu4 Kou4 Zou4 Qru4 Qgu4 Qyu4 Qcu4
     clear hHeld
     go_wp2_with fail
     have hHeld := hSmk u5 Kau5.out Kbu5.out
     refine hK.out _ _ (fun _ => hHeld) ?_
     clear hK K
     try simp only [Act.put, zz1, zz2, zz3, zz4, zz5, zz6]
     refine wpTo_ready (rs := [4]) (by kernel_rfl) (by simp) ?_
     refine AllTo.cons (o := _) rfl (fun K hK => ?_) ?_
     ·
      (try simp only [zz1, zz2, zz3])
      go_simp
      refine (specBoxOf_any r h1 t p _ us.length us.length us u5 Qcu5.out hsm Qsu5.out hn7).mono ?_
      rintro e u6 ⟨rfl, hb⟩
      have Bu6 := hide (Bu5.out.trans (hb.mono Bu5.out.size))
      have Kau6 := hide (Blk.below hb Zau5 Kau5.out)
      have Zau6 := Nat.lt_of_lt_of_le Zau5 hb.size
      have Kbu6 := hide (Blk.below hb Zbu5 Kbu5.out)
      have Zbu6 := Nat.lt_of_lt_of_le Zbu5 hb.size
      have Kou6 := hide (Blk.below hb Zou5 Kou5.out)
      have Zou6 := Nat.lt_of_lt_of_le Zou5 hb.size
      have Qru6 : Hid (RdReq u6 r h) := Qru5.out.mono hb
      have Qgu6 : Hid (ErrT u6) := Qgu5.out.later hb
      have Qyu6 : Hid (Rd u6 (a) us.length us) := Rd.mono Qyu5.out hb
      have Qcu6 : Hid (RdReq u6 r h1) := Qcu5.out.mono hb
      have Qsu6 : Hid (Rd u6 (some ⟨g1, 0, none⟩) us.length us) := Rd.mono Qsu5.out hb
      clear hb
      clear Bu5 Kau5 Zau5 Kbu5 Zbu5 Kou5 Zou5 Qru5 Qgu5 Qyu5 Qcu5 Qsu5
      clear hHeld
      go_wp2_with fail
      have hHeld := hSmk u6 Kau6.out Kbu6.out
      refine hK.out _ _ (fun _ => hHeld) ?_
      clear hK K
      try simp only [Act.put, zz1, zz2, zz3, zz4, zz5, zz6]
      refine wpTo_ready (rs := [6]) (by kernel_rfl) (by simp) ?_
      refine AllTo.cons (o := _) rfl (fun K hK => ?_) ?_
      ·
       (try simp only [zz1, zz2, zz3])
       have p0 := (Kou6.out 0 (by simp)).1
       have q0 := (Kou6.out 0 (by simp)).2
       have p1 := (Kou6.out 1 (by simp)).1
       have q1 := (Kou6.out 1 (by simp)).2
       have p2 := (Kou6.out 2 (by simp)).1
       have q2 := (Kou6.out 2 (by simp)).2
       have p3 := (Kou6.out 3 (by simp)).1
       have q3 := (Kou6.out 3 (by simp)).2
       go_simp
       clear p0 q0 p1 q1 p2 q2 p3 q3
       clear hHeld
       generalize hW : ((((u6.setCell ⟨u0.heap.size, 0, none⟩ (.int .i64 (boxR r ⟨t, p, us⟩).wd)).setCell ⟨u0.heap.size, 1, none⟩ (.int .i64 (boxR r ⟨t, p, us⟩).dp)).setCell ⟨u0.heap.size, 2, none⟩ (.int .i64 (boxR r ⟨t, p, us⟩).ht)).setCell ⟨u0.heap.size, 3, none⟩ (.int .i64 (boxR r ⟨t, p, us⟩).gram)) = u7 at *
       have Bu7 : Hid (Below w.heap.size w u7) := by rw [← hW]; exact ((((Bu6.out.setCell Go _).setCell Go _).setCell Go _).setCell Go _)
       have Kou7 : Hid (Blk u7 u0.heap.size [.int .i64 (boxR r ⟨t, p, us⟩).wd, .int .i64 (boxR r ⟨t, p, us⟩).dp, .int .i64 (boxR r ⟨t, p, us⟩).ht, .int .i64 (boxR r ⟨t, p, us⟩).gram]) := by rw [← hW]; exact Blk.fill4 Kou6.out
       have Zou7 : u0.heap.size < u7.heap.size := by rw [← hW]; simpa using Zou6
       have Kau7 : Hid (Blk u7 w.heap.size [.int .i64 r.way, .int .i64 r.pal.wd, .int .i64 r.pal.dp, .int .i64 r.pal.ht, .int .i64 r.pal.gram, .int .i64 r.classes, .slice h.ap r.pairs.length h.cp, .slice h.at' r.types.length h.ct, .int .i64 r.master, .slice h.ai r.items.length h.ci]) := by rw [← hW]; exact ((((Kau6.out.other Nqao).other Nqao).other Nqao).other Nqao)
       have Zau7 : w.heap.size < u7.heap.size := by rw [← hW]; simpa using Zau6
       have Kbu7 : Hid (Blk u7 (w.heap.size + 1) [.int .i64 t, .int .i64 p, .slice a us.length c]) := by rw [← hW]; exact ((((Kbu6.out.other Nqbo).other Nqbo).other Nqbo).other Nqbo)
       have Zbu7 : (w.heap.size + 1) < u7.heap.size := by rw [← hW]; simpa using Zbu6
       clear hW
       clear Bu6 Kau6 Zau6 Kbu6 Zbu6 Kou6 Zou6 Qru6 Qgu6 Qyu6 Qcu6 Qsu6
       have hHeld := hSmk u7 Kau7.out Kbu7.out
       refine hK.out _ _ (fun _ => hHeld) ?_
       clear hK K
       try simp only [Act.put, zz1, zz2, zz3, zz4, zz5, zz6]
       refine wpTo_done (by kernel_rfl) ?_ _
       refine NoPanic.normal ?_
       go_wp2_with fail
       go_meet
       case rel => exact ⟨_, rfl, unhide Kou7, Zou7, unhide Kau7, Zau7, unhide Kbu7, Zbu7, HRW.out.mono Bu7.out, HGW.out.later Bu7.out, Rd.mono HUW.out Bu7.out, unhide Bu7⟩
      exact AllTo.nil
     exact AllTo.nil
    exact AllTo.nil
   exact AllTo.nil
  exact AllTo.nil
 case rest =>
  clear Bv2 Kav2 Zav2 Kbv2 Zbv2 Qrv2 Qgv2 Qyv2
  obtain ⟨gb, rfl, ko, zo, ka, za, kb, zb, qr, qg, qy, hb⟩ := hcut
  obtain ⟨wB, hw8⟩ : ∃ w8 : World, w8 = wc := ⟨_, rfl⟩
  subst wc
  have BwB := hide hb
  have KawB := hide ka
  have ZawB : w.heap.size < wB.heap.size := za
  have KbwB := hide kb
  have ZbwB : (w.heap.size + 1) < wB.heap.size := zb
  have QrwB : Hid (RdReq wB r h) := qr
  have QgwB : Hid (ErrT wB) := qg
  have QywB : Hid (Rd wB (a) us.length us) := qy
  clear hb ka za kb zb qr qg qy
  have KowB := hide ko
  have ZowB := zo
  clear ko zo
  obtain ⟨ca0, ca1, ca2, ca3, ca4, ca5, ca6, ca7, ca8, ca9⟩ := Blk.cs10 KawB.out
  go_wp2_with fail
  refine (toRequest_any r h _ QrwB.out hsm).mono ?_
  rintro e v3 ⟨h2, rfl, hq, hf, hb⟩
  have Bv3 := hide (BwB.out.trans (hb.mono BwB.out.size))
  have Kav3 := hide (Blk.below hb ZawB KawB.out)
  have Zav3 := Nat.lt_of_lt_of_le ZawB hb.size
  have Kbv3 := hide (Blk.below hb ZbwB KbwB.out)
  have Zbv3 := Nat.lt_of_lt_of_le ZbwB hb.size
  have Kov3 := hide (Blk.below hb ZowB KowB.out)
  have Zov3 := Nat.lt_of_lt_of_le ZowB hb.size
  have Qrv3 : Hid (RdReq v3 r h) := QrwB.out.mono hb
  have Qgv3 : Hid (ErrT v3) := QgwB.out.later hb
  have Qyv3 : Hid (Rd v3 (a) us.length us) := Rd.mono QywB.out hb
  clear hb
  clear BwB KawB ZawB KbwB ZbwB KowB ZowB QrwB QgwB QywB
  have Qdv3 : Hid (RdReq v3 r h2) := hq
  clear hq hf ca0 ca1 ca2 ca3 ca4 ca5 ca6 ca7 ca8 ca9
  unfold reqVal
  obtain ⟨cb0, cb1, cb2⟩ := Blk.cs3 Kbv3.out
  go_wp2_with fail
  clear cb0 cb1 cb2
  generalize hW : (v3.alloc (.cells #[.int .i64 r.way, .int .i64 r.pal.wd, .int .i64 r.pal.dp, .int .i64 r.pal.ht, .int .i64 r.pal.gram, .int .i64 r.classes, .slice h2.ap r.pairs.length h2.cp, .slice h2.at' r.types.length h2.ct, .int .i64 r.master, .slice h2.ai r.items.length h2.ci] 41)) = v4 at *
  obtain ⟨hb, Kxv4, Zxv4⟩ := en1 hW
  have hb := unhide hb
  have Bv4 := hide (Bv3.out.trans (hb.mono Bv3.out.size))
  have Gx : w.heap.size ≤ v3.heap.size := Bv3.out.size
  have Kav4 := hide (Blk.below hb Zav3 Kav3.out)
  have Zav4 := Nat.lt_of_lt_of_le Zav3 hb.size
  have Kbv4 := hide (Blk.below hb Zbv3 Kbv3.out)
  have Zbv4 := Nat.lt_of_lt_of_le Zbv3 hb.size
  have Kov4 := hide (Blk.below hb Zov3 Kov3.out)
  have Zov4 := Nat.lt_of_lt_of_le Zov3 hb.size
  have Qrv4 : Hid (RdReq v4 r h) := Qrv3.out.mono hb
  have Qgv4 : Hid (ErrT v4) := Qgv3.out.later hb
  have Qyv4 : Hid (Rd v4 (a) us.length us) := Rd.mono Qyv3.out hb
  have Qdv4 : Hid (RdReq v4 r h2) := Qdv3.out.mono hb
  have Nqax : w.heap.size ≠ v3.heap.size := Nat.ne_of_lt Zav3
  have Nqxa := Ne.symm Nqax
  have Nqbx : (w.heap.size + 1) ≠ v3.heap.size := Nat.ne_of_lt Zbv3
  have Nqxb := Ne.symm Nqbx
  have Nqox : gb ≠ v3.heap.size := Nat.ne_of_lt Zov3
  have Nqxo := Ne.symm Nqox
  clear hb hW
  clear Bv3 Kav3 Zav3 Kbv3 Zbv3 Kov3 Zov3 Qrv3 Qgv3 Qyv3 Qdv3
  refine (toCarton_any t p a c us _ Qyv4.out hn6).mono ?_
  rintro e v5 ⟨g2, rfl, ho, hb⟩
  have Bv5 := hide (Bv4.out.trans (hb.mono Bv4.out.size))
  have Kav5 := hide (Blk.below hb Zav4 Kav4.out)
  have Zav5 := Nat.lt_of_lt_of_le Zav4 hb.size
  have Kbv5 := hide (Blk.below hb Zbv4 Kbv4.out)
  have Zbv5 := Nat.lt_of_lt_of_le Zbv4 hb.size
  have Kov5 := hide (Blk.below hb Zov4 Kov4.out)
  have Zov5 := Nat.lt_of_lt_of_le Zov4 hb.size
  have Kxv5 := hide (Blk.below hb Zxv4 Kxv4.out)
  have Zxv5 := Nat.lt_of_lt_of_le Zxv4 hb.size
  have Qrv5 : Hid (RdReq v5 r h) := Qrv4.out.mono hb
  have Qgv5 : Hid (ErrT v5) := Qgv4.out.later hb
  have Qyv5 : Hid (Rd v5 (a) us.length us) := Rd.mono Qyv4.out hb
  have Qdv5 : Hid (RdReq v5 r h2) := Qdv4.out.mono hb
  clear hb
  clear Bv4 Kav4 Zav4 Kbv4 Zbv4 Kov4 Zov4 Kxv4 Zxv4 Qrv4 Qgv4 Qyv4 Qdv4
  have Qvv5 : Hid (Rd v5 (some ⟨g2, 0, none⟩) us.length us) := own_reads ho
  clear ho
  obtain ⟨cx0, cx1, cx2, cx3, cx4, cx5, cx6, cx7, cx8, cx9⟩ := Blk.cs10 Kxv5.out
  go_wp2_with fail
  clear cx0 cx1 cx2 cx3 cx4 cx5 cx6 cx7 cx8 cx9
  generalize hW : (v5.alloc (.cells #[.int .i64 t, .int .i64 p, .slice (some ⟨g2, 0, none⟩) us.length us.length] 43)) = v6 at *
  obtain ⟨hb, Kzv6, Zzv6⟩ := en1 hW
  have hb := unhide hb
  have Bv6 := hide (Bv5.out.trans (hb.mono Bv5.out.size))
  have Gz : w.heap.size ≤ v5.heap.size := Bv5.out.size
  have Kav6 := hide (Blk.below hb Zav5 Kav5.out)
  have Zav6 := Nat.lt_of_lt_of_le Zav5 hb.size
  have Kbv6 := hide (Blk.below hb Zbv5 Kbv5.out)
  have Zbv6 := Nat.lt_of_lt_of_le Zbv5 hb.size
  have Kov6 := hide (Blk.below hb Zov5 Kov5.out)
  have Zov6 := Nat.lt_of_lt_of_le Zov5 hb.size
  have Kxv6 := hide (Blk.below hb Zxv5 Kxv5.out)
  have Zxv6 := Nat.lt_of_lt_of_le Zxv5 hb.size
  have Qrv6 : Hid (RdReq v6 r h) := Qrv5.out.mono hb
  have Qgv6 : Hid (ErrT v6) := Qgv5.out.later hb
  have Qyv6 : Hid (Rd v6 (a) us.length us) := Rd.mono Qyv5.out hb
  have Qdv6 : Hid (RdReq v6 r h2) := Qdv5.out.mono hb
  have Qvv6 : Hid (Rd v6 (some ⟨g2, 0, none⟩) us.length us) := Rd.mono Qvv5.out hb
  have Nqaz : w.heap.size ≠ v5.heap.size := Nat.ne_of_lt Zav5
  have Nqza := Ne.symm Nqaz
  have Nqbz : (w.heap.size + 1) ≠ v5.heap.size := Nat.ne_of_lt Zbv5
  have Nqzb := Ne.symm Nqbz
  have Nqoz : gb ≠ v5.heap.size := Nat.ne_of_lt Zov5
  have Nqzo := Ne.symm Nqoz
  have Nqxz : v3.heap.size ≠ v5.heap.size := Nat.ne_of_lt Zxv5
  have Nqzx := Ne.symm Nqxz
  clear hb hW
  clear Bv5 Kav5 Zav5 Kbv5 Zbv5 Kov5 Zov5 Kxv5 Zxv5 Qrv5 Qgv5 Qyv5 Qdv5 Qvv5
  refine (boxOf_any r h2 t p _ us.length us.length us _ Qdv6.out hsm Qgv6.out Qvv6.out hn7).mono ?_
  rintro e v7 ⟨rfl, hb⟩
  have Bv7 := hide (Bv6.out.trans (hb.mono Bv6.out.size))
  have Kav7 := hide (Blk.below hb Zav6 Kav6.out)
  have Zav7 := Nat.lt_of_lt_of_le Zav6 hb.size
  have Kbv7 := hide (Blk.below hb Zbv6 Kbv6.out)
  have Zbv7 := Nat.lt_of_lt_of_le Zbv6 hb.size
  have Kov7 := hide (Blk.below hb Zov6 Kov6.out)
  have Zov7 := Nat.lt_of_lt_of_le Zov6 hb.size
  have Kxv7 := hide (Blk.below hb Zxv6 Kxv6.out)
  have Zxv7 := Nat.lt_of_lt_of_le Zxv6 hb.size
  have Kzv7 := hide (Blk.below hb Zzv6 Kzv6.out)
  have Zzv7 := Nat.lt_of_lt_of_le Zzv6 hb.size
  have Qrv7 : Hid (RdReq v7 r h) := Qrv6.out.mono hb
  have Qgv7 : Hid (ErrT v7) := Qgv6.out.later hb
  have Qyv7 : Hid (Rd v7 (a) us.length us) := Rd.mono Qyv6.out hb
  have Qdv7 : Hid (RdReq v7 r h2) := Qdv6.out.mono hb
  have Qvv7 : Hid (Rd v7 (some ⟨g2, 0, none⟩) us.length us) := Rd.mono Qvv6.out hb
  clear hb
  clear Bv6 Kav6 Zav6 Kbv6 Zbv6 Kov6 Zov6 Kxv6 Zxv6 Kzv6 Zzv6 Qrv6 Qgv6 Qyv6 Qdv6 Qvv6
  obtain ⟨co0, co1, co2, co3⟩ := Blk.cs4 Kov7.out
  go_wp2_with fail
  clear co0 co1 co2 co3
  generalize hW : (v7.alloc (.cells #[.int .i64 (boxR r ⟨t, p, us⟩).wd, .int .i64 (boxR r ⟨t, p, us⟩).dp, .int .i64 (boxR r ⟨t, p, us⟩).ht, .int .i64 (boxR r ⟨t, p, us⟩).gram] 34)) = v8 at *
  obtain ⟨hb, Kmv8, Zmv8⟩ := en1 hW
  have hb := unhide hb
  have Bv8 := hide (Bv7.out.trans (hb.mono Bv7.out.size))
  have Gm : w.heap.size ≤ v7.heap.size := Bv7.out.size
  have Kav8 := hide (Blk.below hb Zav7 Kav7.out)
  have Zav8 := Nat.lt_of_lt_of_le Zav7 hb.size
  have Kbv8 := hide (Blk.below hb Zbv7 Kbv7.out)
  have Zbv8 := Nat.lt_of_lt_of_le Zbv7 hb.size
  have Kov8 := hide (Blk.below hb Zov7 Kov7.out)
  have Zov8 := Nat.lt_of_lt_of_le Zov7 hb.size
  have Kxv8 := hide (Blk.below hb Zxv7 Kxv7.out)
  have Zxv8 := Nat.lt_of_lt_of_le Zxv7 hb.size
  have Kzv8 := hide (Blk.below hb Zzv7 Kzv7.out)
  have Zzv8 := Nat.lt_of_lt_of_le Zzv7 hb.size
  have Qrv8 : Hid (RdReq v8 r h) := Qrv7.out.mono hb
  have Qgv8 : Hid (ErrT v8) := Qgv7.out.later hb
  have Qyv8 : Hid (Rd v8 (a) us.length us) := Rd.mono Qyv7.out hb
  have Qdv8 : Hid (RdReq v8 r h2) := Qdv7.out.mono hb
  have Qvv8 : Hid (Rd v8 (some ⟨g2, 0, none⟩) us.length us) := Rd.mono Qvv7.out hb
  have Nqam : w.heap.size ≠ v7.heap.size := Nat.ne_of_lt Zav7
  have Nqma := Ne.symm Nqam
  have Nqbm : (w.heap.size + 1) ≠ v7.heap.size := Nat.ne_of_lt Zbv7
  have Nqmb := Ne.symm Nqbm
  have Nqom : gb ≠ v7.heap.size := Nat.ne_of_lt Zov7
  have Nqmo := Ne.symm Nqom
  have Nqxm : v3.heap.size ≠ v7.heap.size := Nat.ne_of_lt Zxv7
  have Nqmx := Ne.symm Nqxm
  have Nqzm : v5.heap.size ≠ v7.heap.size := Nat.ne_of_lt Zzv7
  have Nqmz := Ne.symm Nqzm
  clear hb hW
  clear Bv7 Kav7 Zav7 Kbv7 Zbv7 Kov7 Zov7 Kxv7 Zxv7 Kzv7 Zzv7 Qrv7 Qgv7 Qyv7 Qdv7 Qvv7
  refine (eqBox_same _ _ _ _ _).mono ?_
  rintro e v9 ⟨rfl, hb⟩
  have Bv9 := hide (Bv8.out.trans (hb.mono Bv8.out.size))
  have Kav9 := hide (Blk.below hb Zav8 Kav8.out)
  have Zav9 := Nat.lt_of_lt_of_le Zav8 hb.size
  have Kbv9 := hide (Blk.below hb Zbv8 Kbv8.out)
  have Zbv9 := Nat.lt_of_lt_of_le Zbv8 hb.size
  have Kov9 := hide (Blk.below hb Zov8 Kov8.out)
  have Zov9 := Nat.lt_of_lt_of_le Zov8 hb.size
  have Kxv9 := hide (Blk.below hb Zxv8 Kxv8.out)
  have Zxv9 := Nat.lt_of_lt_of_le Zxv8 hb.size
  have Kzv9 := hide (Blk.below hb Zzv8 Kzv8.out)
  have Zzv9 := Nat.lt_of_lt_of_le Zzv8 hb.size
  have Kmv9 := hide (Blk.below hb Zmv8 Kmv8.out)
  have Zmv9 := Nat.lt_of_lt_of_le Zmv8 hb.size
  have Qrv9 : Hid (RdReq v9 r h) := Qrv8.out.mono hb
  have Qgv9 : Hid (ErrT v9) := Qgv8.out.later hb
  have Qyv9 : Hid (Rd v9 (a) us.length us) := Rd.mono Qyv8.out hb
  have Qdv9 : Hid (RdReq v9 r h2) := Qdv8.out.mono hb
  have Qvv9 : Hid (Rd v9 (some ⟨g2, 0, none⟩) us.length us) := Rd.mono Qvv8.out hb
  clear hb
  clear Bv8 Kav8 Zav8 Kbv8 Zbv8 Kov8 Zov8 Kxv8 Zxv8 Kzv8 Zzv8 Kmv8 Zmv8 Qrv8 Qgv8 Qyv8 Qdv8 Qvv8
  go_upto_region 14 with fail
  go_cut [40] (fun v wc => v = .bool false ∧ Blk wc w.heap.size [.int .i64 r.way, .int .i64 r.pal.wd, .int .i64 r.pal.dp, .int .i64 r.pal.ht, .int .i64 r.pal.gram, .int .i64 r.classes, .slice h.ap r.pairs.length h.cp, .slice h.at' r.types.length h.ct, .int .i64 r.master, .slice h.ai r.items.length h.ci] ∧ w.heap.size < wc.heap.size ∧ Blk wc (w.heap.size + 1) [.int .i64 t, .int .i64 p, .slice a us.length c] ∧ (w.heap.size + 1) < wc.heap.size ∧ Blk wc gb [.int .i64 (boxR r ⟨t, p, us⟩).wd, .int .i64 (boxR r ⟨t, p, us⟩).dp, .int .i64 (boxR r ⟨t, p, us⟩).ht, .int .i64 (boxR r ⟨t, p, us⟩).gram] ∧ gb < wc.heap.size ∧ Blk wc v3.heap.size [.int .i64 r.way, .int .i64 r.pal.wd, .int .i64 r.pal.dp, .int .i64 r.pal.ht, .int .i64 r.pal.gram, .int .i64 r.classes, .slice h2.ap r.pairs.length h2.cp, .slice h2.at' r.types.length h2.ct, .int .i64 r.master, .slice h2.ai r.items.length h2.ci] ∧ v3.heap.size < wc.heap.size ∧ Blk wc v5.heap.size [.int .i64 t, .int .i64 p, .slice (some ⟨g2, 0, none⟩) us.length us.length] ∧ v5.heap.size < wc.heap.size ∧ Blk wc v7.heap.size [.int .i64 (boxR r ⟨t, p, us⟩).wd, .int .i64 (boxR r ⟨t, p, us⟩).dp, .int .i64 (boxR r ⟨t, p, us⟩).ht, .int .i64 (boxR r ⟨t, p, us⟩).gram] ∧ v7.heap.size < wc.heap.size ∧ RdReq wc r h ∧ ErrT wc ∧ Rd wc (a) us.length us ∧ RdReq wc r h2 ∧ Rd wc (some ⟨g2, 0, none⟩) us.length us ∧ Below w.heap.size w wc)
  case first =>
   refine wp_region_noPanic ?_
   have Bu0 : Hid (Below w.heap.size w v9.drew) := Bv9.out.drew
   have Qru0 : Hid (RdReq v9.drew r h) := Qrv9.out.mono (Below.refl _ _).drew
   have Qgu0 : Hid (ErrT v9.drew) := Qgv9.out.later (Below.refl _ _).drew
   have Qyu0 : Hid (Rd v9.drew (a) us.length us) := Rd.mono Qyv9.out (Below.refl _ _).drew
   have Qdu0 : Hid (RdReq v9.drew r h2) := Qdv9.out.mono (Below.refl _ _).drew
   have Qvu0 : Hid (Rd v9.drew (some ⟨g2, 0, none⟩) us.length us) := Rd.mono Qvv9.out (Below.refl _ _).drew
   have Kau0 : Hid (Blk v9.drew w.heap.size [.int .i64 r.way, .int .i64 r.pal.wd, .int .i64 r.pal.dp, .int .i64 r.pal.ht, .int .i64 r.pal.gram, .int .i64 r.classes, .slice h.ap r.pairs.length h.cp, .slice h.at' r.types.length h.ct, .int .i64 r.master, .slice h.ai r.items.length h.ci]) := unhide Kav9
   have Zau0 : w.heap.size < v9.drew.heap.size := Zav9
   have Kbu0 : Hid (Blk v9.drew (w.heap.size + 1) [.int .i64 t, .int .i64 p, .slice a us.length c]) := unhide Kbv9
   have Zbu0 : (w.heap.size + 1) < v9.drew.heap.size := Zbv9
   have Kou0 : Hid (Blk v9.drew gb [.int .i64 (boxR r ⟨t, p, us⟩).wd, .int .i64 (boxR r ⟨t, p, us⟩).dp, .int .i64 (boxR r ⟨t, p, us⟩).ht, .int .i64 (boxR r ⟨t, p, us⟩).gram]) := unhide Kov9
   have Zou0 : gb < v9.drew.heap.size := Zov9
   have Kxu0 : Hid (Blk v9.drew v3.heap.size [.int .i64 r.way, .int .i64 r.pal.wd, .int .i64 r.pal.dp, .int .i64 r.pal.ht, .int .i64 r.pal.gram, .int .i64 r.classes, .slice h2.ap r.pairs.length h2.cp, .slice h2.at' r.types.length h2.ct, .int .i64 r.master, .slice h2.ai r.items.length h2.ci]) := unhide Kxv9
   have Zxu0 : v3.heap.size < v9.drew.heap.size := Zxv9
   have Kzu0 : Hid (Blk v9.drew v5.heap.size [.int .i64 t, .int .i64 p, .slice (some ⟨g2, 0, none⟩) us.length us.length]) := unhide Kzv9
   have Zzu0 : v5.heap.size < v9.drew.heap.size := Zzv9
   have Kmu0 : Hid (Blk v9.drew v7.heap.size [.int .i64 (boxR r ⟨t, p, us⟩).wd, .int .i64 (boxR r ⟨t, p, us⟩).dp, .int .i64 (boxR r ⟨t, p, us⟩).ht, .int .i64 (boxR r ⟨t, p, us⟩).gram]) := unhide Kmv9
   have Zmu0 : v7.heap.size < v9.drew.heap.size := Zmv9
   obtain ⟨S, hSdef⟩ : ∃ S : World → Prop, S = (fun w' => RqC w' v3.heap.size r h2 ∧ RqC w' w.heap.size r h) := ⟨_, rfl⟩
   have hSmk : ∀ wq, Blk wq v3.heap.size [.int .i64 r.way, .int .i64 r.pal.wd, .int .i64 r.pal.dp, .int .i64 r.pal.ht, .int .i64 r.pal.gram, .int .i64 r.classes, .slice h2.ap r.pairs.length h2.cp, .slice h2.at' r.types.length h2.ct, .int .i64 r.master, .slice h2.ai r.items.length h2.ci] → Blk wq w.heap.size [.int .i64 r.way, .int .i64 r.pal.wd, .int .i64 r.pal.dp, .int .i64 r.pal.ht, .int .i64 r.pal.gram, .int .i64 r.classes, .slice h.ap r.pairs.length h.cp, .slice h.at' r.types.length h.ct, .int .i64 r.master, .slice h.ai r.items.length h.ci] → S wq := fun wq kx ka => by rw [hSdef]; exact ⟨RqC.of kx, RqC.of ka⟩
   have hSd : ∀ wq, S wq → (fun w' => RqC w' v3.heap.size r h2 ∧ RqC w' w.heap.size r h) wq := fun wq h => by rw [hSdef] at h; exact h
   clear hSdef
   have hHeld : S v9.drew := hSmk v9.drew Kxu0.out Kau0.out
   refine wp_region_to (S := S) (T := []) (by kernel_rfl) hHeld (fun _ => ?_)
   generalize v9.drew = u0 at *
   refine wpTo_ts (i := 0) (v := ?_) rfl (by kernel_rfl) hSd (by rfl) (fun w hSw => ?_) (by assumption) ?_
   rotate_left
   · ((try dsimp only [RqC] at hSw); go_simp <;> with_reducible rfl)
   refine wpTo_ts (i := 1) (v := ?_) rfl (by kernel_rfl) hSd (by rfl) (fun w hSw => ?_) (by assumption) ?_
   rotate_left
   · ((try dsimp only [RqC] at hSw); go_simp <;> with_reducible rfl)
   try simp only [Act.put, zz1, zz2, zz3, zz4, zz5, zz6]
   refine wpTo_ready (rs := [2]) (by kernel_rfl) (by simp) ?_
   refine AllTo.cons (o := _) rfl (fun K hK => ?_) ?_
   ·
    (try simp only [zz1, zz2, zz3])
    go_simp
    refine (toRequest_any r h u0 Qru0.out hsm).mono ?_
    rintro e u10 ⟨h1, rfl, hq, hf, hb⟩
    have Bu10 := hide (Bu0.out.trans (hb.mono Bu0.out.size))
    have Kau10 := hide (Blk.below hb Zau0 Kau0.out)
    have Zau10 := Nat.lt_of_lt_of_le Zau0 hb.size
    have Kbu10 := hide (Blk.below hb Zbu0 Kbu0.out)
    have Zbu10 := Nat.lt_of_lt_of_le Zbu0 hb.size
    have Kou10 := hide (Blk.below hb Zou0 Kou0.out)
    have Zou10 := Nat.lt_of_lt_of_le Zou0 hb.size
    have Kxu10 := hide (Blk.below hb Zxu0 Kxu0.out)
    have Zxu10 := Nat.lt_of_lt_of_le Zxu0 hb.size
    have Kzu10 := hide (Blk.below hb Zzu0 Kzu0.out)
    have Zzu10 := Nat.lt_of_lt_of_le Zzu0 hb.size
    have Kmu10 := hide (Blk.below hb Zmu0 Kmu0.out)
    have Zmu10 := Nat.lt_of_lt_of_le Zmu0 hb.size
    have Qru10 : Hid (RdReq u10 r h) := Qru0.out.mono hb
    have Qgu10 : Hid (ErrT u10) := Qgu0.out.later hb
    have Qyu10 : Hid (Rd u10 (a) us.length us) := Rd.mono Qyu0.out hb
    have Qdu10 : Hid (RdReq u10 r h2) := Qdu0.out.mono hb
    have Qvu10 : Hid (Rd u10 (some ⟨g2, 0, none⟩) us.length us) := Rd.mono Qvu0.out hb
    have Qcu10 : Hid (RdReq u10 r h1) := hq
    clear hq hf
    clear hb
    clear Bu0 Kau0 Zau0 Kbu0 Zbu0 Kou0 Zou0 Kxu0 Zxu0 Kzu0 Zzu0 Kmu0 Zmu0 Qru0 Qgu0 Qyu0 Qdu0 Qvu0
    clear hHeld
    go_wp2_with fail
    have hHeld := hSmk u10 Kxu10.out Kau10.out
    refine hK.out _ _ (fun _ => hHeld) ?_
    clear hK K
    try simp only [Act.put, zz1, zz2, zz3, zz4, zz5, zz6]
    refine wpTo_ready (rs := [3]) (by kernel_rfl) (by simp) ?_
    refine AllTo.cons (o := _) rfl (fun K hK => ?_) ?_
    ·
     (try simp only [zz1, zz2, zz3])
     go_simp
     refine (eqRequest_same r h2 h1 u10 Qdu10.out Qcu10.out hsm).mono ?_
     rintro e u11 ⟨rfl, hb⟩
     have Bu11 := hide (Bu10.out.trans (hb.mono Bu10.out.size))
     have Kau11 := hide (Blk.below hb Zau10 Kau10.out)
     have Zau11 := Nat.lt_of_lt_of_le Zau10 hb.size
     have Kbu11 := hide (Blk.below hb Zbu10 Kbu10.out)
     have Zbu11 := Nat.lt_of_lt_of_le Zbu10 hb.size
     have Kou11 := hide (Blk.below hb Zou10 Kou10.out)
     have Zou11 := Nat.lt_of_lt_of_le Zou10 hb.size
     have Kxu11 := hide (Blk.below hb Zxu10 Kxu10.out)
     have Zxu11 := Nat.lt_of_lt_of_le Zxu10 hb.size
     have Kzu11 := hide (Blk.below hb Zzu10 Kzu10.out)
     have Zzu11 := Nat.lt_of_lt_of_le Zzu10 hb.size
     have Kmu11 := hide (Blk.below hb Zmu10 Kmu10.out)
     have Zmu11 := Nat.lt_of_lt_of_le Zmu10 hb.size
     have Qru11 : Hid (RdReq u11 r h) := Qru10.out.mono hb
     have Qgu11 : Hid (ErrT u11) := Qgu10.out.later hb
     have Qyu11 : Hid (Rd u11 (a) us.length us) := Rd.mono Qyu10.out hb
     have Qdu11 : Hid (RdReq u11 r h2) := Qdu10.out.mono hb
     have Qvu11 : Hid (Rd u11 (some ⟨g2, 0, none⟩) us.length us) := Rd.mono Qvu10.out hb
     have Qcu11 : Hid (RdReq u11 r h1) := Qcu10.out.mono hb
     clear hb
     clear Bu10 Kau10 Zau10 Kbu10 Zbu10 Kou10 Zou10 Kxu10 Zxu10 Kzu10 Zzu10 Kmu10 Zmu10 Qru10 Qgu10 Qyu10 Qdu10 Qvu10 Qcu10
     clear hHeld
     go_wp2_with fail
     have hHeld := hSmk u11 Kxu11.out Kau11.out
     refine hK.out _ _ (fun _ => hHeld) ?_
     clear hK K
     try simp only [Act.put, zz1, zz2, zz3, zz4, zz5, zz6]
     refine wpTo_ts (i := 4) (v := ?_) rfl (by kernel_rfl) hSd (by rfl) (fun w hSw => ?_) (by assumption) ?_
     rotate_left
     · ((try dsimp only [RqC] at hSw); go_simp <;> with_reducible rfl)
     try simp only [Act.put, zz1, zz2, zz3, zz4, zz5, zz6]
     refine wpTo_done (by kernel_rfl) ?_ _
     refine NoPanic.normal ?_
     go_wp2_with fail
     go_meet
     case rel => exact ⟨rfl, unhide Kau11, Zau11, unhide Kbu11, Zbu11, unhide Kou11, Zou11, unhide Kxu11, Zxu11, unhide Kzu11, Zzu11, unhide Kmu11, Zmu11, unhide Qru11, unhide Qgu11, unhide Qyu11, unhide Qdu11, unhide Qvu11, unhide Bu11⟩
    exact AllTo.nil
   exact AllTo.nil
  case rest =>
   clear Bv9 Kav9 Zav9 Kbv9 Zbv9 Kov9 Zov9 Kxv9 Zxv9 Kzv9 Zzv9 Kmv9 Zmv9 Qrv9 Qgv9 Qyv9 Qdv9 Qvv9
   obtain ⟨rfl, ka, za, kb, zb, ko, zo, kx, zx, kz, zz, km, zm, qr, qg, qy, qd, qv, hb⟩ := hcut
   obtain ⟨wC, hw8⟩ : ∃ w8 : World, w8 = wc := ⟨_, rfl⟩
   subst wc
   have BwC := hide hb
   have KawC := hide ka
   have ZawC : w.heap.size < wC.heap.size := za
   have KbwC := hide kb
   have ZbwC : (w.heap.size + 1) < wC.heap.size := zb
   have KowC := hide ko
   have ZowC : gb < wC.heap.size := zo
   have KxwC := hide kx
   have ZxwC : v3.heap.size < wC.heap.size := zx
   have KzwC := hide kz
   have ZzwC : v5.heap.size < wC.heap.size := zz
   have KmwC := hide km
   have ZmwC : v7.heap.size < wC.heap.size := zm
   have QrwC : Hid (RdReq wC r h) := qr
   have QgwC : Hid (ErrT wC) := qg
   have QywC : Hid (Rd wC (a) us.length us) := qy
   have QdwC : Hid (RdReq wC r h2) := qd
   have QvwC : Hid (Rd wC (some ⟨g2, 0, none⟩) us.length us) := qv
   clear hb ka za kb zb ko zo kx zx kz zz km zm qr qg qy qd qv
   go_upto_region 16 with fail
   go_cut [45] (fun v wc => v = .bool false ∧ Blk wc w.heap.size [.int .i64 r.way, .int .i64 r.pal.wd, .int .i64 r.pal.dp, .int .i64 r.pal.ht, .int .i64 r.pal.gram, .int .i64 r.classes, .slice h.ap r.pairs.length h.cp, .slice h.at' r.types.length h.ct, .int .i64 r.master, .slice h.ai r.items.length h.ci] ∧ w.heap.size < wc.heap.size ∧ Blk wc (w.heap.size + 1) [.int .i64 t, .int .i64 p, .slice a us.length c] ∧ (w.heap.size + 1) < wc.heap.size ∧ Blk wc gb [.int .i64 (boxR r ⟨t, p, us⟩).wd, .int .i64 (boxR r ⟨t, p, us⟩).dp, .int .i64 (boxR r ⟨t, p, us⟩).ht, .int .i64 (boxR r ⟨t, p, us⟩).gram] ∧ gb < wc.heap.size ∧ Blk wc v3.heap.size [.int .i64 r.way, .int .i64 r.pal.wd, .int .i64 r.pal.dp, .int .i64 r.pal.ht, .int .i64 r.pal.gram, .int .i64 r.classes, .slice h2.ap r.pairs.length h2.cp, .slice h2.at' r.types.length h2.ct, .int .i64 r.master, .slice h2.ai r.items.length h2.ci] ∧ v3.heap.size < wc.heap.size ∧ Blk wc v5.heap.size [.int .i64 t, .int .i64 p, .slice (some ⟨g2, 0, none⟩) us.length us.length] ∧ v5.heap.size < wc.heap.size ∧ Blk wc v7.heap.size [.int .i64 (boxR r ⟨t, p, us⟩).wd, .int .i64 (boxR r ⟨t, p, us⟩).dp, .int .i64 (boxR r ⟨t, p, us⟩).ht, .int .i64 (boxR r ⟨t, p, us⟩).gram] ∧ v7.heap.size < wc.heap.size ∧ RdReq wc r h ∧ ErrT wc ∧ Rd wc (a) us.length us ∧ RdReq wc r h2 ∧ Rd wc (some ⟨g2, 0, none⟩) us.length us ∧ Below w.heap.size w wc)
   case first =>
    refine wp_region_noPanic ?_
    have Bu0 : Hid (Below w.heap.size w wC.drew) := BwC.out.drew
    have Qru0 : Hid (RdReq wC.drew r h) := QrwC.out.mono (Below.refl _ _).drew
    have Qgu0 : Hid (ErrT wC.drew) := QgwC.out.later (Below.refl _ _).drew
    have Qyu0 : Hid (Rd wC.drew (a) us.length us) := Rd.mono QywC.out (Below.refl _ _).drew
    have Qdu0 : Hid (RdReq wC.drew r h2) := QdwC.out.mono (Below.refl _ _).drew
    have Qvu0 : Hid (Rd wC.drew (some ⟨g2, 0, none⟩) us.length us) := Rd.mono QvwC.out (Below.refl _ _).drew
    have Kau0 : Hid (Blk wC.drew w.heap.size [.int .i64 r.way, .int .i64 r.pal.wd, .int .i64 r.pal.dp, .int .i64 r.pal.ht, .int .i64 r.pal.gram, .int .i64 r.classes, .slice h.ap r.pairs.length h.cp, .slice h.at' r.types.length h.ct, .int .i64 r.master, .slice h.ai r.items.length h.ci]) := unhide KawC
    have Zau0 : w.heap.size < wC.drew.heap.size := ZawC
    have Kbu0 : Hid (Blk wC.drew (w.heap.size + 1) [.int .i64 t, .int .i64 p, .slice a us.length c]) := unhide KbwC
    have Zbu0 : (w.heap.size + 1) < wC.drew.heap.size := ZbwC
    have Kou0 : Hid (Blk wC.drew gb [.int .i64 (boxR r ⟨t, p, us⟩).wd, .int .i64 (boxR r ⟨t, p, us⟩).dp, .int .i64 (boxR r ⟨t, p, us⟩).ht, .int .i64 (boxR r ⟨t, p, us⟩).gram]) := unhide KowC
    have Zou0 : gb < wC.drew.heap.size := ZowC
    have Kxu0 : Hid (Blk wC.drew v3.heap.size [.int .i64 r.way, .int .i64 r.pal.wd, .int .i64 r.pal.dp, .int .i64 r.pal.ht, .int .i64 r.pal.gram, .int .i64 r.classes, .slice h2.ap r.pairs.length h2.cp, .slice h2.at' r.types.length h2.ct, .int .i64 r.master, .slice h2.ai r.items.length h2.ci]) := unhide KxwC
    have Zxu0 : v3.heap.size < wC.drew.heap.size := ZxwC
    have Kzu0 : Hid (Blk wC.drew v5.heap.size [.int .i64 t, .int .i64 p, .slice (some ⟨g2, 0, none⟩) us.length us.length]) := unhide KzwC
    have Zzu0 : v5.heap.size < wC.drew.heap.size := ZzwC
    have Kmu0 : Hid (Blk wC.drew v7.heap.size [.int .i64 (boxR r ⟨t, p, us⟩).wd, .int .i64 (boxR r ⟨t, p, us⟩).dp, .int .i64 (boxR r ⟨t, p, us⟩).ht, .int .i64 (boxR r ⟨t, p, us⟩).gram]) := unhide KmwC
    have Zmu0 : v7.heap.size < wC.drew.heap.size := ZmwC
    obtain ⟨S, hSdef⟩ : ∃ S : World → Prop, S = (fun w' => w'.cell? ⟨v5.heap.size, 0, none⟩ = some (.int .i64 t) ∧ w'.cell? ⟨v5.heap.size, 1, none⟩ = some (.int .i64 p) ∧ w'.cell? ⟨v5.heap.size, 2, none⟩ = some (.slice (some ⟨g2, 0, none⟩) us.length us.length) ∧ w'.cell? ⟨(w.heap.size + 1), 0, none⟩ = some (.int .i64 t) ∧ w'.cell? ⟨(w.heap.size + 1), 1, none⟩ = some (.int .i64 p) ∧ w'.cell? ⟨(w.heap.size + 1), 2, none⟩ = some (.slice a us.length c)) := ⟨_, rfl⟩
    have hSmk : ∀ wq, Blk wq v5.heap.size [.int .i64 t, .int .i64 p, .slice (some ⟨g2, 0, none⟩) us.length us.length] → Blk wq (w.heap.size + 1) [.int .i64 t, .int .i64 p, .slice a us.length c] → S wq := fun wq kz kb => by rw [hSdef]; exact ⟨(kz 0 (by simp)).1, (kz 1 (by simp)).1, (kz 2 (by simp)).1, (kb 0 (by simp)).1, (kb 1 (by simp)).1, (kb 2 (by simp)).1⟩
    have hSd : ∀ wq, S wq → (fun w' => w'.cell? ⟨v5.heap.size, 0, none⟩ = some (.int .i64 t) ∧ w'.cell? ⟨v5.heap.size, 1, none⟩ = some (.int .i64 p) ∧ w'.cell? ⟨v5.heap.size, 2, none⟩ = some (.slice (some ⟨g2, 0, none⟩) us.length us.length) ∧ w'.cell? ⟨(w.heap.size + 1), 0, none⟩ = some (.int .i64 t) ∧ w'.cell? ⟨(w.heap.size + 1), 1, none⟩ = some (.int .i64 p) ∧ w'.cell? ⟨(w.heap.size + 1), 2, none⟩ = some (.slice a us.length c)) wq := fun wq h => by rw [hSdef] at h; exact h
    clear hSdef
    have hHeld : S wC.drew := hSmk wC.drew Kzu0.out Kbu0.out
    refine wp_region_to (S := S) (T := []) (by kernel_rfl) hHeld (fun _ => ?_)
    generalize wC.drew = u0 at *
    refine wpTo_ts (i := 0) (v := ?_) rfl (by kernel_rfl) hSd (by rfl) (fun w hSw => ?_) (by assumption) ?_
    rotate_left
    · ((try dsimp only [RqC] at hSw); go_simp <;> with_reducible rfl)
    try simp only [Act.put, zz1, zz2, zz3, zz4, zz5, zz6]
    refine wpTo_ts (i := 1) (v := ?_) rfl (by kernel_rfl) hSd (by rfl) (fun w hSw => ?_) (by assumption) ?_
    rotate_left
    · ((try dsimp only [RqC] at hSw); go_simp <;> with_reducible rfl)
    try simp only [Act.put, zz1, zz2, zz3, zz4, zz5, zz6]
    refine wpTo_ready (rs := [2]) (by kernel_rfl) (by simp) ?_
    refine AllTo.cons (o := _) rfl (fun K hK => ?_) ?_
    ·
     (try simp only [zz1, zz2, zz3])
     go_simp
     refine (toCarton_any t p a c us u0 Qyu0.out hn6).mono ?_
     rintro e u10 ⟨g1, rfl, ho, hb⟩
     have Bu10 := hide (Bu0.out.trans (hb.mono Bu0.out.size))
     have Kau10 := hide (Blk.below hb Zau0 Kau0.out)
     have Zau10 := Nat.lt_of_lt_of_le Zau0 hb.size
     have Kbu10 := hide (Blk.below hb Zbu0 Kbu0.out)
     have Zbu10 := Nat.lt_of_lt_of_le Zbu0 hb.size
     have Kou10 := hide (Blk.below hb Zou0 Kou0.out)
     have Zou10 := Nat.lt_of_lt_of_le Zou0 hb.size
     have Kxu10 := hide (Blk.below hb Zxu0 Kxu0.out)
     have Zxu10 := Nat.lt_of_lt_of_le Zxu0 hb.size
     have Kzu10 := hide (Blk.below hb Zzu0 Kzu0.out)
     have Zzu10 := Nat.lt_of_lt_of_le Zzu0 hb.size
     have Kmu10 := hide (Blk.below hb Zmu0 Kmu0.out)
     have Zmu10 := Nat.lt_of_lt_of_le Zmu0 hb.size
     have Qru10 : Hid (RdReq u10 r h) := Qru0.out.mono hb
     have Qgu10 : Hid (ErrT u10) := Qgu0.out.later hb
     have Qyu10 : Hid (Rd u10 (a) us.length us) := Rd.mono Qyu0.out hb
     have Qdu10 : Hid (RdReq u10 r h2) := Qdu0.out.mono hb
     have Qvu10 : Hid (Rd u10 (some ⟨g2, 0, none⟩) us.length us) := Rd.mono Qvu0.out hb
     have Qsu10 : Hid (Rd u10 (some ⟨g1, 0, none⟩) us.length us) := own_reads ho
     clear ho
     clear hb
     clear Bu0 Kau0 Zau0 Kbu0 Zbu0 Kou0 Zou0 Kxu0 Zxu0 Kzu0 Zzu0 Kmu0 Zmu0 Qru0 Qgu0 Qyu0 Qdu0 Qvu0
     clear hHeld
     go_wp2_with fail
     have hHeld := hSmk u10 Kzu10.out Kbu10.out
     refine hK.out _ _ (fun _ => hHeld) ?_
     clear hK K
     try simp only [Act.put, zz1, zz2, zz3, zz4, zz5, zz6]
     refine wpTo_ready (rs := [3]) (by kernel_rfl) (by simp) ?_
     refine AllTo.cons (o := _) rfl (fun K hK => ?_) ?_
     ·
      (try simp only [zz1, zz2, zz3])
      go_simp
      refine (eqCarton_same t p _ us.length _ us.length us u10 Qvu10.out Qsu10.out hn6).mono ?_
      rintro e u11 ⟨rfl, hb⟩
      have Bu11 := hide (Bu10.out.trans (hb.mono Bu10.out.size))
      have Kau11 := hide (Blk.below hb Zau10 Kau10.out)
      have Zau11 := Nat.lt_of_lt_of_le Zau10 hb.size
      have Kbu11 := hide (Blk.below hb Zbu10 Kbu10.out)
      have Zbu11 := Nat.lt_of_lt_of_le Zbu10 hb.size
      have Kou11 := hide (Blk.below hb Zou10 Kou10.out)
      have Zou11 := Nat.lt_of_lt_of_le Zou10 hb.size
      have Kxu11 := hide (Blk.below hb Zxu10 Kxu10.out)
      have Zxu11 := Nat.lt_of_lt_of_le Zxu10 hb.size
      have Kzu11 := hide (Blk.below hb Zzu10 Kzu10.out)
      have Zzu11 := Nat.lt_of_lt_of_le Zzu10 hb.size
      have Kmu11 := hide (Blk.below hb Zmu10 Kmu10.out)
      have Zmu11 := Nat.lt_of_lt_of_le Zmu10 hb.size
      have Qru11 : Hid (RdReq u11 r h) := Qru10.out.mono hb
      have Qgu11 : Hid (ErrT u11) := Qgu10.out.later hb
      have Qyu11 : Hid (Rd u11 (a) us.length us) := Rd.mono Qyu10.out hb
      have Qdu11 : Hid (RdReq u11 r h2) := Qdu10.out.mono hb
      have Qvu11 : Hid (Rd u11 (some ⟨g2, 0, none⟩) us.length us) := Rd.mono Qvu10.out hb
      have Qsu11 : Hid (Rd u11 (some ⟨g1, 0, none⟩) us.length us) := Rd.mono Qsu10.out hb
      clear hb
      clear Bu10 Kau10 Zau10 Kbu10 Zbu10 Kou10 Zou10 Kxu10 Zxu10 Kzu10 Zzu10 Kmu10 Zmu10 Qru10 Qgu10 Qyu10 Qdu10 Qvu10 Qsu10
      clear hHeld
      go_wp2_with fail
      have hHeld := hSmk u11 Kzu11.out Kbu11.out
      refine hK.out _ _ (fun _ => hHeld) ?_
      clear hK K
      try simp only [Act.put, zz1, zz2, zz3, zz4, zz5, zz6]
      refine wpTo_ts (i := 4) (v := ?_) rfl (by kernel_rfl) hSd (by rfl) (fun w hSw => ?_) (by assumption) ?_
      rotate_left
      · ((try dsimp only [RqC] at hSw); go_simp <;> with_reducible rfl)
      try simp only [Act.put, zz1, zz2, zz3, zz4, zz5, zz6]
      refine wpTo_done (by kernel_rfl) ?_ _
      refine NoPanic.normal ?_
      go_wp2_with fail
      go_meet
      case rel => exact ⟨rfl, unhide Kau11, Zau11, unhide Kbu11, Zbu11, unhide Kou11, Zou11, unhide Kxu11, Zxu11, unhide Kzu11, Zzu11, unhide Kmu11, Zmu11, unhide Qru11, unhide Qgu11, unhide Qyu11, unhide Qdu11, unhide Qvu11, unhide Bu11⟩
     exact AllTo.nil
    exact AllTo.nil
   case rest =>
    clear BwC KawC ZawC KbwC ZbwC KowC ZowC KxwC ZxwC KzwC ZzwC KmwC ZmwC QrwC QgwC QywC QdwC QvwC
    obtain ⟨rfl, ka, za, kb, zb, ko, zo, kx, zx, kz, zz, km, zm, qr, qg, qy, qd, qv, hb⟩ := hcut
    obtain ⟨wD, hw8⟩ : ∃ w8 : World, w8 = wc := ⟨_, rfl⟩
    subst wc
    have BwD := hide hb
    have KawD := hide ka
    have ZawD : w.heap.size < wD.heap.size := za
    have KbwD := hide kb
    have ZbwD : (w.heap.size + 1) < wD.heap.size := zb
    have KowD := hide ko
    have ZowD : gb < wD.heap.size := zo
    have KxwD := hide kx
    have ZxwD : v3.heap.size < wD.heap.size := zx
    have KzwD := hide kz
    have ZzwD : v5.heap.size < wD.heap.size := zz
    have KmwD := hide km
    have ZmwD : v7.heap.size < wD.heap.size := zm
    have QrwD : Hid (RdReq wD r h) := qr
    have QgwD : Hid (ErrT wD) := qg
    have QywD : Hid (Rd wD (a) us.length us) := qy
    have QdwD : Hid (RdReq wD r h2) := qd
    have QvwD : Hid (Rd wD (some ⟨g2, 0, none⟩) us.length us) := qv
    clear hb ka za kb zb ko zo kx zx kz zz km zm qr qg qy qd qv
    go_wp2_with fail
    go_ret
    exact ⟨rfl, unhide BwD⟩
end Go.Proofs.YtcblpoeeembniabGreatDoor
