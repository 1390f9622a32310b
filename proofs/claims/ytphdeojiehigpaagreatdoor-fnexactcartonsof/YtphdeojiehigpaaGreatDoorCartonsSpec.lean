/- The cartons of an order: the model. -/
import Derived.Test.YtphdeojiehigpaaGreatDoorPkQ
import Derived.Test.YtphdeojiehigpaaGreatDoorCheapSpec
import Derived.Test.YtphdeojiehigpaaGreatDoorPkN
import Derived.Test.YtphdeojiehigpaaGreatDoorGroupsOf
import Derived.Test.YtphdeojiehigpaaGreatDoorSpecUnitsOf
import Derived.Test.YtphdeojiehigpaaGreatDoorPkB
import Derived.Test.YtphdeojiehigpaaGreatDoorPkC
import Derived.Deep.DeepMust
import Derived.Deep.DeepCutAuto
import Derived.Deep.RegionHeld3
namespace Go.Proofs.YtphdeojiehigpaaGreatDoor
open Go Go.RowKit
set_option linter.unusedVariables false
set_option linter.unusedSimpArgs false

set_option maxRecDepth 100000 in
set_option maxHeartbeats 4000000 in
theorem specCartonsOf_any (r : ReqV) (h : ReqH) (w : World) (hr : RdReq w r h) (hs : r.small) :
    Calls Tryz.prog 26 #[reqVal r h] w fun e w' => ∃ g cap xs, e = .returned (.slice (some ⟨g, 0, none⟩) xs.length cap) ∧ OwnC w' w.heap.size g cap xs ∧ xs.map CRow.car = cartonsR r ∧ Below w.heap.size w w' := by
  obtain ⟨i0, hi0, hz0, hz1, hz2⟩ := info_parts Tryz.infoCarton
  obtain ⟨j0, hj0, hy0, hy1, hy2⟩ := info_parts Tryz.infoInt
  have hK4 := groupsR_len r
  have HR := hide hr
  clear hr
  unfold reqVal
  go_enter Tryz.func26, Tryz.ntmps26
  go_upto_region 1 with fail
  generalize hW : (w.alloc (.cells #[.int .i64 r.way, .int .i64 r.pal.wd, .int .i64 r.pal.dp, .int .i64 r.pal.ht, .int .i64 r.pal.gram, .int .i64 r.classes, .slice h.ap r.pairs.length h.cp, .slice h.at' r.types.length h.ct, .int .i64 r.master, .slice h.ai r.items.length h.ci] 40)) = wb at *
  obtain ⟨Bwb, Kawb, Zawb⟩ := en1 hW
  have Ga : w.heap.size ≤ w.heap.size := by omega
  clear hW
  obtain ⟨ca0, ca1, ca2, ca3, ca4, ca5, ca6, ca7, ca8, ca9⟩ := Blk.cs10 Kawb.out
  go_wp2_with fail
  clear ca0 ca1 ca2 ca3 ca4 ca5 ca6 ca7 ca8 ca9
  have HO0 : Hid ((wb.alloc (.cells #[] 42)).ownsRow wb.heap.size 42 3 (.slice (some ⟨wb.heap.size, 0, none⟩) 0 0) 0 []) := own_lit0 wb (Nat.le_refl _)
  have HB0 : Hid (Below wb.heap.size wb (wb.alloc (.cells #[] 42))) := (Below.refl _ _).alloc (Nat.le_refl _) _
  generalize (wb.alloc (.cells #[] 42)) = wl at *
  refine (specGroupsOf_any r h wl (HR.out.mono (Bwb.out.trans (HB0.out.mono Bwb.out.size))) hs).mono ?_
  rintro e w2 ⟨gg, cg, gxs, rfl, hgo, hgl, hb⟩
  have hKl : gxs.length = (groupsR r).length := by rw [← hgl, List.length_map]
  rw [hKl]
  have HO2 := hide (own_later HO0.out hb)
  have HB2 : Hid (Below wb.heap.size wb w2) := HB0.out.trans (hb.mono HB0.out.size)
  clear HO0 HB0 hgo hgl hb hKl
  go_wp2_with fail
  go_loopw [3, 5] (fun s i wr => ∃ (k g cap : Nat) (xs : List CRow), k ≤ (groupsR r).length ∧ i = .int .i64 k ∧ s = .slice (some ⟨g, 0, none⟩) xs.length cap ∧ xs.map CRow.car = cartonsTo r k ∧ OwnC wr wb.heap.size g cap xs ∧ Below wb.heap.size wb wr) (fun _ i _ => (groupsR r).length - (intOf i).toNat)
  case atStart => exact ⟨0, wb.heap.size, 0, [], Nat.zero_le _, rfl, rfl, rfl, ⟨unhide HO2, Rws.nil⟩, unhide HB2⟩
  case round =>
    clear HO2 HB2
    obtain ⟨k, g, cap, xs, hk, rfl, rfl, hx, how, hb⟩ := hrel
    have HX := hide hx
    have HO := hide how
    have HBB := hide hb
    have Bwr := hide (Bwb.out.trans (hb.mono Bwb.out.size))
    have Kawr := hide (Blk.below hb Zawb Kawb.out)
    have Zawr := Nat.lt_of_lt_of_le Zawb hb.size
    clear hx how hb
    by_cases hlk : k < (groupsR r).length
    case neg =>
      obtain rfl : k = (groupsR r).length := by omega
      go_wp2
      go_ret
      exact ⟨g, cap, xs, rfl, HO.out.low Bwb.out.size, unhide HX, unhide Bwr⟩
    go_upto_region 6 with fail
    have Qrwr : Hid (RdReq wr r h) := HR.out.mono Bwr.out
    have Bwr0 := hide (Below.refl wr.heap.size wr)
    go_cut [6] (fun v6 wc => ∃ bo oc P, v6 = .slice (some ⟨bo, 0, none⟩) (packR r (unitsOfR r (k : Int))).length oc ∧ Own2 wc wr.heap.size bo oc P ∧ P.map RowV.l = packR r (unitsOfR r (k : Int)) ∧ Below wr.heap.size wr wc)
    case first =>
      refine wp_region_noPanic ?_
      have Bu0 : Hid (Below wr.heap.size wr wr.drew) := Bwr0.out.drew
      have Qru0 : Hid (RdReq wr.drew r h) := Qrwr.out.mono (Below.refl _ _).drew
      have Kau0 : Hid (Blk wr.drew w.heap.size [.int .i64 r.way, .int .i64 r.pal.wd, .int .i64 r.pal.dp, .int .i64 r.pal.ht, .int .i64 r.pal.gram, .int .i64 r.classes, .slice h.ap r.pairs.length h.cp, .slice h.at' r.types.length h.ct, .int .i64 r.master, .slice h.ai r.items.length h.ci]) := unhide Kawr
      have Zau0 : w.heap.size < wr.drew.heap.size := Zawr
      obtain ⟨S, hSdef⟩ : ∃ S : World → Prop, S = (fun w' => RqC w' w.heap.size r h) := ⟨_, rfl⟩
      have hSmk : ∀ wq, Blk wq w.heap.size [.int .i64 r.way, .int .i64 r.pal.wd, .int .i64 r.pal.dp, .int .i64 r.pal.ht, .int .i64 r.pal.gram, .int .i64 r.classes, .slice h.ap r.pairs.length h.cp, .slice h.at' r.types.length h.ct, .int .i64 r.master, .slice h.ai r.items.length h.ci] → S wq := fun wq ka => by rw [hSdef]; exact RqC.of ka
      have hSd : ∀ wq, S wq → (fun w' => RqC w' w.heap.size r h) wq := fun wq h => by rw [hSdef] at h; exact h
      clear hSdef
      have hHeld : S wr.drew := hSmk wr.drew Kau0.out
      refine wp_region_to (S := S) (T := []) (by kernel_rfl) hHeld (fun _ => ?_)
      generalize wr.drew = u0 at *
      refine wpTo_ts (i := 0) (v := ?_) rfl (by kernel_rfl) hSd (by rfl) (fun w hSw => ?_) (by assumption) ?_
      rotate_left
      · ((try dsimp only [RqC] at hSw); go_simp <;> with_reducible rfl)
      refine wpTo_ts (i := 1) (v := ?_) rfl (by kernel_rfl) hSd (by rfl) (fun w hSw => ?_) (by assumption) ?_
      rotate_left
      · ((try dsimp only [RqC] at hSw); go_simp <;> with_reducible rfl)
      refine wpTo_ts (i := 2) (v := ?_) rfl (by kernel_rfl) hSd (by rfl) (fun w hSw => ?_) (by assumption) ?_
      rotate_left
      · ((try dsimp only [RqC] at hSw); go_simp <;> with_reducible rfl)
      try simp only [Act.put, zz1, zz2, zz3, zz4, zz5, zz6]
      refine wpTo_ready (rs := [3]) (by kernel_rfl) (by simp) ?_
      refine AllTo.cons (o := _) rfl (fun K hK => ?_) ?_
      ·
       (try simp only [zz1, zz2, zz3])
       go_simp
       refine (specUnitsOf_any r h (k : Int) u0 Qru0.out hs).mono ?_
       rintro e u1 ⟨gu, cu, rfl, hou, hb⟩
       have Bu1 := hide (Bu0.out.trans (hb.mono Bu0.out.size))
       have Kau1 := hide (Blk.below hb Zau0 Kau0.out)
       have Zau1 := Nat.lt_of_lt_of_le Zau0 hb.size
       have Qru1 : Hid (RdReq u1 r h) := Qru0.out.mono hb
       have Quu1 : Hid (Rd u1 (some ⟨gu, 0, none⟩) (unitsOfR r (k : Int)).length (unitsOfR r (k : Int))) := Rd.of_owns hou
       clear hou
       clear hb
       clear Bu0 Kau0 Zau0 Qru0
       clear hHeld
       go_wp2_with fail
       have hHeld := hSmk u1 Kau1.out
       refine hK.out _ _ (fun _ => hHeld) ?_
       clear hK K
       try simp only [Act.put, zz1, zz2, zz3, zz4, zz5, zz6]
       refine wpTo_ready (rs := [4]) (by kernel_rfl) (by simp) ?_
       refine AllTo.cons (o := _) rfl (fun K hK => ?_) ?_
       ·
        (try simp only [zz1, zz2, zz3])
        go_simp
        refine (specPackWay_any r h (some ⟨gu, 0, none⟩) (unitsOfR r (k : Int)).length cu (unitsOfR r (k : Int)) u1 Qru1.out hs Quu1.out (by have := unitsOfR_len r (k : Int); omega)).mono ?_
        rintro e u2 ⟨bo, oc, P, rfl, hop, hpl, hb⟩
        have Bu2 := hide (Bu1.out.trans (hb.mono Bu1.out.size))
        have Kau2 := hide (Blk.below hb Zau1 Kau1.out)
        have Zau2 := Nat.lt_of_lt_of_le Zau1 hb.size
        have Qru2 : Hid (RdReq u2 r h) := Qru1.out.mono hb
        have Quu2 : Hid (Rd u2 (some ⟨gu, 0, none⟩) (unitsOfR r (k : Int)).length (unitsOfR r (k : Int))) := Rd.mono Quu1.out hb
        have HOP : Hid (Own2 u2 wr.heap.size bo oc P) := hop.low Bu1.out.size
        have HPL := hide hpl
        clear hop hpl
        clear hb
        clear Bu1 Kau1 Zau1 Qru1 Quu1
        clear hHeld
        go_wp2_with fail
        have hHeld := hSmk u2 Kau2.out
        refine hK.out _ _ (fun _ => hHeld) ?_
        clear hK K
        try simp only [Act.put, zz1, zz2, zz3, zz4, zz5, zz6]
        refine wpTo_ts (i := 5) (v := ?_) rfl (by kernel_rfl) hSd (by rfl) (fun w hSw => ?_) (by assumption) ?_
        rotate_left
        · ((try dsimp only [RqC] at hSw); go_simp <;> with_reducible rfl)
        try simp only [Act.put, zz1, zz2, zz3, zz4, zz5, zz6]
        refine wpTo_done (by kernel_rfl) ?_ _
        refine NoPanic.normal ?_
        go_wp2_with fail
        go_meet
        case rel => exact ⟨bo, oc, P, rfl, unhide HOP, unhide HPL, unhide Bu2⟩
       exact AllTo.nil
      exact AllTo.nil
    case rest =>
      obtain ⟨bo, oc, P, rfl, hop, hpl, hb⟩ := hcut
      have hPl : P.length = (packR r (unitsOfR r (k : Int))).length := by rw [← hpl, List.length_map]
      have hB0 := HBB.out.size
      have HMK := hide (HO.out.openedS hb hB0 hop)
      have HBC : Hid (Below wb.heap.size wb wc) := HBB.out.trans (hb.mono hB0)
      have hpt := packR_tot r (unitsOfR r (k : Int))
      have hul := unitsOfR_len r (k : Int)
      have HRL : Hid (∀ i, i < (packR r (unitsOfR r (k : Int))).length → ((packR r (unitsOfR r (k : Int))).getD i []).length ≤ 12) := fun i hi => by have h1 := tot2_row _ i hi; have h2 := hpt.1; omega
      have hpn : (packR r (unitsOfR r (k : Int))).length ≤ 12 := by omega
      have hxl : xs.length ≤ 48 := by have h1 := cartonsTo_len r k; rw [← unhide HX, List.length_map] at h1; omega
      have HST := hide (cartonsTo_step r k)
      have HPL := hide hpl
      have HPN := hide hPl
      clear hop hb Kawr Zawr Qrwr Bwr0 HO hpt hul hpl hPl
      generalize packR r (unitsOfR r (k : Int)) = PK at *
      go_wp2_with fail
      go_loopw [3, 7] (fun s i wi => ∃ (j g2 cap2 : Nat) (ys : List CRow), j ≤ PK.length ∧ i = .int .i64 j ∧ s = .slice (some ⟨g2, 0, none⟩) ys.length cap2 ∧ ys.length = xs.length + j ∧ ys.map CRow.car = cartonsTo r k ++ (PK.take j).map (cartonOf r k) ∧ Ms wi wb.heap.size g2 cap2 ys bo P ∧ Below wb.heap.size wb wi) (fun _ i _ => PK.length - (intOf i).toNat)
      case atStart => exact ⟨0, g, cap, xs, Nat.zero_le _, rfl, rfl, rfl, by rw [List.take_zero, List.map_nil, List.append_nil]; exact unhide HX, unhide HMK, unhide HBC⟩
      case round =>
        clear HMK HBC
        obtain ⟨wi, hwi⟩ : ∃ x : World, x = wr := ⟨_, rfl⟩
        subst hwi
        obtain ⟨j, g2, cap2, ys, hj, rfl, rfl, hyl, hyc, hmk, hb⟩ := hrel
        have HM := hide hmk
        have HYC := hide hyc
        have HYL := hide hyl
        have hyl2 : ys.length ≤ 60 := by omega
        have HBI := hide hb
        have Bwi := hide (Bwb.out.trans (hb.mono Bwb.out.size))
        have Kawi := hide (Blk.below hb Zawb Kawb.out)
        have Zawi := Nat.lt_of_lt_of_le Zawb hb.size
        clear hmk hyc hb hyl
        by_cases hlj : j < PK.length
        case neg =>
          obtain rfl : j = PK.length := by omega
          have HOC := hide HM.out.done
          have HYT : Hid (ys.map CRow.car = cartonsTo r (k + 1)) := by rw [Hid, unhide HYC, List.take_length, unhide HST]
          clear HM
          go_wp2
          go_roundw
          case rel => exact ⟨k + 1, g2, cap2, ys, by omega, by go_num, rfl, unhide HYT, unhide HOC, unhide HBI⟩
          case measure => simp [intOf]; omega
        obtain ⟨rv, hrv⟩ : ∃ rv : RowV, rv = P.getD j default := ⟨_, rfl⟩
        have hjP : j < P.length := by rw [unhide HPN]; exact hlj
        have HR1 : Hid (rv.l = PK.getD j []) := by
          rw [Hid, hrv, ← unhide HPL]
          simp [List.getD_eq_getElem?_getD, hjP]
        have hrl : rv.l.length ≤ 12 := by rw [unhide HR1]; exact HRL.out j hlj
        have hrow := HM.out.row j hjP
        have hsrc := HM.out.src j hjP
        rw [← hrv] at hrow hsrc
        have HOW := hide hrow.1
        have HC0 : Hid (wi.cell? ⟨bo, j, none⟩ = some (.slice (some ⟨rv.g, 0, none⟩) rv.l.length rv.cap)) := hsrc
        clear hrow hsrc hrv hjP
        have Bwi0 := hide (Below.refl wi.heap.size wi)
        have Qrwi : Hid (RdReq wi r h) := HR.out.mono Bwi.out
        have Qowi : Hid (RowV.own wi wb.heap.size rv) := unhide HOW
        have hc0 := unhide HC0
        go_upto_region 10 with fail
        clear hc0
        go_cut [8] (fun v8 wc => ∃ gt, v8 = .pointer (some ⟨gt, 0, none⟩) ∧ Blk wc gt [.int .i64 (cheapV r rv.l).id, .int .i64 (cheapV r rv.l).wd, .int .i64 (cheapV r rv.l).ht, .int .i64 (cheapV r rv.l).dp, .int .i64 (cheapV r rv.l).tare, .int .i64 (cheapV r rv.l).gram, .int .i64 (cheapV r rv.l).cost] ∧ gt < wc.heap.size ∧ wi.heap.size ≤ gt ∧ Below wi.heap.size wi wc)
        case first =>
          refine wp_region_noPanic ?_
          have Bu0 : Hid (Below wi.heap.size wi wi.drew) := Bwi0.out.drew
          have Kau0 : Hid (Blk wi.drew w.heap.size [.int .i64 r.way, .int .i64 r.pal.wd, .int .i64 r.pal.dp, .int .i64 r.pal.ht, .int .i64 r.pal.gram, .int .i64 r.classes, .slice h.ap r.pairs.length h.cp, .slice h.at' r.types.length h.ct, .int .i64 r.master, .slice h.ai r.items.length h.ci]) := unhide Kawi
          have Zau0 : w.heap.size < wi.drew.heap.size := Zawi
          obtain ⟨S, hSdef⟩ : ∃ S : World → Prop, S = (fun w' => RqC w' w.heap.size r h ∧ w'.cell? ⟨bo, j, none⟩ = some (.slice (some ⟨rv.g, 0, none⟩) rv.l.length rv.cap)) := ⟨_, rfl⟩
          have hSmk : ∀ wq, Blk wq w.heap.size [.int .i64 r.way, .int .i64 r.pal.wd, .int .i64 r.pal.dp, .int .i64 r.pal.ht, .int .i64 r.pal.gram, .int .i64 r.classes, .slice h.ap r.pairs.length h.cp, .slice h.at' r.types.length h.ct, .int .i64 r.master, .slice h.ai r.items.length h.ci] → (wq.cell? ⟨bo, j, none⟩ = some (.slice (some ⟨rv.g, 0, none⟩) rv.l.length rv.cap)) → S wq := fun wq ka p0 => by rw [hSdef]; exact ⟨RqC.of ka, p0⟩
          have hSd : ∀ wq, S wq → (fun w' => RqC w' w.heap.size r h ∧ w'.cell? ⟨bo, j, none⟩ = some (.slice (some ⟨rv.g, 0, none⟩) rv.l.length rv.cap)) wq := fun wq h => by rw [hSdef] at h; exact h
          clear hSdef
          have hHeld : S wi.drew := hSmk wi.drew Kau0.out ((Bu0.out.cell (World.block_lt_of_cell? _ _ HC0.out)).trans HC0.out)
          refine wp_region_to (S := S) (T := []) (by kernel_rfl) hHeld (fun _ => ?_)
          generalize wi.drew = u0 at *
          refine wpTo_ts (i := 0) (v := ?_) rfl (by kernel_rfl) hSd (by rfl) (fun w hSw => ?_) (by assumption) ?_
          rotate_left
          · ((try dsimp only [RqC] at hSw); go_simp <;> with_reducible rfl)
          try simp only [Act.put, zz1, zz2, zz3, zz4, zz5, zz6]
          refine wpTo_ts (i := 1) (v := ?_) rfl (by kernel_rfl) hSd (by rfl) (fun w hSw => ?_) (by assumption) ?_
          rotate_left
          · ((try dsimp only [RqC] at hSw); go_simp <;> with_reducible rfl)
          refine wpTo_ts (i := 2) (v := ?_) rfl (by kernel_rfl) hSd (by rfl) (fun w hSw => ?_) (by assumption) ?_
          rotate_left
          · ((try dsimp only [RqC] at hSw); go_simp <;> with_reducible rfl)
          refine wpTo_ts (i := 3) (v := ?_) rfl (by kernel_rfl) hSd (by rfl) (fun w hSw => ?_) (by assumption) ?_
          rotate_left
          · ((try dsimp only [RqC] at hSw); go_simp <;> with_reducible rfl)
          try simp only [Act.put, zz1, zz2, zz3, zz4, zz5, zz6]
          refine wpTo_ts (i := 4) (v := ?_) rfl (by kernel_rfl) hSd (by rfl) (fun w hSw => ?_) (by assumption) ?_
          rotate_left
          · ((try dsimp only [RqC] at hSw); go_simp <;> with_reducible rfl)
          try simp only [Act.put, zz1, zz2, zz3, zz4, zz5, zz6]
          refine wpTo_ready (rs := [5, 9]) (by kernel_rfl) (by simp) ?_
          refine AllTo.cons (o := _) rfl (fun K hK => ?_) ?_
          ·
           (try simp only [zz1, zz2, zz3])
           go_simp
           refine (specCheapest_any r h (some ⟨rv.g, 0, none⟩) rv.l.length rv.cap rv.l u0 (Qrwi.out.mono Bu0.out) hs (own_reads (Qowi.out.later Bu0.out)) (by omega)).mono ?_
           rintro e u1 ⟨rfl, hb⟩
           have Bu1 := hide (Bu0.out.trans (hb.mono Bu0.out.size))
           have Kau1 := hide (Blk.below hb Zau0 Kau0.out)
           have Zau1 := Nat.lt_of_lt_of_le Zau0 hb.size
           clear hb
           clear Bu0 Kau0 Zau0
           clear hHeld
           go_wp2_with fail
           have hHeld := hSmk u1 Kau1.out ((Bu1.out.cell (World.block_lt_of_cell? _ _ HC0.out)).trans HC0.out)
           refine hK.out _ _ (fun _ => hHeld) ?_
           clear hK K
           try simp only [Act.put, zz1, zz2, zz3, zz4, zz5, zz6]
           refine wpTo_ts (i := 6) (v := ?_) rfl (by kernel_rfl) hSd (by rfl) (fun w hSw => ?_) (by assumption) ?_
           rotate_left
           · ((try dsimp only [RqC] at hSw); go_simp <;> with_reducible rfl)
           refine wpTo_ts (i := 7) (v := ?_) rfl (by kernel_rfl) hSd (by rfl) (fun w hSw => ?_) (by assumption) ?_
           rotate_left
           · ((try dsimp only [RqC] at hSw); go_simp <;> with_reducible rfl)
           refine wpTo_ts (i := 8) (v := ?_) rfl (by kernel_rfl) hSd (by rfl) (fun w hSw => ?_) (by assumption) ?_
           rotate_left
           · ((try dsimp only [RqC] at hSw); go_simp <;> with_reducible rfl)
           try simp only [Act.put, zz1, zz2, zz3, zz4, zz5, zz6]
           refine wpTo_ready (rs := [9]) (by kernel_rfl) (by simp) ?_
           refine AllTo.cons (o := _) rfl (fun K hK => ?_) ?_
           ·
            (try simp only [zz1, zz2, zz3])
            go_simp
            clear hHeld
            generalize hW : (u1.alloc (.cells #[.int .i64 0, .int .i64 0, .int .i64 0, .int .i64 0, .int .i64 0, .int .i64 0, .int .i64 0] 55)) = u2 at *
            obtain ⟨hb, Ktu2, Ztu2⟩ := en1 hW
            have hb := unhide hb
            have Bu2 := hide (Bu1.out.trans (hb.mono Bu1.out.size))
            have Gt : wi.heap.size ≤ u1.heap.size := Bu1.out.size
            have Kau2 := hide (Blk.below hb Zau1 Kau1.out)
            have Zau2 := Nat.lt_of_lt_of_le Zau1 hb.size
            have Nqat : w.heap.size ≠ u1.heap.size := Nat.ne_of_lt Zau1
            have Nqta := Ne.symm Nqat
            clear hb hW
            clear Bu1 Kau1 Zau1
            have hHeld := hSmk u2 Kau2.out ((Bu2.out.cell (World.block_lt_of_cell? _ _ HC0.out)).trans HC0.out)
            refine hK.out _ _ (fun _ => hHeld) ?_
            clear hK K
            try simp only [Act.put, zz1, zz2, zz3, zz4, zz5, zz6]
            refine wpTo_ready (rs := [10]) (by kernel_rfl) (by simp) ?_
            refine AllTo.cons (o := _) rfl (fun K hK => ?_) ?_
            ·
             (try simp only [zz1, zz2, zz3])
             have p0 := (Ktu2.out 0 (by simp)).1
             have q0 := (Ktu2.out 0 (by simp)).2
             have p1 := (Ktu2.out 1 (by simp)).1
             have q1 := (Ktu2.out 1 (by simp)).2
             have p2 := (Ktu2.out 2 (by simp)).1
             have q2 := (Ktu2.out 2 (by simp)).2
             have p3 := (Ktu2.out 3 (by simp)).1
             have q3 := (Ktu2.out 3 (by simp)).2
             have p4 := (Ktu2.out 4 (by simp)).1
             have q4 := (Ktu2.out 4 (by simp)).2
             have p5 := (Ktu2.out 5 (by simp)).1
             have q5 := (Ktu2.out 5 (by simp)).2
             have p6 := (Ktu2.out 6 (by simp)).1
             have q6 := (Ktu2.out 6 (by simp)).2
             go_simp
             clear p0 q0 p1 q1 p2 q2 p3 q3 p4 q4 p5 q5 p6 q6
             clear hHeld
             generalize hW : (((((((u2.setCell ⟨u1.heap.size, 0, none⟩ (.int .i64 (cheapV r rv.l).id)).setCell ⟨u1.heap.size, 1, none⟩ (.int .i64 (cheapV r rv.l).wd)).setCell ⟨u1.heap.size, 2, none⟩ (.int .i64 (cheapV r rv.l).ht)).setCell ⟨u1.heap.size, 3, none⟩ (.int .i64 (cheapV r rv.l).dp)).setCell ⟨u1.heap.size, 4, none⟩ (.int .i64 (cheapV r rv.l).tare)).setCell ⟨u1.heap.size, 5, none⟩ (.int .i64 (cheapV r rv.l).gram)).setCell ⟨u1.heap.size, 6, none⟩ (.int .i64 (cheapV r rv.l).cost)) = u3 at *
             have Bu3 : Hid (Below wi.heap.size wi u3) := by rw [← hW]; exact (((((((Bu2.out.setCell Gt _).setCell Gt _).setCell Gt _).setCell Gt _).setCell Gt _).setCell Gt _).setCell Gt _)
             have Ktu3 : Hid (Blk u3 u1.heap.size [.int .i64 (cheapV r rv.l).id, .int .i64 (cheapV r rv.l).wd, .int .i64 (cheapV r rv.l).ht, .int .i64 (cheapV r rv.l).dp, .int .i64 (cheapV r rv.l).tare, .int .i64 (cheapV r rv.l).gram, .int .i64 (cheapV r rv.l).cost]) := by rw [← hW]; exact Blk.fill7 Ktu2.out
             have Ztu3 : u1.heap.size < u3.heap.size := by rw [← hW]; simpa using Ztu2
             have Kau3 : Hid (Blk u3 w.heap.size [.int .i64 r.way, .int .i64 r.pal.wd, .int .i64 r.pal.dp, .int .i64 r.pal.ht, .int .i64 r.pal.gram, .int .i64 r.classes, .slice h.ap r.pairs.length h.cp, .slice h.at' r.types.length h.ct, .int .i64 r.master, .slice h.ai r.items.length h.ci]) := by rw [← hW]; exact (((((((Kau2.out.other Nqat).other Nqat).other Nqat).other Nqat).other Nqat).other Nqat).other Nqat)
             have Zau3 : w.heap.size < u3.heap.size := by rw [← hW]; simpa using Zau2
             clear hW
             clear Bu2 Kau2 Zau2 Ktu2 Ztu2
             have hHeld := hSmk u3 Kau3.out ((Bu3.out.cell (World.block_lt_of_cell? _ _ HC0.out)).trans HC0.out)
             refine hK.out _ _ (fun _ => hHeld) ?_
             clear hK K
             try simp only [Act.put, zz1, zz2, zz3, zz4, zz5, zz6]
             refine wpTo_ts (i := 11) (v := ?_) rfl (by kernel_rfl) hSd (by rfl) (fun w hSw => ?_) (by assumption) ?_
             rotate_left
             · ((try dsimp only [RqC] at hSw); go_simp <;> with_reducible rfl)
             try simp only [Act.put, zz1, zz2, zz3, zz4, zz5, zz6]
             refine wpTo_done (by kernel_rfl) ?_ _
             refine NoPanic.normal ?_
             go_wp2_with fail
             go_meet
             case rel => exact ⟨_, rfl, unhide Ktu3, Ztu3, Gt, unhide Bu3⟩
            exact AllTo.nil
           exact AllTo.nil
          refine AllTo.cons (o := _) rfl (fun K hK => ?_) ?_
          ·
           (try simp only [zz1, zz2, zz3])
           go_simp
           clear hHeld
           generalize hW : (u0.alloc (.cells #[.int .i64 0, .int .i64 0, .int .i64 0, .int .i64 0, .int .i64 0, .int .i64 0, .int .i64 0] 55)) = u1 at *
           obtain ⟨hb, Ktu1, Ztu1⟩ := en1 hW
           have hb := unhide hb
           have Bu1 := hide (Bu0.out.trans (hb.mono Bu0.out.size))
           have Gt : wi.heap.size ≤ u0.heap.size := Bu0.out.size
           have Kau1 := hide (Blk.below hb Zau0 Kau0.out)
           have Zau1 := Nat.lt_of_lt_of_le Zau0 hb.size
           have Nqat : w.heap.size ≠ u0.heap.size := Nat.ne_of_lt Zau0
           have Nqta := Ne.symm Nqat
           clear hb hW
           clear Bu0 Kau0 Zau0
           have hHeld := hSmk u1 Kau1.out ((Bu1.out.cell (World.block_lt_of_cell? _ _ HC0.out)).trans HC0.out)
           refine hK.out _ _ (fun _ => hHeld) ?_
           clear hK K
           try simp only [Act.put, zz1, zz2, zz3, zz4, zz5, zz6]
           refine wpTo_ready (rs := [5]) (by kernel_rfl) (by simp) ?_
           refine AllTo.cons (o := _) rfl (fun K hK => ?_) ?_
           ·
            (try simp only [zz1, zz2, zz3])
            go_simp
            refine (specCheapest_any r h (some ⟨rv.g, 0, none⟩) rv.l.length rv.cap rv.l u1 (Qrwi.out.mono Bu1.out) hs (own_reads (Qowi.out.later Bu1.out)) (by omega)).mono ?_
            rintro e u2 ⟨rfl, hb⟩
            have Bu2 := hide (Bu1.out.trans (hb.mono Bu1.out.size))
            have Kau2 := hide (Blk.below hb Zau1 Kau1.out)
            have Zau2 := Nat.lt_of_lt_of_le Zau1 hb.size
            have Ktu2 := hide (Blk.below hb Ztu1 Ktu1.out)
            have Ztu2 := Nat.lt_of_lt_of_le Ztu1 hb.size
            clear hb
            clear Bu1 Kau1 Zau1 Ktu1 Ztu1
            clear hHeld
            go_wp2_with fail
            have hHeld := hSmk u2 Kau2.out ((Bu2.out.cell (World.block_lt_of_cell? _ _ HC0.out)).trans HC0.out)
            refine hK.out _ _ (fun _ => hHeld) ?_
            clear hK K
            try simp only [Act.put, zz1, zz2, zz3, zz4, zz5, zz6]
            refine wpTo_ts (i := 6) (v := ?_) rfl (by kernel_rfl) hSd (by rfl) (fun w hSw => ?_) (by assumption) ?_
            rotate_left
            · ((try dsimp only [RqC] at hSw); go_simp <;> with_reducible rfl)
            try simp only [Act.put, zz1, zz2, zz3, zz4, zz5, zz6]
            refine wpTo_ts (i := 7) (v := ?_) rfl (by kernel_rfl) hSd (by rfl) (fun w hSw => ?_) (by assumption) ?_
            rotate_left
            · ((try dsimp only [RqC] at hSw); go_simp <;> with_reducible rfl)
            refine wpTo_ts (i := 8) (v := ?_) rfl (by kernel_rfl) hSd (by rfl) (fun w hSw => ?_) (by assumption) ?_
            rotate_left
            · ((try dsimp only [RqC] at hSw); go_simp <;> with_reducible rfl)
            try simp only [Act.put, zz1, zz2, zz3, zz4, zz5, zz6]
            refine wpTo_ready (rs := [10]) (by kernel_rfl) (by simp) ?_
            refine AllTo.cons (o := _) rfl (fun K hK => ?_) ?_
            ·
             (try simp only [zz1, zz2, zz3])
             have p0 := (Ktu2.out 0 (by simp)).1
             have q0 := (Ktu2.out 0 (by simp)).2
             have p1 := (Ktu2.out 1 (by simp)).1
             have q1 := (Ktu2.out 1 (by simp)).2
             have p2 := (Ktu2.out 2 (by simp)).1
             have q2 := (Ktu2.out 2 (by simp)).2
             have p3 := (Ktu2.out 3 (by simp)).1
             have q3 := (Ktu2.out 3 (by simp)).2
             have p4 := (Ktu2.out 4 (by simp)).1
             have q4 := (Ktu2.out 4 (by simp)).2
             have p5 := (Ktu2.out 5 (by simp)).1
             have q5 := (Ktu2.out 5 (by simp)).2
             have p6 := (Ktu2.out 6 (by simp)).1
             have q6 := (Ktu2.out 6 (by simp)).2
             go_simp
             clear p0 q0 p1 q1 p2 q2 p3 q3 p4 q4 p5 q5 p6 q6
             clear hHeld
             generalize hW : (((((((u2.setCell ⟨u0.heap.size, 0, none⟩ (.int .i64 (cheapV r rv.l).id)).setCell ⟨u0.heap.size, 1, none⟩ (.int .i64 (cheapV r rv.l).wd)).setCell ⟨u0.heap.size, 2, none⟩ (.int .i64 (cheapV r rv.l).ht)).setCell ⟨u0.heap.size, 3, none⟩ (.int .i64 (cheapV r rv.l).dp)).setCell ⟨u0.heap.size, 4, none⟩ (.int .i64 (cheapV r rv.l).tare)).setCell ⟨u0.heap.size, 5, none⟩ (.int .i64 (cheapV r rv.l).gram)).setCell ⟨u0.heap.size, 6, none⟩ (.int .i64 (cheapV r rv.l).cost)) = u3 at *
             have Bu3 : Hid (Below wi.heap.size wi u3) := by rw [← hW]; exact (((((((Bu2.out.setCell Gt _).setCell Gt _).setCell Gt _).setCell Gt _).setCell Gt _).setCell Gt _).setCell Gt _)
             have Ktu3 : Hid (Blk u3 u0.heap.size [.int .i64 (cheapV r rv.l).id, .int .i64 (cheapV r rv.l).wd, .int .i64 (cheapV r rv.l).ht, .int .i64 (cheapV r rv.l).dp, .int .i64 (cheapV r rv.l).tare, .int .i64 (cheapV r rv.l).gram, .int .i64 (cheapV r rv.l).cost]) := by rw [← hW]; exact Blk.fill7 Ktu2.out
             have Ztu3 : u0.heap.size < u3.heap.size := by rw [← hW]; simpa using Ztu2
             have Kau3 : Hid (Blk u3 w.heap.size [.int .i64 r.way, .int .i64 r.pal.wd, .int .i64 r.pal.dp, .int .i64 r.pal.ht, .int .i64 r.pal.gram, .int .i64 r.classes, .slice h.ap r.pairs.length h.cp, .slice h.at' r.types.length h.ct, .int .i64 r.master, .slice h.ai r.items.length h.ci]) := by rw [← hW]; exact (((((((Kau2.out.other Nqat).other Nqat).other Nqat).other Nqat).other Nqat).other Nqat).other Nqat)
             have Zau3 : w.heap.size < u3.heap.size := by rw [← hW]; simpa using Zau2
             clear hW
             clear Bu2 Kau2 Zau2 Ktu2 Ztu2
             have hHeld := hSmk u3 Kau3.out ((Bu3.out.cell (World.block_lt_of_cell? _ _ HC0.out)).trans HC0.out)
             refine hK.out _ _ (fun _ => hHeld) ?_
             clear hK K
             try simp only [Act.put, zz1, zz2, zz3, zz4, zz5, zz6]
             refine wpTo_ts (i := 11) (v := ?_) rfl (by kernel_rfl) hSd (by rfl) (fun w hSw => ?_) (by assumption) ?_
             rotate_left
             · ((try dsimp only [RqC] at hSw); go_simp <;> with_reducible rfl)
             try simp only [Act.put, zz1, zz2, zz3, zz4, zz5, zz6]
             refine wpTo_done (by kernel_rfl) ?_ _
             refine NoPanic.normal ?_
             go_wp2_with fail
             go_meet
             case rel => exact ⟨_, rfl, unhide Ktu3, Ztu3, Gt, unhide Bu3⟩
            exact AllTo.nil
           exact AllTo.nil
          exact AllTo.nil
        case rest =>
          obtain ⟨gt, rfl, kt, ztl, ztg, hb⟩ := hcut
          have HM3 := hide (HM.out.later hb)
          have HOW3 := hide (HOW.out.later hb)
          have HB3 : Hid (Below wb.heap.size wb wc) := HBI.out.trans (hb.mono HBI.out.size)
          have hc0 : wc.cell? ⟨bo, j, none⟩ = some (.slice (some ⟨rv.g, 0, none⟩) rv.l.length rv.cap) := (hb.cell (World.block_lt_of_cell? _ _ HC0.out)).trans HC0.out
          have HKT := hide kt
          have HC3 := hide hc0
          clear kt hb HM HOW HBI Kawi Zawi Bwi0 Qrwi Qowi HC0
          obtain ⟨w3, hw3⟩ : ∃ x : World, x = wc := ⟨_, rfl⟩
          subst hw3
          go_wp2_with fail
          clear hc0
          refine (specSortUp_any (some ⟨rv.g, 0, none⟩) rv.l.length rv.cap rv.l w3 (own_reads HOW3.out) (by omega)).mono ?_
          rintro e w4 ⟨ga, ca, rfl, hoa, hb⟩
          have HM4 := hide (HM3.out.later hb)
          have HOW4 := hide (HOW3.out.later hb)
          have HB4 : Hid (Below wb.heap.size wb w4) := HB3.out.trans (hb.mono HB3.out.size)
          have HKT4 := hide (Blk.below hb ztl HKT.out)
          have ztl4 := Nat.lt_of_lt_of_le ztl hb.size
          have HC4 : Hid (w4.cell? ⟨bo, j, none⟩ = some (.slice (some ⟨rv.g, 0, none⟩) rv.l.length rv.cap)) := (hb.cell (World.block_lt_of_cell? _ _ HC3.out)).trans HC3.out
          have HOA := hide hoa
          clear hoa hb HM3 HOW3 HB3 HKT HC3 ztl
          go_wp2_with fail
          have HU0 : Hid ((w4.alloc (.cells #[] 3)).ownsRow w4.heap.size 3 1 (.slice (some ⟨w4.heap.size, 0, none⟩) 0 0) 0 []) := own_lit0 w4 (Nat.le_refl _)
          have HB0 : Hid (Below w4.heap.size w4 (w4.alloc (.cells #[] 3))) := (Below.refl _ _).alloc (Nat.le_refl _) _
          generalize (w4.alloc (.cells #[] 3)) = wl4 at *
          go_loopw [11, 12] (fun s i wu => ∃ (u gu cu : Nat), u ≤ rv.l.length ∧ i = .int .i64 u ∧ s = .slice (some ⟨gu, 0, none⟩) u cu ∧ wu.ownsRow w4.heap.size 3 1 (.slice (some ⟨gu, 0, none⟩) u cu) u (ci ((upL rv.l).take u)) ∧ Below w4.heap.size w4 wu) (fun _ i _ => rv.l.length - (intOf i).toNat)
          case atStart => exact ⟨0, _, 0, Nat.zero_le _, rfl, rfl, unhide HU0, unhide HB0⟩
          case round =>
            clear HU0 HB0
            obtain ⟨wu, hwu⟩ : ∃ x : World, x = wr := ⟨_, rfl⟩
            subst hwu
            obtain ⟨u, gu, cu, hu, rfl, rfl, hou, hb⟩ := hrel
            have HOU := hide hou
            have HBU := hide hb
            clear hou hb
            by_cases hlu : u < rv.l.length
            case neg =>
              obtain rfl : u = rv.l.length := by omega
              have hul : (upL rv.l).length = rv.l.length := (upL_perm rv.l).length_eq
              have HRW : Hid (RowV.own wu w4.heap.size ⟨gu, cu, upL rv.l⟩) := by
                have h1 := unhide HOU
                rw [List.take_of_length_le (by omega)] at h1
                unfold Hid RowV.own
                dsimp only
                rw [hul]
                exact h1
              have HMu := hide (HM4.out.later HBU.out)
              have HBB9 : Hid (Below wb.heap.size wb wu) := HB4.out.trans (HBU.out.mono HB4.out.size)
              have KTu := hide (Blk.below HBU.out ztl4 HKT4.out)
              have ct0 : wu.cell? ⟨gt, 0, none⟩ = some (.int .i64 (cheapV r rv.l).id) := (KTu.out 0 (by simp)).1
              have HOCu := hide HMu.out.out
              have hsz := HBB9.out.size
              have hBw := HB4.out.size
              clear HOU KTu
              go_wp2_with (first
                | (at_builtin; refine wpList_append_lies _ rfl _ _ 50 rfl wb.heap.size 42 i0 (.agg #[.int .i64 0, .int .i64 0, .slice none 0 0]) 3 40 Tryz.underlying50 hi0 hz0 hz1 hz2 rfl (by omega) (.slice (some ⟨g2, 0, none⟩) ys.length cap2) ys.length (cellsC ys) rfl (own_later HOCu.out ((Below.refl _ _).alloc (Nat.le_refl _) _)) ⟨wu.heap.size, 0, none⟩ 1 1 [.int .i64 (cheapV r rv.l).id, .int .i64 (k : Int), .slice (some ⟨gu, 0, none⟩) rv.l.length cu] rfl rfl ((Blk.alloc wu [.int .i64 (cheapV r rv.l).id, .int .i64 (k : Int), .slice (some ⟨gu, 0, none⟩) rv.l.length cu] _).news) (by simp [Value.oneCell']) (by omega) (by unfold maxLen; omega) (by omega) (by simp; omega) (wu.heap.size + 1) (by simp) ?_; intro g3 cap3 w7 ho7 hg7 hat7 hlt7)
                | fail)
              have hba : Below wu.heap.size wu (wu.alloc (.cells #[.int .i64 (cheapV r rv.l).id, .int .i64 (k : Int), .slice (some ⟨gu, 0, none⟩) rv.l.length cu] 42)) := (Below.refl _ _).alloc (Nat.le_refl _) _
              have hb4 : Below w4.heap.size w4 (wu.alloc (.cells #[.int .i64 (cheapV r rv.l).id, .int .i64 (k : Int), .slice (some ⟨gu, 0, none⟩) rv.l.length cu] 42)) := HBU.out.trans (hba.mono HBU.out.size)
              have HM7 := hide (HM4.out.pushed (r := ⟨gu, cu, upL rv.l⟩) (t := (cheapV r rv.l).id) (p := (k : Int)) (g3 := g3) (cap3 := cap3) hb4 hBw (HRW.out.later hba) (by dsimp only; rw [hul]; exact ho7) hg7 (by rcases hat7 with h1 | h1; exact .inl h1; exact .inr (by simp; omega)))
              have HB7 : Hid (Below wb.heap.size wb w7) := (HBB9.out.trans (hba.mono HBB9.out.size)).grown hg7 (by simp; omega) (fun b hb => by have := own_base HOCu.out; simp [Value.ownBlock] at hb; omega)
              have HY7 : Hid ((ys ++ [(⟨(cheapV r rv.l).id, (k : Int), gu, cu, upL rv.l⟩ : CRow)]).map CRow.car = cartonsTo r k ++ (PK.take (j + 1)).map (cartonOf r k)) := by
                have h1 := map_take_step (cartonOf r k) PK j hlj
                rw [Hid, List.map_append, unhide HYC, h1, List.append_assoc]
                congr 2
                have h2 : PK.getD j default = rv.l := HR1.out.symm
                rw [h2]; rfl
              clear HMu HBB9 HOCu ho7 hg7 hat7 hlt7 ct0 HYC hba hb4 HRW HBU HM4 HOW4 HB4 HKT4 HC4 HOA
              go_wp2
              go_roundw
              case rel => exact ⟨j + 1, g3, cap3, ys ++ [⟨(cheapV r rv.l).id, (k : Int), gu, cu, upL rv.l⟩], by omega, by go_num, by simp, by have := unhide HYL; simp; omega, unhide HY7, unhide HM7, unhide HB7⟩
              case measure => simp [intOf]; omega
            obtain ⟨p, hp, hsp, hst⟩ := upL_at rv.l u hlu
            have HSTU := hide hst
            have HC5 : Hid (w4.cell? ⟨ga, u, none⟩ = some (.int .i64 (p : Int))) := by
              have h1 := HOA.out.cellAt u (by omega)
              rw [Hid, h1]
              obtain ⟨hl9, he9⟩ := List.getElem?_eq_some_iff.1 hsp
              rw [cellsN_at _ u hl9, he9]
            have HC6 : Hid (w4.cell? ⟨rv.g, p, none⟩ = some (.int .i64 (rv.l.getD p 0))) := by
              obtain ⟨b9, o9, e9, h9⟩ := (own_reads HOW4.out).2 p hp
              injection e9 with e9
              injection e9 with e9 e10
              subst e9
              rw [← e10, Nat.zero_add] at h9
              exact h9
            have HV6 : Hid (∃ z, z = rv.l.getD p 0) := ⟨_, rfl⟩
            obtain ⟨z, hz⟩ := unhide HV6
            rw [← hz] at HC6
            have HZ := hide hz
            have HKL : Hid (((upL rv.l).take u).length = u) := by rw [Hid, List.length_take, (upL_perm rv.l).length_eq]; omega
            have hpn2 : p < rv.l.length := hp
            have hc4 : wu.cell? ⟨bo, j, none⟩ = some (.slice (some ⟨rv.g, 0, none⟩) rv.l.length rv.cap) := (HBU.out.cell (World.block_lt_of_cell? _ _ HC4.out)).trans HC4.out
            clear hsp hst hz hp HV6
            clear hc4
            generalize (upL rv.l).take u = Lu at *
            go_upto_region 16 with fail
            have Qkwu : Hid (wu.ownsRow w4.heap.size 3 1 (.slice (some ⟨gu, 0, none⟩) (u) cu) (u) (ci Lu)) := unhide HOU
            have QKwu := Qkwu
            have Bwu := HBU
            refine wp_region_noPanic ?_
            have Bu0 : Hid (Below w4.heap.size w4 wu.drew) := Bwu.out.drew
            have QKu0 : Hid (wu.drew.ownsRow w4.heap.size 3 1 (.slice (some ⟨gu, 0, none⟩) (u) cu) (u) (ci Lu)) := own_later QKwu.out (Below.refl _ _).drew
            obtain ⟨S, hSdef⟩ : ∃ S : World → Prop, S = (fun w' => w'.cell? ⟨bo, j, none⟩ = some (.slice (some ⟨rv.g, 0, none⟩) rv.l.length rv.cap) ∧ w'.cell? ⟨ga, u, none⟩ = some (.int .i64 (p : Int)) ∧ w'.cell? ⟨rv.g, p, none⟩ = some (.int .i64 z)) := ⟨_, rfl⟩
            have hSmk : ∀ wq, (wq.cell? ⟨bo, j, none⟩ = some (.slice (some ⟨rv.g, 0, none⟩) rv.l.length rv.cap)) → (wq.cell? ⟨ga, u, none⟩ = some (.int .i64 (p : Int))) → (wq.cell? ⟨rv.g, p, none⟩ = some (.int .i64 z)) → S wq := fun wq p0 p1 p2 => by rw [hSdef]; exact ⟨p0, p1, p2⟩
            have hSd : ∀ wq, S wq → (fun w' => w'.cell? ⟨bo, j, none⟩ = some (.slice (some ⟨rv.g, 0, none⟩) rv.l.length rv.cap) ∧ w'.cell? ⟨ga, u, none⟩ = some (.int .i64 (p : Int)) ∧ w'.cell? ⟨rv.g, p, none⟩ = some (.int .i64 z)) wq := fun wq h => by rw [hSdef] at h; exact h
            clear hSdef
            have hHeld : S wu.drew := hSmk wu.drew ((Bu0.out.cell (World.block_lt_of_cell? _ _ HC4.out)).trans HC4.out) ((Bu0.out.cell (World.block_lt_of_cell? _ _ HC5.out)).trans HC5.out) ((Bu0.out.cell (World.block_lt_of_cell? _ _ HC6.out)).trans HC6.out)
            refine wp_region_to (S := S) (T := []) (by kernel_rfl) hHeld (fun _ => ?_)
            generalize wu.drew = u0 at *
            refine wpTo_ts (i := 0) (v := ?_) rfl (by kernel_rfl) hSd (by rfl) (fun w hSw => ?_) (by assumption) ?_
            rotate_left
            · ((try dsimp only [RqC] at hSw); go_simp <;> with_reducible rfl)
            refine wpTo_ts (i := 1) (v := ?_) rfl (by kernel_rfl) hSd (by rfl) (fun w hSw => ?_) (by assumption) ?_
            rotate_left
            · ((try dsimp only [RqC] at hSw); go_simp <;> with_reducible rfl)
            refine wpTo_ts (i := 2) (v := ?_) rfl (by kernel_rfl) hSd (by rfl) (fun w hSw => ?_) (by assumption) ?_
            rotate_left
            · ((try dsimp only [RqC] at hSw); go_simp <;> with_reducible rfl)
            refine wpTo_ts (i := 3) (v := ?_) rfl (by kernel_rfl) hSd (by rfl) (fun w hSw => ?_) (by assumption) ?_
            rotate_left
            · ((try dsimp only [RqC] at hSw); go_simp <;> with_reducible rfl)
            refine wpTo_ts (i := 4) (v := ?_) rfl (by kernel_rfl) hSd (by rfl) (fun w hSw => ?_) (by assumption) ?_
            rotate_left
            · ((try dsimp only [RqC] at hSw); go_simp <;> with_reducible rfl)
            refine wpTo_ts (i := 5) (v := ?_) rfl (by kernel_rfl) hSd (by rfl) (fun w hSw => ?_) (by assumption) ?_
            rotate_left
            · ((try dsimp only [RqC] at hSw); go_simp <;> with_reducible rfl)
            try simp only [Act.put, zz1, zz2, zz3, zz4, zz5, zz6]
            refine wpTo_ts (i := 6) (v := ?_) rfl (by kernel_rfl) hSd (by rfl) (fun w hSw => ?_) (by assumption) ?_
            rotate_left
            · ((try dsimp only [RqC] at hSw); go_simp <;> with_reducible rfl)
            refine wpTo_ts (i := 7) (v := ?_) rfl (by kernel_rfl) hSd (by rfl) (fun w hSw => ?_) (by assumption) ?_
            rotate_left
            · ((try dsimp only [RqC] at hSw); go_simp <;> with_reducible rfl)
            refine wpTo_ts (i := 8) (v := ?_) rfl (by kernel_rfl) hSd (by rfl) (fun w hSw => ?_) (by assumption) ?_
            rotate_left
            · ((try dsimp only [RqC] at hSw); go_simp <;> with_reducible rfl)
            refine wpTo_ts (i := 9) (v := ?_) rfl (by kernel_rfl) hSd (by rfl) (fun w hSw => ?_) (by assumption) ?_
            rotate_left
            · ((try dsimp only [RqC] at hSw); go_simp <;> with_reducible rfl)
            refine wpTo_ts (i := 10) (v := ?_) rfl (by kernel_rfl) hSd (by rfl) (fun w hSw => ?_) (by assumption) ?_
            rotate_left
            · ((try dsimp only [RqC] at hSw); go_simp <;> with_reducible rfl)
            try simp only [Act.put, zz1, zz2, zz3, zz4, zz5, zz6]
            refine wpTo_inv (fun a0 listed ai wi => ∃ (b11 b12 b13 : Bool) (gv gN cN : Nat), listed = #[true, true, true, true, true, true, true, true, true, true, true, b11, b12, b13] ∧ ai = fillS b13 11 (.slice (some ⟨gN, 0, none⟩) (u + 1) cN) (fillS b12 66 (.slice (some ⟨gN, 0, none⟩) (u + 1) cN) (fillS b11 65 (.slice (some ⟨gv, 0, none⟩) 1 1) (a0))) ∧ Hid (Below w4.heap.size w4 wi) ∧ Hid (Fk b12 → wi.ownsRow w4.heap.size 3 1 (.slice (some ⟨gu, 0, none⟩) (u) cu) (u) (ci Lu)) ∧ Hid (Tk b11 → Blk wi gv [.int .i64 z] ∧ gv < wi.heap.size ∧ w4.heap.size ≤ gv) ∧ Hid (Tk b12 → wi.ownsRow w4.heap.size 3 1 (.slice (some ⟨gN, 0, none⟩) (u + 1) cN) (u + 1) (ci Lu ++ [.int .i64 z])) ∧ Hid (Tk b11 → Fk b12 → gu ≠ gv) ∧ Hid (Tk b12 → Tk b11) ∧ Hid (Tk b13 → Tk b11 ∧ Tk b12)) ⟨false, false, false, 0, 0, 0, rfl, by simp only [fillS_false], Bu0.out, (fun _ => unhide QKu0), (fun h => by cases h), (fun h => by cases h), (fun h _ => by cases h), (fun h => by cases h), (fun h => by cases h)⟩ ?hS ?hT ?step ?fin _ (by decide)
            case hS =>
              rintro listed ai wi ⟨b11, b12, b13, gv, gN, cN, rfl, ha, FB, FOK, FKv, FON, FNKv, FC12, FC13⟩ hTf
              exact hSmk wi (((FB.out).cell (World.block_lt_of_cell? _ _ HC4.out)).trans HC4.out) (((FB.out).cell (World.block_lt_of_cell? _ _ HC5.out)).trans HC5.out) (((FB.out).cell (World.block_lt_of_cell? _ _ HC6.out)).trans HC6.out)
            case hT =>
              exact fun _ _ _ _ f hf => by cases hf
            case step =>
              rintro listed ai wi i o ⟨b11, b12, b13, gv, gN, cN, rfl, ha, FB, FOK, FKv, FON, FNKv, FC12, FC13⟩ ho hl hall
              have hi : i < 14 := (Array.getElem?_eq_some_iff.1 ho).1
              obtain rfl | rfl | rfl | rfl | rfl | rfl | rfl | rfl | rfl | rfl | rfl | rfl | rfl | rfl : i = 0 ∨ i = 1 ∨ i = 2 ∨ i = 3 ∨ i = 4 ∨ i = 5 ∨ i = 6 ∨ i = 7 ∨ i = 8 ∨ i = 9 ∨ i = 10 ∨ i = 11 ∨ i = 12 ∨ i = 13 := by omega
              · exact absurd hl (by simp)
              · exact absurd hl (by simp)
              · exact absurd hl (by simp)
              · exact absurd hl (by simp)
              · exact absurd hl (by simp)
              · exact absurd hl (by simp)
              · exact absurd hl (by simp)
              · exact absurd hl (by simp)
              · exact absurd hl (by simp)
              · exact absurd hl (by simp)
              · exact absurd hl (by simp)
              · obtain rfl := Option.some.inj ho
                obtain rfl : b11 = false := by simpa using hl
                obtain rfl : b12 = false := Tk_no (fun p => by have h8 := FC12.out p; simp [Tk] at h8)
                obtain rfl : b13 = false := Tk_no (fun p => by have h8 := FC13.out p; simp [Tk] at h8)
                clear ho hl hall hi
                simp only [fillS, pickS_true, pickS_false, Act.put, zz7, zz8, zz9, zz10, zz11, zz1, zz2, zz3, zz4, zz5, zz6] at ha
                subst ha
                refine wpOp_stepS (o := _) rfl (fun K hK => ?_)
                go_simp
                refine hK.out _ _ ?_
                exact ⟨true, false, false, wi.heap.size, gN, cN, rfl, by simp only [fillS, pickS_true, pickS_false, Act.put, zz7, zz8, zz9, zz10, zz11, zz1, zz2, zz3, zz4, zz5, zz6], ((FB.out.alloc FB.out.size _)), (fun q12 => ((unhide FOK q12).alloc _)), (fun p11 => ⟨Blk.allocAt [.int .i64 z] (by rfl), lt_alloc_new wi _, (FB.out).size⟩), (fun p12 => (by cases p12)), (fun p11 q12 => (Nat.ne_of_lt ((unhide FOK q12).lt _ rfl).2)), (fun p12 => (by cases p12)), (fun p13 => (by cases p13))⟩
              · obtain rfl := Option.some.inj ho
                obtain rfl : b12 = false := by simpa using hl
                obtain rfl : b11 = true := by simpa using hall ⟨11, .data⟩ (by simp) rfl
                obtain rfl : b13 = false := Tk_no (fun p => by have h8 := FC13.out p; simp [Tk] at h8)
                clear ho hl hall hi
                simp only [fillS, pickS_true, pickS_false, Act.put, zz7, zz8, zz9, zz10, zz11, zz1, zz2, zz3, zz4, zz5, zz6] at ha
                subst ha
                have hsrc := FOK.out rfl
                refine wpOp_stepS (o := _) rfl (fun K hK => ?_)
                refine step_append_some _ (by rfl) _ _ 29 (by rfl) w4.heap.size 3 j0 (.int .i64 0) 1 8 Tryz.underlying29 hj0 hy0 hy1 hy2 rfl (by omega) (.slice (some ⟨gu, 0, none⟩) (u) cu) (u) (ci Lu) (by rfl) hsrc (by simp) ⟨gv, 0, none⟩ (1) (1) ([.int .i64 z]) (by rfl) rfl ((FKv.out rfl).1).news (by simp [Value.oneCell']) (by unfold maxLen; omega) (by omega) (FB.out).size ?_
                intro gnew cnew wz hown hg hat hlt
                refine hK.out _ _ ?_
                exact ⟨true, true, false, gv, gnew, cnew, rfl, by simp only [fillS, pickS_true, pickS_false, Act.put, zz7, zz8, zz9, zz10, zz11, zz1, zz2, zz3, zz4, zz5, zz6], ((FB.out.grown hg FB.out.size (fun b hb => by have := own_base hsrc; simp [Value.ownBlock] at hb; omega))), (fun q12 => (by cases q12)), (fun p11 => ⟨Blk.gb (unhide FKv p11).1 hg (unhide FKv p11).2.1 (Ne.symm (unhide FNKv p11 rfl)), Nat.lt_of_lt_of_le (unhide FKv p11).2.1 hg.size, (unhide FKv p11).2.2⟩), (fun p12 => hown), (fun p11 q12 => (by cases q12)), (fun p12 => rfl), (fun p13 => (by cases p13))⟩
              · obtain rfl := Option.some.inj ho
                obtain rfl : b13 = false := by simpa using hl
                obtain rfl : b12 = true := by simpa using hall ⟨12, .data⟩ (by simp) rfl
                obtain rfl := FC12.out rfl
                clear ho hl hall hi
                simp only [fillS, pickS_true, pickS_false, Act.put, zz7, zz8, zz9, zz10, zz11, zz1, zz2, zz3, zz4, zz5, zz6] at ha
                subst ha
                refine wpOp_stepS (o := _) rfl (fun K hK => ?_)
                go_simp
                refine hK.out _ _ ?_
                exact ⟨true, true, true, gv, gN, cN, rfl, by simp only [fillS, pickS_true, pickS_false, Act.put, zz7, zz8, zz9, zz10, zz11, zz1, zz2, zz3, zz4, zz5, zz6], (FB.out), (fun q12 => (by cases q12)), (fun p11 => (unhide FKv p11)), (fun p12 => (unhide FON p12)), (fun p11 q12 => (by cases q12)), (fun p12 => (unhide FC12 p12)), (fun p13 => ⟨rfl, rfl⟩)⟩
            case fin =>
              rintro listed ai wi ⟨b11, b12, b13, gv, gN, cN, rfl, ha, FB, FOK, FKv, FON, FNKv, FC12, FC13⟩ hall
              obtain rfl : b11 = true := by
                have h9 := hall 11 _ rfl (by
                  intro e he hbd
                  simp at he
                  subst he
                  simp
                  )
                simpa using h9
              obtain rfl : b12 = true := by
                have h9 := hall 12 _ rfl (by
                  intro e he hbd
                  simp at he
                  rcases he with rfl | rfl <;> simp
                  )
                simpa using h9
              obtain rfl : b13 = true := by
                have h9 := hall 13 _ rfl (by
                  intro e he hbd
                  simp at he
                  rcases he with rfl | rfl | rfl | rfl | rfl | rfl | rfl | rfl | rfl | rfl | rfl | rfl | rfl | rfl | rfl <;> simp
                  )
                simpa using h9
              clear hall
              simp only [fillS, pickS_true, pickS_false, Act.put, zz7, zz8, zz9, zz10, zz11, zz1, zz2, zz3, zz4, zz5, zz6] at ha
              subst ha
              refine NoPanic.normal ?_
              have Bwi := FB
              have Kvwi := hide (FKv.out rfl).1
              have Zvwi := (FKv.out rfl).2.1
              have Gv := (FKv.out rfl).2.2
              have ONwi := hide (FON.out rfl)
              clear FB FOK FKv FON FNKv FC12 FC13
              have HO3 : Hid (wi.ownsRow w4.heap.size 3 1 (.slice (some ⟨gN, 0, none⟩) (u + 1) cN) (u + 1) (ci ((upL rv.l).take (u + 1)))) := by rw [Hid, unhide HSTU, ← unhide HZ]; have := unhide ONwi; simpa [ci] using this
              go_wp2
              go_roundw
              case rel => exact ⟨u + 1, gN, cN, by omega, by go_num, rfl, unhide HO3, unhide Bwi⟩
              case measure => simp [intOf]; omega
end Go.Proofs.YtphdeojiehigpaaGreatDoor
