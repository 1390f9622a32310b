/- The cartons of an order: the program. -/
import Derived.Test.YtphdeojiehigpaaGreatDoorPkQ
import Derived.Test.YtphdeojiehigpaaGreatDoorPkM
import Derived.Test.YtphdeojiehigpaaGreatDoorPkP
import Derived.Test.YtphdeojiehigpaaGreatDoorGroupsOf
import Derived.Test.YtphdeojiehigpaaGreatDoorLawUnitsOf
import Derived.Test.YtphdeojiehigpaaGreatDoorPkC
import Derived.Deep.DeepMust
import Derived.Deep.DeepCutAuto
import Derived.Deep.RegionHeld3
namespace Go.Proofs.YtphdeojiehigpaaGreatDoor
open Go Go.RowKit
set_option linter.unusedVariables false
set_option linter.unusedSimpArgs false

set_option maxRecDepth 100000 in
set_option maxHeartbeats 4000000 in
theorem cartonsOf_any (r : ReqV) (h : ReqH) (w : World) (hr : RdReq w r h) (hs : r.small) (hg : ErrT w) :
    Calls Tryz.prog 27 #[reqVal r h] w fun e w' => ∃ g cap xs, e = .returned (.slice (some ⟨g, 0, none⟩) xs.length cap) ∧ OwnC w' w.heap.size g cap xs ∧ xs.map CRow.car = cartonsR r ∧ Below w.heap.size w w' := by
  obtain ⟨i0, hi0, hz0, hz1, hz2⟩ := info_parts Tryz.infoCarton
  have hK4 := groupsR_len r
  have HR := hide hr
  have HG := hide hg
  clear hr hg
  unfold reqVal
  go_enter Tryz.func27, Tryz.ntmps27
  go_upto_region 1 with fail
  generalize hW : (w.alloc (.cells #[.int .i64 r.way, .int .i64 r.pal.wd, .int .i64 r.pal.dp, .int .i64 r.pal.ht, .int .i64 r.pal.gram, .int .i64 r.classes, .slice h.ap r.pairs.length h.cp, .slice h.at' r.types.length h.ct, .int .i64 r.master, .slice h.ai r.items.length h.ci] 40)) = wb at *
  obtain ⟨Bwb, Kawb, Zawb⟩ := en1 hW
  have Ga : w.heap.size ≤ w.heap.size := by omega
  clear hW
  obtain ⟨ca0, ca1, ca2, ca3, ca4, ca5, ca6, ca7, ca8, ca9⟩ := Blk.cs10 Kawb.out
  go_wp2_with fail
  clear ca0 ca1 ca2 ca3 ca4 ca5 ca6 ca7 ca8 ca9
  have HO0 : Hid ((wb.alloc (.cells #[] 42)).ownsRow wb.heap.size 42 3 (.slice (some ⟨wb.heap.size, 0, none⟩) 0 0) 0 []) := own_lit0 wb (Nat.le_refl _)
  have HB0 : Hid (Below wb.heap.size wb (wb.alloc (.cells #[] 42))) := (Below.refl _ _).alloc (Nat.le_refl _) _
  generalize (wb.alloc (.cells #[] 42)) = wl at *
  refine (groupsOf_any r h wl (HR.out.mono (Bwb.out.trans (HB0.out.mono Bwb.out.size))) hs (HG.out.later (Bwb.out.trans (HB0.out.mono Bwb.out.size)))).mono ?_
  rintro e w2 ⟨gg, cg, gxs, rfl, hgo, hgl, hb⟩
  have hKl : gxs.length = (groupsR r).length := by rw [← hgl, List.length_map]
  rw [hKl]
  have HO2 := hide (own_later HO0.out hb)
  have HB2 : Hid (Below wb.heap.size wb w2) := HB0.out.trans (hb.mono HB0.out.size)
  clear HO0 HB0 hgo hgl hb hKl
  go_wp2_with fail
  go_loopw [3, 13] (fun s i wr => ∃ (k g cap : Nat) (xs : List CRow), k ≤ (groupsR r).length ∧ i = .int .i64 k ∧ s = .slice (some ⟨g, 0, none⟩) xs.length cap ∧ xs.map CRow.car = cartonsTo r k ∧ OwnC wr wb.heap.size g cap xs ∧ Below wb.heap.size wb wr) (fun _ i _ => (groupsR r).length - (intOf i).toNat)
  case atStart => exact ⟨0, wb.heap.size, 0, [], Nat.zero_le _, rfl, rfl, rfl, ⟨unhide HO2, Rws.nil⟩, unhide HB2⟩
  case round =>
    clear HO2 HB2
    obtain ⟨k, g, cap, xs, hk, rfl, rfl, hx, how, hb⟩ := hrel
    have HX := hide hx
    have HO := hide how
    have HBB := hide hb
    have Bwr := hide (Bwb.out.trans (hb.mono Bwb.out.size))
    have Kawr := hide (Blk.below hb Zawb Kawb.out)
    have Zawr := Nat.lt_of_lt_of_le Zawb hb.size
    clear hx how hb
    by_cases hlk : k < (groupsR r).length
    case neg =>
      obtain rfl : k = (groupsR r).length := by omega
      go_wp2
      go_ret
      exact ⟨g, cap, xs, rfl, HO.out.low Bwb.out.size, unhide HX, unhide Bwr⟩
    go_upto_region 5 with fail
    have Qrwr : Hid (RdReq wr r h) := HR.out.mono Bwr.out
    have Qgwr : Hid (ErrT wr) := HG.out.later Bwr.out
    have Bwr0 := hide (Below.refl wr.heap.size wr)
    go_cut [20, 21, 22] (fun v20 v21 v22 wc => ∃ oa oc P, v20 = .slice oa (packR r (unitsOfR r (k : Int))).length oc ∧ v21 = .int .i64 (packR r (unitsOfR r (k : Int))).length ∧ v22 = .int .i64 0 ∧ Own2A wc wr.heap.size oa oc P ∧ P.map RowV.l = packR r (unitsOfR r (k : Int)) ∧ Below wr.heap.size wr wc)
    case first =>
      refine wp_region_noPanic ?_
      have Bu0 : Hid (Below wr.heap.size wr wr.drew) := Bwr0.out.drew
      have Qru0 : Hid (RdReq wr.drew r h) := Qrwr.out.mono (Below.refl _ _).drew
      have Qgu0 : Hid (ErrT wr.drew) := Qgwr.out.later (Below.refl _ _).drew
      have Kau0 : Hid (Blk wr.drew w.heap.size [.int .i64 r.way, .int .i64 r.pal.wd, .int .i64 r.pal.dp, .int .i64 r.pal.ht, .int .i64 r.pal.gram, .int .i64 r.classes, .slice h.ap r.pairs.length h.cp, .slice h.at' r.types.length h.ct, .int .i64 r.master, .slice h.ai r.items.length h.ci]) := unhide Kawr
      have Zau0 : w.heap.size < wr.drew.heap.size := Zawr
      obtain ⟨S, hSdef⟩ : ∃ S : World → Prop, S = (fun w' => RqC w' w.heap.size r h) := ⟨_, rfl⟩
      have hSmk : ∀ wq, Blk wq w.heap.size [.int .i64 r.way, .int .i64 r.pal.wd, .int .i64 r.pal.dp, .int .i64 r.pal.ht, .int .i64 r.pal.gram, .int .i64 r.classes, .slice h.ap r.pairs.length h.cp, .slice h.at' r.types.length h.ct, .int .i64 r.master, .slice h.ai r.items.length h.ci] → S wq := fun wq ka => by rw [hSdef]; exact RqC.of ka
      have hSd : ∀ wq, S wq → (fun w' => RqC w' w.heap.size r h) wq := fun wq h => by rw [hSdef] at h; exact h
      clear hSdef
      have hHeld : S wr.drew := hSmk wr.drew Kau0.out
      refine wp_region_to (S := S) (T := []) (by kernel_rfl) hHeld (fun _ => ?_)
      generalize wr.drew = u0 at *
      refine wpTo_ts (i := 0) (v := ?_) rfl (by kernel_rfl) hSd (by rfl) (fun w hSw => ?_) (by assumption) ?_
      rotate_left
      · ((try dsimp only [RqC] at hSw); go_simp <;> with_reducible rfl)
      refine wpTo_ts (i := 1) (v := ?_) rfl (by kernel_rfl) hSd (by rfl) (fun w hSw => ?_) (by assumption) ?_
      rotate_left
      · ((try dsimp only [RqC] at hSw); go_simp <;> with_reducible rfl)
      refine wpTo_ts (i := 2) (v := ?_) rfl (by kernel_rfl) hSd (by rfl) (fun w hSw => ?_) (by assumption) ?_
      rotate_left
      · ((try dsimp only [RqC] at hSw); go_simp <;> with_reducible rfl)
      try simp only [Act.put, zz1, zz2, zz3, zz4, zz5, zz6]
      refine wpTo_ts (i := 6) (v := ?_) rfl (by kernel_rfl) hSd (by rfl) (fun w hSw => ?_) (by assumption) ?_
      rotate_left
      · ((try dsimp only [RqC] at hSw); go_simp <;> with_reducible rfl)
      try simp only [Act.put, zz1, zz2, zz3, zz4, zz5, zz6]
      refine wpTo_ready (rs := [3]) (by kernel_rfl) (by simp) ?_
      refine AllTo.cons (o := _) rfl (fun K hK => ?_) ?_
      ·
       (try simp only [zz1, zz2, zz3])
       go_simp
       refine (unitsOf_opt r h (k : Int) u0 Qru0.out hs Qgu0.out).mono ?_
       rintro e u1 ⟨au, cu, rfl, hou, hb⟩
       have Bu1 := hide (Bu0.out.trans (hb.mono Bu0.out.size))
       have Kau1 := hide (Blk.below hb Zau0 Kau0.out)
       have Zau1 := Nat.lt_of_lt_of_le Zau0 hb.size
       have Qru1 : Hid (RdReq u1 r h) := Qru0.out.mono hb
       have Qgu1 : Hid (ErrT u1) := Qgu0.out.later hb
       have Quu1 : Hid (Rd u1 au (unitsOfR r (k : Int)).length (unitsOfR r (k : Int))) := hou.read
       clear hou
       clear hb
       clear Bu0 Kau0 Zau0 Qru0 Qgu0
       clear hHeld
       go_wp2_with fail
       have hHeld := hSmk u1 Kau1.out
       refine hK.out _ _ (fun _ => hHeld) ?_
       clear hK K
       try simp only [Act.put, zz1, zz2, zz3, zz4, zz5, zz6]
       refine wpTo_ready (rs := [4]) (by kernel_rfl) (by simp) ?_
       refine AllTo.cons (o := _) rfl (fun K hK => ?_) ?_
       ·
        (try simp only [zz1, zz2, zz3])
        go_simp
        refine (packWay_any r h au (unitsOfR r (k : Int)).length cu (unitsOfR r (k : Int)) u1 Qru1.out hs Qgu1.out Quu1.out (by have := unitsOfR_len r (k : Int); omega)).mono ?_
        rintro e u2 ⟨oa, oc, P, rfl, hop, hpl, hb⟩
        have Bu2 := hide (Bu1.out.trans (hb.mono Bu1.out.size))
        have Kau2 := hide (Blk.below hb Zau1 Kau1.out)
        have Zau2 := Nat.lt_of_lt_of_le Zau1 hb.size
        have Qru2 : Hid (RdReq u2 r h) := Qru1.out.mono hb
        have Qgu2 : Hid (ErrT u2) := Qgu1.out.later hb
        have Quu2 : Hid (Rd u2 au (unitsOfR r (k : Int)).length (unitsOfR r (k : Int))) := Rd.mono Quu1.out hb
        have HOP : Hid (Own2A u2 wr.heap.size oa oc P) := hop.low Bu1.out.size
        have HPL := hide hpl
        clear hop hpl
        clear hb
        clear Bu1 Kau1 Zau1 Qru1 Qgu1 Quu1
        clear hHeld
        go_wp2_with fail
        have hHeld := hSmk u2 Kau2.out
        refine hK.out _ _ (fun _ => hHeld) ?_
        clear hK K
        try simp only [Act.put, zz1, zz2, zz3, zz4, zz5, zz6]
        refine wpTo_ts (i := 5) (v := ?_) rfl (by kernel_rfl) hSd (by rfl) (fun w hSw => ?_) (by assumption) ?_
        rotate_left
        · ((try dsimp only [RqC] at hSw); go_simp <;> with_reducible rfl)
        try simp only [Act.put, zz1, zz2, zz3, zz4, zz5, zz6]
        refine wpTo_done (by kernel_rfl) ?_ _
        refine NoPanic.normal ?_
        go_wp2_with fail
        go_meet
        case rel => exact ⟨oa, oc, P, rfl, rfl, rfl, unhide HOP, unhide HPL, unhide Bu2⟩
       exact AllTo.nil
      exact AllTo.nil
    case rest =>
      obtain ⟨oa, oc, P, rfl, rfl, rfl, hop, hpl, hb⟩ := hcut
      have hPl : P.length = (packR r (unitsOfR r (k : Int))).length := by rw [← hpl, List.length_map]
      have hB0 := HBB.out.size
      have HMK : Hid (∃ bo, (oa = some ⟨bo, 0, none⟩ ∨ P = []) ∧ Mk wc wb.heap.size g cap xs bo 0 P) := by
        rcases hop with ⟨h1, h2, h3⟩ | ⟨bo, h1, h2⟩
        · subst h3
          exact ⟨w.heap.size, .inr rfl, HO.out.opened0 hb Zawb⟩
        · exact ⟨bo, .inl h1, HO.out.opened hb hB0 h2⟩
      have HBC : Hid (Below wb.heap.size wb wc) := HBB.out.trans (hb.mono hB0)
      have hpt := packR_tot r (unitsOfR r (k : Int))
      have hul := unitsOfR_len r (k : Int)
      have HRL : Hid (∀ i, i < (packR r (unitsOfR r (k : Int))).length → ((packR r (unitsOfR r (k : Int))).getD i []).length ≤ 12) := fun i hi => by have h1 := tot2_row _ i hi; have h2 := hpt.1; omega
      have hpn : (packR r (unitsOfR r (k : Int))).length ≤ 12 := by omega
      have hxl : xs.length ≤ 48 := by have h1 := cartonsTo_len r k; rw [← unhide HX, List.length_map] at h1; omega
      obtain ⟨bo, hbo, hmk⟩ := unhide HMK
      have HMK0 := hide hmk
      have HST := hide (cartonsTo_step r k)
      have HPL := hide hpl
      have hbo2 : oa = some ⟨bo, 0, none⟩ ∨ (packR r (unitsOfR r (k : Int))).length = 0 := by
        rcases hbo with h1 | h1
        · exact .inl h1
        · refine .inr ?_
          rw [← hPl, h1]; rfl
      clear HMK hop hb hmk hbo Kawr Zawr Qrwr Qgwr Bwr0 HO hpt hul hpl
      generalize packR r (unitsOfR r (k : Int)) = PK at *
      have HB9 : Hid (xs.length ≤ 48) := hxl
      go_wp2_with fail
      go_loopw [3, 22] (fun s i wi => ∃ (j g2 cap2 : Nat) (ys : List CRow) (R : List RowV), j ≤ PK.length ∧ i = .int .i64 j ∧ s = .slice (some ⟨g2, 0, none⟩) ys.length cap2 ∧ ys.length = xs.length + j ∧ R.map RowV.l = PK.drop j ∧ ys.map CRow.car = cartonsTo r k ++ (PK.take j).map (cartonOf r k) ∧ Mk wi wb.heap.size g2 cap2 ys bo j R ∧ Below wb.heap.size wb wi) (fun _ i _ => PK.length - (intOf i).toNat)
      case atStart => exact ⟨0, g, cap, xs, P, Nat.zero_le _, rfl, rfl, rfl, by rw [List.drop_zero]; exact unhide HPL, by rw [List.take_zero, List.map_nil, List.append_nil]; exact unhide HX, unhide HMK0, unhide HBC⟩
      case round =>
        clear HMK0 HBC
        obtain ⟨wi, hwi⟩ : ∃ x : World, x = wr := ⟨_, rfl⟩
        subst hwi
        obtain ⟨j, g2, cap2, ys, R, hj, rfl, rfl, hyl, hRl, hyc, hmk, hb⟩ := hrel
        have HM := hide hmk
        have HYC := hide hyc
        have HYL := hide hyl
        have hyl2 : ys.length ≤ 60 := by omega
        have HRL2 := hide hRl
        have HBI := hide hb
        have Bwi := hide (Bwb.out.trans (hb.mono Bwb.out.size))
        have Kawi := hide (Blk.below hb Zawb Kawb.out)
        have Zawi := Nat.lt_of_lt_of_le Zawb hb.size
        clear hmk hyc hb hyl
        by_cases hlj : j < PK.length
        case neg =>
          obtain rfl : j = PK.length := by omega
          have hR0 : R = [] := by
            have := hRl; rw [List.drop_length] at this
            exact List.map_eq_nil_iff.1 this
          subst hR0
          have HOC := hide HM.out.done
          have HYT : Hid (ys.map CRow.car = cartonsTo r (k + 1)) := by rw [Hid, unhide HYC, List.take_length, unhide HST]
          clear hRl HM
          go_wp2
          go_roundw
          case rel => exact ⟨k + 1, g2, cap2, ys, by omega, by go_num, rfl, unhide HYT, unhide HOC, unhide HBI⟩
          case measure => simp [intOf]; omega
        obtain rfl : oa = some ⟨bo, 0, none⟩ := by rcases hbo2 with h1 | h1; exact h1; omega
        obtain ⟨rv, R', rfl⟩ : ∃ rv R', R = rv :: R' := by
          cases R with
          | nil => have := congrArg List.length hRl; simp at this; omega
          | cons rv R' => exact ⟨rv, R', rfl⟩
        have hdr : PK.drop j = PK.getD j [] :: PK.drop (j + 1) := by rw [List.drop_eq_getElem_cons hlj]; simp [hlj]
        rw [hdr, List.map_cons] at hRl
        have HR1 := hide (List.cons.inj hRl).1
        have HR2 := hide (List.cons.inj hRl).2
        have hrl : rv.l.length ≤ 12 := by rw [unhide HR1]; exact HRL.out j hlj
        obtain ⟨hown, hrg, hrb⟩ := HM.out.head
        have HOW := hide hown
        have hc0 : wi.cell? ⟨bo, j, none⟩ = some (.slice (some ⟨rv.g, 0, none⟩) rv.l.length rv.cap) := by
          have h1 := HM.out.src 0 (by simp)
          rw [Nat.add_zero] at h1
          exact h1
        clear hRl hdr hown
        obtain ⟨ca0, ca1, ca2, ca3, ca4, ca5, ca6, ca7, ca8, ca9⟩ := Blk.cs10 Kawi.out
        go_wp2_with fail
        clear hc0 ca0 ca1 ca2 ca3 ca4 ca5 ca6 ca7 ca8 ca9
        refine (cheapest_any r h (some ⟨rv.g, 0, none⟩) rv.l.length rv.cap rv.l wi (HR.out.mono Bwi.out) hs (HG.out.later Bwi.out) (own_reads HOW.out) (by omega)).mono ?_
        rintro e w4 ⟨rfl, hb⟩
        have HM4 := hide (HM.out.later hb)
        have HOW4 := hide (HOW.out.later hb)
        have HB4 : Hid (Below wb.heap.size wb w4) := HBI.out.trans (hb.mono HBI.out.size)
        clear hb HM HOW HBI Kawi Zawi Bwi
        go_wp2_with fail
        have KT : Hid (Blk (w4.alloc (.cells #[.int .i64 (cheapV r rv.l).id, .int .i64 (cheapV r rv.l).wd, .int .i64 (cheapV r rv.l).ht, .int .i64 (cheapV r rv.l).dp, .int .i64 (cheapV r rv.l).tare, .int .i64 (cheapV r rv.l).gram, .int .i64 (cheapV r rv.l).cost] 55)) w4.heap.size [.int .i64 (cheapV r rv.l).id, .int .i64 (cheapV r rv.l).wd, .int .i64 (cheapV r rv.l).ht, .int .i64 (cheapV r rv.l).dp, .int .i64 (cheapV r rv.l).tare, .int .i64 (cheapV r rv.l).gram, .int .i64 (cheapV r rv.l).cost]) := Blk.alloc w4 [.int .i64 (cheapV r rv.l).id, .int .i64 (cheapV r rv.l).wd, .int .i64 (cheapV r rv.l).ht, .int .i64 (cheapV r rv.l).dp, .int .i64 (cheapV r rv.l).tare, .int .i64 (cheapV r rv.l).gram, .int .i64 (cheapV r rv.l).cost] _
        have hbt : Below w4.heap.size w4 (w4.alloc (.cells #[.int .i64 (cheapV r rv.l).id, .int .i64 (cheapV r rv.l).wd, .int .i64 (cheapV r rv.l).ht, .int .i64 (cheapV r rv.l).dp, .int .i64 (cheapV r rv.l).tare, .int .i64 (cheapV r rv.l).gram, .int .i64 (cheapV r rv.l).cost] 55)) := (Below.refl _ _).alloc (Nat.le_refl _) _
        have hzt : w4.heap.size < (w4.alloc (.cells #[.int .i64 (cheapV r rv.l).id, .int .i64 (cheapV r rv.l).wd, .int .i64 (cheapV r rv.l).ht, .int .i64 (cheapV r rv.l).dp, .int .i64 (cheapV r rv.l).tare, .int .i64 (cheapV r rv.l).gram, .int .i64 (cheapV r rv.l).cost] 55)).heap.size := by simp
        have HM5 := hide (HM4.out.later hbt)
        have HOW5 := hide (HOW4.out.later hbt)
        have HB5 : Hid (Below wb.heap.size wb (w4.alloc (.cells #[.int .i64 (cheapV r rv.l).id, .int .i64 (cheapV r rv.l).wd, .int .i64 (cheapV r rv.l).ht, .int .i64 (cheapV r rv.l).dp, .int .i64 (cheapV r rv.l).tare, .int .i64 (cheapV r rv.l).gram, .int .i64 (cheapV r rv.l).cost] 55))) := HB4.out.trans (hbt.mono HB4.out.size)
        have hrt : w4.heap.size ≠ rv.g := by have := HOW4.out.lt.2; omega
        obtain ⟨G7, hG7⟩ : ∃ G7, G7 = w4.heap.size := ⟨_, rfl⟩
        rw [← hG7] at KT hzt hrt ⊢
        generalize (w4.alloc (.cells #[.int .i64 (cheapV r rv.l).id, .int .i64 (cheapV r rv.l).wd, .int .i64 (cheapV r rv.l).ht, .int .i64 (cheapV r rv.l).dp, .int .i64 (cheapV r rv.l).tare, .int .i64 (cheapV r rv.l).gram, .int .i64 (cheapV r rv.l).cost] 55)) = w5 at *
        clear hbt HM4 HOW4 hG7 HB4
        refine (sortRow_any wb.heap.size rv w5 HOW5.out hrl).mono ?_
        rintro e w6 ⟨rfl, ho6, hg6⟩
        have hul : (upL rv.l).length = rv.l.length := (upL_perm rv.l).length_eq
        have HM6 := hide (HM5.out.turned hg6 ho6 hul)
        have HB6 : Hid (Below wb.heap.size wb w6) := HB5.out.grown hg6 HB5.out.size (fun b hb => by have := HOW5.out.lt.1; injection hb with hb; omega)
        have KT6 := hide (Blk.gb KT.out hg6 hzt hrt)
        have ct0 : w6.cell? ⟨G7, 0, none⟩ = some (.int .i64 (cheapV r rv.l).id) := (KT6.out 0 (by simp)).1
        have HOC6 := hide HM6.out.out
        have hsz := HB6.out.size
        clear HM5 HOW5 HB5 KT KT6 ho6 hg6 hzt
        have hsz2 := hsz
        go_wp2_with (first
          | (at_builtin; refine wpList_append_lies _ rfl _ _ 50 rfl wb.heap.size 42 i0 (.agg #[.int .i64 0, .int .i64 0, .slice none 0 0]) 3 40 Tryz.underlying50 hi0 hz0 hz1 hz2 rfl (by omega) (.slice (some ⟨g2, 0, none⟩) ys.length cap2) ys.length (cellsC ys) rfl (own_later HOC6.out ((Below.refl _ _).alloc (Nat.le_refl _) _)) ⟨w6.heap.size, 0, none⟩ 1 1 [.int .i64 (cheapV r rv.l).id, .int .i64 (k : Int), .slice (some ⟨rv.g, 0, none⟩) rv.l.length rv.cap] rfl rfl ((Blk.alloc w6 [.int .i64 (cheapV r rv.l).id, .int .i64 (k : Int), .slice (some ⟨rv.g, 0, none⟩) rv.l.length rv.cap] _).news) (by simp [Value.oneCell']) (by omega) (by unfold maxLen; omega) (by omega) (by simp; omega) (w6.heap.size + 1) (by simp) ?_; intro g3 cap3 w7 ho7 hg7 hat7 hlt7)
          | fail)
        have hba : Below w6.heap.size w6 (w6.alloc (.cells #[.int .i64 (cheapV r rv.l).id, .int .i64 (k : Int), .slice (some ⟨rv.g, 0, none⟩) rv.l.length rv.cap] 42)) := (Below.refl _ _).alloc (Nat.le_refl _) _
        have HM6a := hide (HM6.out.later hba)
        have HM7 := hide (HM6a.out.pushed (t := (cheapV r rv.l).id) (p := (k : Int)) (g3 := g3) (cap3 := cap3) (by dsimp only; rw [hul]; exact ho7) hg7 (by rcases hat7 with h1 | h1; exact .inl h1; exact .inr (by simp; omega)))
        have HB7 : Hid (Below wb.heap.size wb w7) := (HB6.out.trans (hba.mono HB6.out.size)).grown hg7 (by simp; omega) (fun b hb => by have := own_base HOC6.out; simp [Value.ownBlock] at hb; omega)
        have HY7 : Hid ((ys ++ [(⟨(cheapV r rv.l).id, (k : Int), rv.g, rv.cap, upL rv.l⟩ : CRow)]).map CRow.car = cartonsTo r k ++ (PK.take (j + 1)).map (cartonOf r k)) := by
          have h1 := map_take_step (cartonOf r k) PK j hlj
          rw [Hid, List.map_append, unhide HYC, h1, List.append_assoc]
          congr 2
          have h2 : PK.getD j default = rv.l := HR1.out.symm
          rw [h2]; rfl
        clear HM6 HM6a HB6 HOC6 ho7 hg7 hat7 hlt7 ct0 HYC hba
        go_wp2
        go_roundw
        case rel => exact ⟨j + 1, g3, cap3, ys ++ [⟨(cheapV r rv.l).id, (k : Int), rv.g, rv.cap, upL rv.l⟩], R', by omega, by go_num, by simp, by have := unhide HYL; simp; omega, unhide HR2, unhide HY7, unhide HM7, unhide HB7⟩
        case measure => simp [intOf]; omega
end Go.Proofs.YtphdeojiehigpaaGreatDoor
