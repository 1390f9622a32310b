/- SpecNext, SpecNextFit, SpecFirst, SpecFirstFit, SpecPackWay: one text. -/
import Derived.Test.YtphdeojiehigpaaGreatDoorPackSpec
import Derived.Test.YtphdeojiehigpaaGreatDoorPkO
import Derived.Test.YtphdeojiehigpaaGreatDoorPkE
import Derived.Deep.DeepMust
import Derived.Deep.DeepCutAuto
import Derived.Deep.RegionHeld3
/- Next fit of the model. -/
namespace Go.Proofs.YtphdeojiehigpaaGreatDoor
open Go Go.RowKit
set_option linter.unusedVariables false
set_option linter.unusedSimpArgs false

theorem own2_new (w : World) {B : Nat} (hB : B ≤ w.heap.size) : Own2 (w.alloc (.cells #[] 29)) B w.heap.size 0 [] := ⟨World.ownsRow_lit w #[] 0 hB (Nat.zero_le _) rfl, Rws.nil⟩
set_option maxHeartbeats 2000000 in
theorem l7Known_any (xs : List ItemV) (aa : Option Addr) (N ca : Nat) (a : Option Addr) (n c : Nat) (us : List Int) (w : World) (hN : N = (unitsL xs).length) (hN12 : N ≤ 1000) (hu : Rd w a n us) (hn : n ≤ 1048600) :
    Calls Tryz.prog 135 #[.slice aa N ca, .slice a n c] w fun e w' => ∃ g cap, e = .returned (.slice (some ⟨g, 0, none⟩) (knownL xs us).length cap) ∧ w'.ownsRow w.heap.size 3 1 (.slice (some ⟨g, 0, none⟩) (knownL xs us).length cap) (knownL xs us).length (ci (knownL xs us)) ∧ Below w.heap.size w w' := by
  obtain ⟨i0, hi, hz0, hz1, hz2⟩ := info_parts Tryz.infoInts
  have HU := hide hu
  have HN := hide hN
  clear hu hN
  go_enter Tryz.func135, Tryz.ntmps135
  go_wp2
  have O1 := hide (own_lit0 (e := 3) (size := 1) w (Nat.le_refl _))
  have B1 : Hid (Below w.heap.size w (w.alloc (.cells #[] 3))) := (Below.refl _ _).alloc (Nat.le_refl _) _
  generalize (w.alloc (.cells #[] 3)) = w1 at *
  go_loopw [5, 6] (fun o i wr => ∃ (k g cap m : Nat), k ≤ n ∧ i = .int .i64 k ∧ m = (knownTo xs us k).length ∧ o = .slice (some ⟨g, 0, none⟩) m cap ∧ wr.ownsRow w.heap.size 3 1 (.slice (some ⟨g, 0, none⟩) m cap) m (ci (knownTo xs us k)) ∧ Below w.heap.size w wr) (fun _ i _ => n - (intOf i).toNat)
  case atStart => exact ⟨0, w.heap.size, 0, 0, Nat.zero_le _, rfl, rfl, rfl, unhide O1, unhide B1⟩
  case round =>
    clear O1 B1
    obtain ⟨k, g, cap, m, hk, rfl, hm, rfl, hown, hbel⟩ := hrel
    have HM := hide hm
    have HO := hide hown
    have HB := hide hbel
    by_cases hlk : k < n
    case neg =>
      have HE : Hid (knownTo xs us k = knownL xs us) := knownTo_all (by rw [HU.out.1]; omega)
      clear hm hown hbel
      go_wp2
      go_ret
      have e := unhide HE
      have hm := unhide HM
      rw [e] at hm
      subst hm
      exact ⟨g, cap, rfl, by have := unhide HO; rwa [e] at this, unhide HB⟩
    obtain ⟨b, off, hua, hc⟩ := (HU.out.mono hbel).2 k hlk
    have hku : k < us.length := by rw [HU.out.1]; exact hlk
    have HHIT := hide (knownTo_hit (xs := xs) hku)
    have HMIS := hide (knownTo_miss (xs := xs) hku)
    have hmk : m ≤ 1048600 := by have := (knownTo_len xs us k).1; omega
    generalize us.getD k 0 = x at hc HHIT HMIS
    subst hua
    have hgl := (hown.lt g rfl)
    have hz : w.heap.size ≤ wr.heap.size := hbel.size
    clear hm hown hbel
    go_wp2_with fail
    refine (l1In_any _ _ _ _).mono ?_
    rintro e w2 ⟨rfl, hw⟩
    subst w2
    have HKN : Hid (knownB xs x = inB x 0 ((N : Int) - 1)) := by rw [Hid, unhide HN]; rfl
    cases hkn : inB x 0 ((N : Int) - 1)
    case false =>
      have HG2 := hide (HMIS.out (by rw [unhide HKN]; exact hkn))
      clear hkn
      go_wp2_with fail
      go_roundw
      case rel => exact ⟨k + 1, g, cap, m, by omega, by go_num, by rw [unhide HG2]; exact unhide HM, rfl, by rw [unhide HG2]; exact unhide HO, unhide HB⟩
      case measure => simp [intOf]; omega
    case true =>
      have HG2 := hide (HHIT.out (by rw [unhide HKN]; exact hkn))
      clear hkn
      have O3 := hide (HO.out.alloc (.cells #[.int .i64 x] 3))
      go_wp2_with (first
        | (at_builtin; refine wpList_append_lies _ rfl _ _ 29 rfl w.heap.size 3 i0 (.int .i64 0) 1 8 Tryz.underlying29 hi hz0 hz1 hz2 rfl (by omega) (.slice (some ⟨g, 0, none⟩) m cap) m (ci (knownTo xs us k)) rfl O3.out ⟨wr.heap.size, 0, none⟩ 1 1 [.int .i64 x] rfl rfl (World.news_of_block (heap_alloc_new _ _)) (by simp [Value.oneCell']) (by omega) (by unfold maxLen; omega) (by omega) (by simp; omega) (wr.heap.size + 1) (by simp) ?_; intro g3 cap3 w3 ho3 hg3 hat3 hlt3)
        | fail)
      have B4 : Hid (Below w.heap.size w w3) := (HB.out.alloc hz (.cells #[.int .i64 x] 3)).grown hg3 (by simp; omega) (fun q hq => by simp [Value.ownBlock] at hq; omega)
      have O4 : Hid (w3.ownsRow w.heap.size 3 1 (.slice (some ⟨g3, 0, none⟩) (m + 1) cap3) (m + 1) (ci (knownTo xs us k ++ [x]))) := by rw [ci_snoc]; exact ho3
      clear ho3 hg3 hat3 hlt3
      go_roundw
      case rel => exact ⟨k + 1, g3, cap3, m + 1, by omega, by go_num, by rw [unhide HG2, List.length_append, ← unhide HM]; rfl, rfl, by rw [unhide HG2]; exact unhide O4, unhide B4⟩
      case measure => simp [intOf]; omega

set_option maxRecDepth 100000 in
set_option maxHeartbeats 4000000 in
theorem l7Next_any (r : ReqV) (h : ReqH) (a : Option Addr) (n c : Nat) (us : List Int) (w : World) (hr : RdReq w r h) (hs : r.small) (hz : classI r = 0) (hu : Rd w a n us) (hn : n ≤ 1048576) :
    Calls Tryz.prog 134 #[reqVal r h, .slice a n c] w fun e w' => ∃ g cap rows, e = .returned (.slice (some ⟨g, 0, none⟩) rows.length cap) ∧ Own2 w' w.heap.size g cap rows ∧ rows.map RowV.l = nextTo (roomB (itemsR r) (masterV r)) us n ∧ Below w.heap.size w w' := by
  obtain ⟨i0, hi0, hz0, hz1, hz2⟩ := info_parts Tryz.infoIntSs
  obtain ⟨j0, hj0, hy0, hy1, hy2⟩ := info_parts Tryz.infoInts
  have htl : r.types.length ≤ 1048600 := by unfold ReqV.small at hs; omega
  have HR := hide hr
  have HU := hide hu
  clear hr hu
  unfold reqVal
  go_enter Tryz.func134, Tryz.ntmps134
  go_wp2_with fail
  generalize hW : (w.alloc (.cells #[.int .i64 r.way, .int .i64 r.pal.wd, .int .i64 r.pal.dp, .int .i64 r.pal.ht, .int .i64 r.pal.gram, .int .i64 r.classes, .slice h.ap r.pairs.length h.cp, .slice h.at' r.types.length h.ct, .int .i64 r.master, .slice h.ai r.items.length h.ci] 40)) = W at *
  obtain ⟨BW, KaW, ZaW⟩ := en1 hW
  have Ga : w.heap.size ≤ w.heap.size := by omega
  clear hW
  refine (specMasterOf_any r h _ (HR.out.mono BW.out) htl).mono ?_
  rintro e v1 ⟨rfl, hb⟩
  have Bv1 := hide (BW.out.trans (hb.mono BW.out.size))
  have Kav1 := hide (Blk.below hb ZaW KaW.out)
  have Zav1 := Nat.lt_of_lt_of_le ZaW hb.size
  clear hb
  clear BW KaW ZaW
  obtain ⟨ca0, ca1, ca2, ca3, ca4, ca5, ca6, ca7, ca8, ca9⟩ := Blk.cs10 Kav1.out
  go_wp2_with fail
  clear ca0 ca1 ca2 ca3 ca4 ca5 ca6 ca7 ca8 ca9
  generalize hW : (v1.alloc (.cells #[.int .i64 (masterV r).id, .int .i64 (masterV r).wd, .int .i64 (masterV r).ht, .int .i64 (masterV r).dp, .int .i64 (masterV r).tare, .int .i64 (masterV r).gram, .int .i64 (masterV r).cost] 55)) = v2 at *
  obtain ⟨hb, Ktv2, Ztv2⟩ := en1 hW
  have hb := unhide hb
  have Bv2 := hide (Bv1.out.trans (hb.mono Bv1.out.size))
  have Gt : w.heap.size ≤ v1.heap.size := Bv1.out.size
  have Kav2 := hide (Blk.below hb Zav1 Kav1.out)
  have Zav2 := Nat.lt_of_lt_of_le Zav1 hb.size
  have Nqat : w.heap.size ≠ v1.heap.size := Nat.ne_of_lt Zav1
  have Nqta := Ne.symm Nqat
  clear hb hW
  clear Bv1 Kav1 Zav1
  obtain ⟨ca0, ca1, ca2, ca3, ca4, ca5, ca6, ca7, ca8, ca9⟩ := Blk.cs10 Kav2.out
  go_wp2_with fail
  refine (l6Units_zero r h _ (HR.out.mono Bv2.out) hz).mono ?_
  rintro e v3 ⟨gp, cp, rfl, hgo, hb⟩
  have Bv3 := hide (Bv2.out.trans (hb.mono Bv2.out.size))
  have Kav3 := hide (Blk.below hb Zav2 Kav2.out)
  have Zav3 := Nat.lt_of_lt_of_le Zav2 hb.size
  have Ktv3 := hide (Blk.below hb Ztv2 Ktv2.out)
  have Ztv3 := Nat.lt_of_lt_of_le Ztv2 hb.size
  clear hb
  clear Bv2 Kav2 Zav2 Ktv2 Ztv2
  clear ca0 ca1 ca2 ca3 ca4 ca5 ca6 ca7 ca8 ca9
  have UN := hide (Rd.of_owns hgo)
  have hN12 := unitsR_len r
  clear hgo
  generalize hN : (unitsR r).length = N at *
  clear hN
  obtain ⟨wb, hwb⟩ : ∃ wb : World, wb = v3 := ⟨_, rfl⟩
  subst hwb
  have HWB := Bv3
  have HKA := Kav3
  have HKT := Ktv3
  have HO := hide (own2_new wb (Nat.le_refl _))
  have HB0 : Hid (Below wb.heap.size wb (wb.alloc (.cells #[] 29))) := (Below.refl _ _).alloc (Nat.le_refl _) _
  go_wp2
  generalize (wb.alloc (.cells #[] 29)) = w0 at *
  go_loopw [8, 9] (fun o i wr => ∃ (k g cap m : Nat) (rows : List RowV), k ≤ n ∧ i = .int .i64 k ∧ rows.length = m ∧ o = .slice (some ⟨g, 0, none⟩) m cap ∧ rows.map RowV.l = nextTo (roomB (itemsR r) (masterV r)) us k ∧ Own2 wr wb.heap.size g cap rows ∧ Below wb.heap.size wb wr) (fun _ i _ => n - (intOf i).toNat)
  case atStart => exact ⟨0, wb.heap.size, 0, 0, [], Nat.zero_le _, rfl, rfl, rfl, rfl, unhide HO, unhide HB0⟩
  case round =>
    clear HO HB0
    obtain ⟨k, g, cap, m, rows, hk, rfl, hm, rfl, hgr, ho, hb⟩ := hrel
    have HM := hide hm
    have HG := hide hgr
    have QOwr := hide ho
    have Bwr := hide hb
    have HBW := hide (HWB.out.trans (hb.mono HWB.out.size))
    clear hgr ho
    by_cases hlk : k < n
    case neg =>
      obtain rfl : k = n := by omega
      clear hb hm
      go_wp2
      go_ret
      exact ⟨g, cap, rows, by rw [unhide HM]; rfl, QOwr.out.low HWB.out.size, unhide HG, unhide HBW⟩
    have Kawr := hide (Blk.below hb Zav3 HKA.out)
    have Ktwr := hide (Blk.below hb Ztv3 HKT.out)
    have Zawr : w.heap.size < wr.heap.size := Nat.lt_of_lt_of_le Zav3 hb.size
    have Ztwr : v1.heap.size < wr.heap.size := Nat.lt_of_lt_of_le Ztv3 hb.size
    obtain ⟨b, off, hua, hc⟩ := (HU.out.mono HBW.out).2 k hlk
    have hcw : wb.cell? ⟨b, off + k, none⟩ = some (.int .i64 (us.getD k 0)) := by
      obtain ⟨b', off', e, hc'⟩ := (HU.out.mono HWB.out).2 k hlk
      rw [hua] at e
      injection e with e
      injection e with e1 e2
      subst e1 e2
      exact hc'
    have hku : k < us.length := by rw [HU.out.1]; exact hlk
    have htt := nextTo_tot (roomB (itemsR r) (masterV r)) us k (by omega)
    have HST := hide (nextTo_step (roomB (itemsR r) (masterV r)) us k hku)
    generalize us.getD k 0 = x at hc hcw HST
    subst hua
    rw [← unhide HG] at htt HST
    have hmk : m ≤ 1048580 := by have := htt.2; rw [List.length_map, hm] at this; omega
    have hcu : ∀ u, Below wb.heap.size wb u → u.cell? ⟨b, off + k, none⟩ = some (.int .i64 x) := fun u hb => (hb.cell (World.block_lt_of_cell? wb _ hcw)).trans hcw
    have HBLT : Hid (b < wb.heap.size) := World.block_lt_of_cell? wb _ hcw
    have HTT := hide htt
    clear htt hcw hb
    by_cases hm0 : m = 0
    · subst hm0
      go_upto_region 8 with fail
      clear hc
      go_cut [43] (fun v wc => v = .bool false ∧ Blk wc w.heap.size [.int .i64 r.way, .int .i64 r.pal.wd, .int .i64 r.pal.dp, .int .i64 r.pal.ht, .int .i64 r.pal.gram, .int .i64 r.classes, .slice h.ap r.pairs.length h.cp, .slice h.at' r.types.length h.ct, .int .i64 r.master, .slice h.ai r.items.length h.ci] ∧ w.heap.size < wc.heap.size ∧ Blk wc v1.heap.size [.int .i64 (masterV r).id, .int .i64 (masterV r).wd, .int .i64 (masterV r).ht, .int .i64 (masterV r).dp, .int .i64 (masterV r).tare, .int .i64 (masterV r).gram, .int .i64 (masterV r).cost] ∧ v1.heap.size < wc.heap.size ∧ Own2 wc wb.heap.size g cap rows ∧ Below wb.heap.size wb wc)
      case first =>
          refine wp_region_noPanic ?_
          have Bu0 : Hid (Below wb.heap.size wb wr.drew) := Bwr.out.drew
          have QOu0 : Hid (Own2 wr.drew wb.heap.size g cap rows) := QOwr.out.later (Below.refl _ _).drew
          have Kau0 : Hid (Blk wr.drew w.heap.size [.int .i64 r.way, .int .i64 r.pal.wd, .int .i64 r.pal.dp, .int .i64 r.pal.ht, .int .i64 r.pal.gram, .int .i64 r.classes, .slice h.ap r.pairs.length h.cp, .slice h.at' r.types.length h.ct, .int .i64 r.master, .slice h.ai r.items.length h.ci]) := unhide Kawr
          have Zau0 : w.heap.size < wr.drew.heap.size := Zawr
          have Ktu0 : Hid (Blk wr.drew v1.heap.size [.int .i64 (masterV r).id, .int .i64 (masterV r).wd, .int .i64 (masterV r).ht, .int .i64 (masterV r).dp, .int .i64 (masterV r).tare, .int .i64 (masterV r).gram, .int .i64 (masterV r).cost]) := unhide Ktwr
          have Ztu0 : v1.heap.size < wr.drew.heap.size := Ztwr
          obtain ⟨S, hSdef⟩ : ∃ S : World → Prop, S = (fun w' => True) := ⟨_, rfl⟩
          have hSmk : ∀ wq, S wq := fun wq  => by rw [hSdef]; exact trivial
          have hSd : ∀ wq, S wq → (fun w' => True) wq := fun wq h => by rw [hSdef] at h; exact h
          clear hSdef
          have hHeld : S wr.drew := hSmk wr.drew 
          refine wp_region_to (S := S) (T := []) (by kernel_rfl) hHeld (fun _ => ?_)
          generalize wr.drew = u0 at *
          refine wpTo_ts (i := 0) (v := ?_) rfl (by kernel_rfl) hSd (by rfl) (fun w hSw => ?_) (by assumption) ?_
          rotate_left
          · ((try dsimp only [RqC] at hSw); go_simp <;> with_reducible rfl)
          refine wpTo_ts (i := 1) (v := ?_) rfl (by kernel_rfl) hSd (by rfl) (fun w hSw => ?_) (by assumption) ?_
          rotate_left
          · ((try dsimp only [RqC] at hSw); go_simp <;> with_reducible rfl)
          refine wpTo_ts (i := 2) (v := ?_) rfl (by kernel_rfl) hSd (by rfl) (fun w hSw => ?_) (by assumption) ?_
          rotate_left
          · ((try dsimp only [RqC] at hSw); go_simp <;> with_reducible rfl)
          try simp only [Act.put, zz1, zz2, zz3, zz4, zz5, zz6]
          refine wpTo_tk (i := 3) (v := undef) rfl (by kernel_rfl) (Or.inr ⟨by rfl, rfl⟩) (by assumption) ?_
          try simp only [Act.put, zz1, zz2, zz3, zz4, zz5, zz6]
          refine wpTo_tk (i := 4) (v := undef) rfl (by kernel_rfl) (Or.inr ⟨by rfl, rfl⟩) (by assumption) ?_
          try simp only [Act.put, zz1, zz2, zz3, zz4, zz5, zz6]
          refine wpTo_tk (i := 5) (v := undef) rfl (by kernel_rfl) (Or.inr ⟨by rfl, rfl⟩) (by assumption) ?_
          try simp only [Act.put, zz1, zz2, zz3, zz4, zz5, zz6]
          refine wpTo_tk (i := 6) (v := undef) rfl (by kernel_rfl) (Or.inr ⟨by rfl, rfl⟩) (by assumption) ?_
          try simp only [Act.put, zz1, zz2, zz3, zz4, zz5, zz6]
          refine wpTo_tk (i := 7) (v := undef) rfl (by kernel_rfl) (Or.inr ⟨by rfl, rfl⟩) (by assumption) ?_
          try simp only [Act.put, zz1, zz2, zz3, zz4, zz5, zz6]
          refine wpTo_tk (i := 8) (v := undef) rfl (by kernel_rfl) (Or.inr ⟨by rfl, rfl⟩) (by assumption) ?_
          try simp only [Act.put, zz1, zz2, zz3, zz4, zz5, zz6]
          refine wpTo_tk (i := 9) (v := undef) rfl (by kernel_rfl) (Or.inr ⟨by rfl, rfl⟩) (by assumption) ?_
          try simp only [Act.put, zz1, zz2, zz3, zz4, zz5, zz6]
          refine wpTo_tk (i := 10) (v := undef) rfl (by kernel_rfl) (Or.inr ⟨by rfl, rfl⟩) (by assumption) ?_
          try simp only [Act.put, zz1, zz2, zz3, zz4, zz5, zz6]
          refine wpTo_tk (i := 11) (v := undef) rfl (by kernel_rfl) (Or.inr ⟨by rfl, rfl⟩) (by assumption) ?_
          try simp only [Act.put, zz1, zz2, zz3, zz4, zz5, zz6]
          refine wpTo_tk (i := 12) (v := undef) rfl (by kernel_rfl) (Or.inr ⟨by rfl, rfl⟩) (by assumption) ?_
          try simp only [Act.put, zz1, zz2, zz3, zz4, zz5, zz6]
          refine wpTo_tk (i := 13) (v := undef) rfl (by kernel_rfl) (Or.inr ⟨by rfl, rfl⟩) (by assumption) ?_
          try simp only [Act.put, zz1, zz2, zz3, zz4, zz5, zz6]
          refine wpTo_tk (i := 14) (v := undef) rfl (by kernel_rfl) (Or.inr ⟨by rfl, rfl⟩) (by assumption) ?_
          try simp only [Act.put, zz1, zz2, zz3, zz4, zz5, zz6]
          refine wpTo_ready (rs := [15]) (by kernel_rfl) (by simp) ?_
          refine AllTo.cons (o := _) rfl (fun K hK => ?_) ?_
          ·
           skip
           rw [if_neg (by first | decide | (intro h; cases h))]
           refine hK.out _ _ (fun _ => hHeld) ?_
           clear hK K
           try simp only [Act.put, zz1, zz2, zz3, zz4, zz5, zz6]
           refine wpTo_ts (i := 16) (v := ?_) rfl (by kernel_rfl) hSd (by rfl) (fun w hSw => ?_) (by assumption) ?_
           rotate_left
           · ((try dsimp only [RqC] at hSw); go_simp <;> with_reducible rfl)
           try simp only [Act.put, zz1, zz2, zz3, zz4, zz5, zz6]
           refine wpTo_done (by kernel_rfl) ?_ _
           refine NoPanic.normal ?_
           go_wp2_with fail
           go_meet
           case rel => exact ⟨rfl, unhide Kau0, Zau0, unhide Ktu0, Ztu0, unhide QOu0, unhide Bu0⟩
          exact AllTo.nil
      case rest =>
        clear Bwr Kawr Ktwr QOwr Zawr Ztwr HBW
        obtain ⟨rfl, ka, za, kt, zt, ho, hb⟩ := hcut
        have HOX := hide ho
        have HBX := hide hb
        have hc := hcu _ hb
        clear ka kt ho hb za zt
        obtain ⟨wx, hwx⟩ : ∃ w8 : World, w8 = wc := ⟨_, rfl⟩
        subst wc
        have HPA : Hid (nextStep (roomB (itemsR r) (masterV r)) (rows.map RowV.l) x = rows.map RowV.l ++ [[x]]) := by
          have e0 : rows = [] := List.eq_nil_of_length_eq_zero hm
          rw [Hid, e0]; rfl
        have hmL : rows.length = 0 := hm
        have HML := hide hmL
        clear hm hmL
        have HSX := hide HBX.out.size
        have hsx : wb.heap.size ≤ wx.heap.size := unhide HSX
        have O2 := hide (HOX.out.later ((Below.refl _ wx).alloc (Nat.le_refl _) (.cells #[.int .i64 x] 3)))
        have R2 : Hid (RowV.own (wx.alloc (.cells #[.int .i64 x] 3)) wb.heap.size ⟨wx.heap.size, 1, [x]⟩) := World.ownsRow_lit wx #[.int .i64 x] 1 (by omega) (by unfold maxLen; omega) rfl
        have O3 := hide (O2.out.later ((Below.refl _ (wx.alloc (.cells #[.int .i64 x] 3))).alloc (Nat.le_refl _) (.cells #[.slice (some ⟨wx.heap.size, 0, none⟩) 1 1] 29)))
        have R3 := hide (R2.out.later ((Below.refl _ (wx.alloc (.cells #[.int .i64 x] 3))).alloc (Nat.le_refl _) (.cells #[.slice (some ⟨wx.heap.size, 0, none⟩) 1 1] 29)))
        have O3L : Hid ((((wx.alloc (.cells #[.int .i64 x] 3)).alloc (.cells #[.slice (some ⟨wx.heap.size, 0, none⟩) 1 1] 29))).ownsRow wb.heap.size 29 1 (.slice (some ⟨g, 0, none⟩) 0 cap) 0 (rows.map RowV.val)) := by have := O3.out.out; rw [unhide HML] at this; exact this
        go_wp2_with (first
          | (at_builtin; refine wpList_append_lies _ rfl _ _ 89 rfl wb.heap.size 29 i0 (.slice none 0 0) 1 24 Tryz.underlying89 hi0 hz0 hz1 hz2 rfl (by omega) (.slice (some ⟨g, 0, none⟩) 0 cap) 0 (rows.map RowV.val) rfl O3L.out ⟨wx.heap.size + 1, 0, none⟩ 1 1 [.slice (some ⟨wx.heap.size, 0, none⟩) 1 1] rfl rfl (World.news_of_block (by have := heap_alloc_new (wx.alloc (.cells #[.int .i64 x] 3)) (.cells #[.slice (some ⟨wx.heap.size, 0, none⟩) 1 1] 29); simpa using this)) (by simp [Value.oneCell']) (by omega) (by unfold maxLen; omega) (by omega) (by simp; omega) (wx.heap.size + 2) (by simp) ?_; intro g3 cap3 w3 ho3 hg3 hat3 hlt3)
          | fail)
        have O4 := hide (O3.out.pushed (r := ⟨wx.heap.size, 1, [x]⟩) R3.out (fun i hi e => by have h := (HOX.out.rws.row i hi).lt.2; have e' : (rows.getD i default).g = wx.heap.size := e; omega) (by have h := (HOX.out.out.lt g rfl).2; show wx.heap.size ≠ g; omega) (by rw [unhide HML]; exact ho3) hg3 hat3 (by simp))
        have B4 : Hid (Below wb.heap.size wb w3) := ((HBX.out.alloc (by omega) _).alloc (by simp; omega) _).grown hg3 (by simp; omega) (fun k hk => by have := own_base HOX.out.out; simp [Value.ownBlock] at hk; omega)
        clear ho3 hg3 hat3 hlt3
        go_wp2
        go_roundw
        case rel => exact ⟨k + 1, g3, cap3, 0 + 1, rows ++ [⟨wx.heap.size, 1, [x]⟩], by omega, by go_num, by rw [List.length_append, unhide HML]; rfl, rfl, by rw [unhide HST, unhide HPA, List.map_append]; rfl, unhide O4, unhide B4⟩
        case measure => simp [intOf]; omega
    obtain ⟨q, hq⟩ : ∃ q, m = q + 1 := ⟨m - 1, by omega⟩
    have hm1 : 0 < m := by omega
    have hqm : q < m := by omega
    have HQ := hide (show (m : Int) - 1 = (q : Int) by omega)
    have HQN := hide (show m - 1 = q by omega)
    have hqr : q < rows.length := by omega
    clear hq hm0
    have hrow := QOwr.out.rws.row q hqr
    have HROWL := hide (map_getD_l rows q hqr)
    have hll : (rows.getD q default).l.length ≤ 1048580 := by
      have h1 := tot2_row (rows.map RowV.l) q (by rw [List.length_map]; exact hqr)
      rw [unhide HROWL] at h1
      have := HTT.out.1
      omega
    have HGC := hide (fun (u : World) (ho : Own2 u wb.heap.size g cap rows) => (ho.cell q hqr).1)
    have HRR := hide (fun (u : World) (ho : Own2 u wb.heap.size g cap rows) => own_reads (ho.rws.row q hqr))
    have HRO1 := hide (fun (u : World) (ho : Own2 u wb.heap.size g cap rows) => ho.rws.row q hqr)
    have HGREW := hide (fun (W w3 : World) (r' : RowV) (H : Nat) (h : Own2 W wb.heap.size g cap rows) => h.grew (w3 := w3) (r := r') (H := H) hqr)
    have HNP : Hid (nextPl (roomB (itemsR r) (masterV r)) (rows.map RowV.l) x = if roomB (itemsR r) (masterV r) (rows.getD q default).l x = true then q else m) := by
      have hl : (rows.map RowV.l).length = m := by rw [List.length_map, hm]
      rw [Hid, nextPl, hl, unhide HQN, unhide HROWL]
      simp [hm1]
    have HPO : Hid (putP (rows.map RowV.l) q x = (rows.map RowV.l).set q ((rows.getD q default).l ++ [x])) := by rw [Hid, putP_old (by rw [List.length_map]; exact hqr), unhide HROWL]
    generalize rows.getD q default = rv at *
    have HGC2 : Hid (∀ u, Own2 u wb.heap.size g cap rows → u.cell? ⟨g, q, none⟩ = some (.slice (some ⟨rv.g, 0, none⟩) rv.l.length rv.cap)) := unhide HGC
    clear hrow HGC
    go_upto_region 8 with fail
    clear hc
    go_cut [43] (fun v wc => v = .bool (roomB (itemsR r) (masterV r) rv.l x) ∧ Blk wc w.heap.size [.int .i64 r.way, .int .i64 r.pal.wd, .int .i64 r.pal.dp, .int .i64 r.pal.ht, .int .i64 r.pal.gram, .int .i64 r.classes, .slice h.ap r.pairs.length h.cp, .slice h.at' r.types.length h.ct, .int .i64 r.master, .slice h.ai r.items.length h.ci] ∧ w.heap.size < wc.heap.size ∧ Blk wc v1.heap.size [.int .i64 (masterV r).id, .int .i64 (masterV r).wd, .int .i64 (masterV r).ht, .int .i64 (masterV r).dp, .int .i64 (masterV r).tare, .int .i64 (masterV r).gram, .int .i64 (masterV r).cost] ∧ v1.heap.size < wc.heap.size ∧ Own2 wc wb.heap.size g cap rows ∧ Below wb.heap.size wb wc)
    case first =>
        refine wp_region_noPanic ?_
        have Bu0 : Hid (Below wb.heap.size wb wr.drew) := Bwr.out.drew
        have QOu0 : Hid (Own2 wr.drew wb.heap.size g cap rows) := QOwr.out.later (Below.refl _ _).drew
        have Kau0 : Hid (Blk wr.drew w.heap.size [.int .i64 r.way, .int .i64 r.pal.wd, .int .i64 r.pal.dp, .int .i64 r.pal.ht, .int .i64 r.pal.gram, .int .i64 r.classes, .slice h.ap r.pairs.length h.cp, .slice h.at' r.types.length h.ct, .int .i64 r.master, .slice h.ai r.items.length h.ci]) := unhide Kawr
        have Zau0 : w.heap.size < wr.drew.heap.size := Zawr
        have Ktu0 : Hid (Blk wr.drew v1.heap.size [.int .i64 (masterV r).id, .int .i64 (masterV r).wd, .int .i64 (masterV r).ht, .int .i64 (masterV r).dp, .int .i64 (masterV r).tare, .int .i64 (masterV r).gram, .int .i64 (masterV r).cost]) := unhide Ktwr
        have Ztu0 : v1.heap.size < wr.drew.heap.size := Ztwr
        obtain ⟨S, hSdef⟩ : ∃ S : World → Prop, S = (fun w' => RqC w' w.heap.size r h ∧ w'.cell? ⟨v1.heap.size, 0, none⟩ = some (.int .i64 (masterV r).id) ∧ w'.cell? ⟨v1.heap.size, 1, none⟩ = some (.int .i64 (masterV r).wd) ∧ w'.cell? ⟨v1.heap.size, 2, none⟩ = some (.int .i64 (masterV r).ht) ∧ w'.cell? ⟨v1.heap.size, 3, none⟩ = some (.int .i64 (masterV r).dp) ∧ w'.cell? ⟨v1.heap.size, 4, none⟩ = some (.int .i64 (masterV r).tare) ∧ w'.cell? ⟨v1.heap.size, 5, none⟩ = some (.int .i64 (masterV r).gram) ∧ w'.cell? ⟨v1.heap.size, 6, none⟩ = some (.int .i64 (masterV r).cost) ∧ w'.cell? ⟨g, q, none⟩ = some (.slice (some ⟨rv.g, 0, none⟩) rv.l.length rv.cap) ∧ w'.cell? ⟨b, off + k, none⟩ = some (.int .i64 x)) := ⟨_, rfl⟩
        have hSmk : ∀ wq, Blk wq w.heap.size [.int .i64 r.way, .int .i64 r.pal.wd, .int .i64 r.pal.dp, .int .i64 r.pal.ht, .int .i64 r.pal.gram, .int .i64 r.classes, .slice h.ap r.pairs.length h.cp, .slice h.at' r.types.length h.ct, .int .i64 r.master, .slice h.ai r.items.length h.ci] → Blk wq v1.heap.size [.int .i64 (masterV r).id, .int .i64 (masterV r).wd, .int .i64 (masterV r).ht, .int .i64 (masterV r).dp, .int .i64 (masterV r).tare, .int .i64 (masterV r).gram, .int .i64 (masterV r).cost] → (wq.cell? ⟨g, q, none⟩ = some (.slice (some ⟨rv.g, 0, none⟩) rv.l.length rv.cap)) → (wq.cell? ⟨b, off + k, none⟩ = some (.int .i64 x)) → S wq := fun wq ka kt p0 p1 => by rw [hSdef]; exact ⟨RqC.of ka, (kt 0 (by simp)).1, (kt 1 (by simp)).1, (kt 2 (by simp)).1, (kt 3 (by simp)).1, (kt 4 (by simp)).1, (kt 5 (by simp)).1, (kt 6 (by simp)).1, p0, p1⟩
        have hSd : ∀ wq, S wq → (fun w' => RqC w' w.heap.size r h ∧ w'.cell? ⟨v1.heap.size, 0, none⟩ = some (.int .i64 (masterV r).id) ∧ w'.cell? ⟨v1.heap.size, 1, none⟩ = some (.int .i64 (masterV r).wd) ∧ w'.cell? ⟨v1.heap.size, 2, none⟩ = some (.int .i64 (masterV r).ht) ∧ w'.cell? ⟨v1.heap.size, 3, none⟩ = some (.int .i64 (masterV r).dp) ∧ w'.cell? ⟨v1.heap.size, 4, none⟩ = some (.int .i64 (masterV r).tare) ∧ w'.cell? ⟨v1.heap.size, 5, none⟩ = some (.int .i64 (masterV r).gram) ∧ w'.cell? ⟨v1.heap.size, 6, none⟩ = some (.int .i64 (masterV r).cost) ∧ w'.cell? ⟨g, q, none⟩ = some (.slice (some ⟨rv.g, 0, none⟩) rv.l.length rv.cap) ∧ w'.cell? ⟨b, off + k, none⟩ = some (.int .i64 x)) wq := fun wq h => by rw [hSdef] at h; exact h
        clear hSdef
        have hHeld : S wr.drew := hSmk wr.drew Kau0.out Ktu0.out (HGC2.out _ QOu0.out) (hcu _ Bu0.out)
        refine wp_region_to (S := S) (T := []) (by kernel_rfl) hHeld (fun _ => ?_)
        generalize wr.drew = u0 at *
        refine wpTo_ts (i := 0) (v := ?_) rfl (by kernel_rfl) hSd (by rfl) (fun w hSw => ?_) (by assumption) ?_
        rotate_left
        · ((try dsimp only [RqC] at hSw); go_simp <;> with_reducible rfl)
        try simp only [Act.put, zz1, zz2, zz3, zz4, zz5, zz6]
        refine wpTo_ts (i := 1) (v := ?_) rfl (by kernel_rfl) hSd (by rfl) (fun w hSw => ?_) (by assumption) ?_
        rotate_left
        · ((try dsimp only [RqC] at hSw); go_simp <;> with_reducible rfl)
        refine wpTo_ts (i := 2) (v := ?_) rfl (by kernel_rfl) hSd (by rfl) (fun w hSw => ?_) (by assumption) ?_
        rotate_left
        · ((try dsimp only [RqC] at hSw); go_simp <;> with_reducible rfl)
        refine wpTo_ts (i := 3) (v := ?_) rfl (by kernel_rfl) hSd (by rfl) (fun w hSw => ?_) (by assumption) ?_
        rotate_left
        · ((try dsimp only [RqC] at hSw); go_simp <;> with_reducible rfl)
        try simp only [Act.put, zz1, zz2, zz3, zz4, zz5, zz6]
        refine wpTo_ts (i := 4) (v := ?_) rfl (by kernel_rfl) hSd (by rfl) (fun w hSw => ?_) (by assumption) ?_
        rotate_left
        · ((try dsimp only [RqC] at hSw); go_simp <;> with_reducible rfl)
        refine wpTo_ts (i := 5) (v := ?_) rfl (by kernel_rfl) hSd (by rfl) (fun w hSw => ?_) (by assumption) ?_
        rotate_left
        · ((try dsimp only [RqC] at hSw); go_simp <;> with_reducible rfl)
        refine wpTo_ts (i := 6) (v := ?_) rfl (by kernel_rfl) hSd (by rfl) (fun w hSw => ?_) (by assumption) ?_
        rotate_left
        · ((try dsimp only [RqC] at hSw); go_simp <;> with_reducible rfl)
        try simp only [Act.put, zz1, zz2, zz3, zz4, zz5, zz6]
        refine wpTo_ts (i := 7) (v := ?_) rfl (by kernel_rfl) hSd (by rfl) (fun w hSw => ?_) (by assumption) ?_
        rotate_left
        · ((try dsimp only [RqC] at hSw); go_simp <;> with_reducible rfl)
        refine wpTo_ts (i := 8) (v := ?_) rfl (by kernel_rfl) hSd (by rfl) (fun w hSw => ?_) (by assumption) ?_
        rotate_left
        · ((try dsimp only [RqC] at hSw); go_simp <;> with_reducible rfl)
        try simp only [Act.put, zz1, zz2, zz3, zz4, zz5, zz6]
        rw [wrap_fits (x := (m : Int) - 1) (by omega) (by omega), unhide HQ]
        refine wpTo_ts (i := 9) (v := ?_) rfl (by kernel_rfl) hSd (by rfl) (fun w hSw => ?_) (by assumption) ?_
        rotate_left
        · ((try dsimp only [RqC] at hSw); go_simp <;> with_reducible rfl)
        refine wpTo_ts (i := 10) (v := ?_) rfl (by kernel_rfl) hSd (by rfl) (fun w hSw => ?_) (by assumption) ?_
        rotate_left
        · ((try dsimp only [RqC] at hSw); go_simp <;> with_reducible rfl)
        try simp only [Act.put, zz1, zz2, zz3, zz4, zz5, zz6]
        refine wpTo_ts (i := 11) (v := ?_) rfl (by kernel_rfl) hSd (by rfl) (fun w hSw => ?_) (by assumption) ?_
        rotate_left
        · ((try dsimp only [RqC] at hSw); go_simp <;> with_reducible rfl)
        refine wpTo_ts (i := 12) (v := ?_) rfl (by kernel_rfl) hSd (by rfl) (fun w hSw => ?_) (by assumption) ?_
        rotate_left
        · ((try dsimp only [RqC] at hSw); go_simp <;> with_reducible rfl)
        refine wpTo_ts (i := 13) (v := ?_) rfl (by kernel_rfl) hSd (by rfl) (fun w hSw => ?_) (by assumption) ?_
        rotate_left
        · ((try dsimp only [RqC] at hSw); go_simp <;> with_reducible rfl)
        try simp only [Act.put, zz1, zz2, zz3, zz4, zz5, zz6]
        refine wpTo_ts (i := 14) (v := ?_) rfl (by kernel_rfl) hSd (by rfl) (fun w hSw => ?_) (by assumption) ?_
        rotate_left
        · ((try dsimp only [RqC] at hSw); go_simp <;> with_reducible rfl)
        try simp only [Act.put, zz1, zz2, zz3, zz4, zz5, zz6]
        refine wpTo_ready (rs := [15]) (by kernel_rfl) (by simp) ?_
        refine AllTo.cons (o := _) rfl (fun K hK => ?_) ?_
        ·
         (try simp only [zz1, zz2, zz3])
         go_simp
         refine (l7Room_any r h (some ⟨gp, 0, none⟩) N cp (masterV r) rv.g 0 rv.l.length rv.cap rv.l x u0 (HR.out.mono (HWB.out.trans (Bu0.out.mono HWB.out.size))) (UN.out.mono Bu0.out) (HRR.out _ QOu0.out) (by omega)).mono ?_
         rintro e u1 ⟨rfl, hb⟩
         have Bu1 := hide (Bu0.out.trans (hb.mono Bu0.out.size))
         have Kau1 := hide (Blk.below hb Zau0 Kau0.out)
         have Zau1 := Nat.lt_of_lt_of_le Zau0 hb.size
         have Ktu1 := hide (Blk.below hb Ztu0 Ktu0.out)
         have Ztu1 := Nat.lt_of_lt_of_le Ztu0 hb.size
         have QOu1 : Hid (Own2 u1 wb.heap.size g cap rows) := QOu0.out.later hb
         clear hb
         clear Bu0 Kau0 Zau0 Ktu0 Ztu0 QOu0
         clear hHeld
         go_wp2_with fail
         have hHeld := hSmk u1 Kau1.out Ktu1.out (HGC2.out _ QOu1.out) (hcu _ Bu1.out)
         refine hK.out _ _ (fun _ => hHeld) ?_
         clear hK K
         try simp only [Act.put, zz1, zz2, zz3, zz4, zz5, zz6]
         refine wpTo_ts (i := 16) (v := ?_) rfl (by kernel_rfl) hSd (by rfl) (fun w hSw => ?_) (by assumption) ?_
         rotate_left
         · ((try dsimp only [RqC] at hSw); go_simp <;> with_reducible rfl)
         try simp only [Act.put, zz1, zz2, zz3, zz4, zz5, zz6]
         refine wpTo_done (by kernel_rfl) ?_ _
         refine NoPanic.normal ?_
         go_wp2_with fail
         go_meet
         case rel => exact ⟨rfl, unhide Kau1, Zau1, unhide Ktu1, Ztu1, unhide QOu1, unhide Bu1⟩
        exact AllTo.nil
    case rest =>
      clear Bwr Kawr Ktwr QOwr Zawr Ztwr HBW
      obtain ⟨rfl, ka, za, kt, zt, ho, hb⟩ := hcut
      have HOX := hide ho
      have HBX := hide hb
      have hc := hcu _ hb
      have hcell := HRO1.out _ ho
      have hg3 : ∀ x', Below wc.heap.size wc x' → x'.cell? ⟨g, q, none⟩ = some (.slice (some ⟨rv.g, 0, none⟩) rv.l.length rv.cap) := fun x' hx => (hx.cell (p := ⟨g, q, none⟩) (ho.out.lt g rfl).2).trans (HGC2.out _ ho)
      clear ka kt ho za zt
      obtain ⟨wx, hwx⟩ : ∃ w8 : World, w8 = wc := ⟨_, rfl⟩
      subst wc
      cases hroom : roomB (itemsR r) (masterV r) rv.l x
      case false =>
        have HPA : Hid (nextStep (roomB (itemsR r) (masterV r)) (rows.map RowV.l) x = rows.map RowV.l ++ [[x]]) := by
          rw [Hid, nextStep, unhide HNP, hroom, if_neg (by decide), show m = (rows.map RowV.l).length by rw [List.length_map, hm], putP_new]
        clear hg3 hcell hb hroom
        have hmL : rows.length = m := hm
        have HML := hide hmL
        clear hm hmL
        have HSX := hide HBX.out.size
        have hsx : wb.heap.size ≤ wx.heap.size := unhide HSX
        have O2 := hide (HOX.out.later ((Below.refl _ wx).alloc (Nat.le_refl _) (.cells #[.int .i64 x] 3)))
        have R2 : Hid (RowV.own (wx.alloc (.cells #[.int .i64 x] 3)) wb.heap.size ⟨wx.heap.size, 1, [x]⟩) := World.ownsRow_lit wx #[.int .i64 x] 1 (by omega) (by unfold maxLen; omega) rfl
        have O3 := hide (O2.out.later ((Below.refl _ (wx.alloc (.cells #[.int .i64 x] 3))).alloc (Nat.le_refl _) (.cells #[.slice (some ⟨wx.heap.size, 0, none⟩) 1 1] 29)))
        have R3 := hide (R2.out.later ((Below.refl _ (wx.alloc (.cells #[.int .i64 x] 3))).alloc (Nat.le_refl _) (.cells #[.slice (some ⟨wx.heap.size, 0, none⟩) 1 1] 29)))
        have O3L : Hid ((((wx.alloc (.cells #[.int .i64 x] 3)).alloc (.cells #[.slice (some ⟨wx.heap.size, 0, none⟩) 1 1] 29))).ownsRow wb.heap.size 29 1 (.slice (some ⟨g, 0, none⟩) m cap) m (rows.map RowV.val)) := by have := O3.out.out; rw [unhide HML] at this; exact this
        go_wp2_with (first
          | (at_builtin; refine wpList_append_lies _ rfl _ _ 89 rfl wb.heap.size 29 i0 (.slice none 0 0) 1 24 Tryz.underlying89 hi0 hz0 hz1 hz2 rfl (by omega) (.slice (some ⟨g, 0, none⟩) m cap) m (rows.map RowV.val) rfl O3L.out ⟨wx.heap.size + 1, 0, none⟩ 1 1 [.slice (some ⟨wx.heap.size, 0, none⟩) 1 1] rfl rfl (World.news_of_block (by have := heap_alloc_new (wx.alloc (.cells #[.int .i64 x] 3)) (.cells #[.slice (some ⟨wx.heap.size, 0, none⟩) 1 1] 29); simpa using this)) (by simp [Value.oneCell']) (by omega) (by unfold maxLen; omega) (by omega) (by simp; omega) (wx.heap.size + 2) (by simp) ?_; intro g3 cap3 w3 ho3 hg3 hat3 hlt3)
          | fail)
        have O4 := hide (O3.out.pushed (r := ⟨wx.heap.size, 1, [x]⟩) R3.out (fun i hi e => by have h := (HOX.out.rws.row i hi).lt.2; have e' : (rows.getD i default).g = wx.heap.size := e; omega) (by have h := (HOX.out.out.lt g rfl).2; show wx.heap.size ≠ g; omega) (by rw [unhide HML]; exact ho3) hg3 hat3 (by simp))
        have B4 : Hid (Below wb.heap.size wb w3) := ((HBX.out.alloc (by omega) _).alloc (by simp; omega) _).grown hg3 (by simp; omega) (fun k hk => by have := own_base HOX.out.out; simp [Value.ownBlock] at hk; omega)
        clear ho3 hg3 hat3 hlt3
        go_wp2
        go_roundw
        case rel => exact ⟨k + 1, g3, cap3, m + 1, rows ++ [⟨wx.heap.size, 1, [x]⟩], by omega, by go_num, by rw [List.length_append, unhide HML]; rfl, rfl, by rw [unhide HST, unhide HPA, List.map_append]; rfl, unhide O4, unhide B4⟩
        case measure => simp [intOf]; omega
      case true =>
          have HPA : Hid (nextStep (roomB (itemsR r) (masterV r)) (rows.map RowV.l) x = (rows.map RowV.l).set q (rv.l ++ [x])) := by
            rw [Hid, nextStep, unhide HNP, hroom, if_pos rfl, unhide HPO]
          have HRO : Hid (wx.ownsRow wb.heap.size 3 1 (.slice (some ⟨rv.g, 0, none⟩) rv.l.length rv.cap) rv.l.length (rv.l.map (Value.int .i64))) := hcell
          have HRB : Hid (∀ b, (Value.slice (some ⟨rv.g, 0, none⟩) rv.l.length rv.cap).ownBlock = some b → wb.heap.size ≤ b) := fun b hb => (World.ownsRow.lt hcell b hb).1
          have HGB : Hid (wb.heap.size ≤ g) := (HOX.out.out.lt g rfl).1
          have HBN : Hid (b ≠ rv.g) := by have h1 := unhide HBLT; have h2 := HRB.out rv.g rfl; rw [Hid]; omega
          have HSZ : Hid (wb.heap.size ≤ wx.heap.size) := HBX.out.size
          have hcx : ∀ u, Below wx.heap.size wx u → u.cell? ⟨b, off + k, none⟩ = some (.int .i64 x) := fun u hu => hcu _ (hb.trans (hu.mono hb.size))
          have Bwx : Hid (Below wx.heap.size wx wx) := Below.refl _ _
          clear hcell hb hroom
          go_upto_region 9 with fail
          clear hc
          refine wp_region_noPanic ?_
          have Bu0 : Hid (Below wx.heap.size wx wx.drew) := Bwx.out.drew
          obtain ⟨S, hSdef⟩ : ∃ S : World → Prop, S = (fun w' => w'.cell? ⟨g, q, none⟩ = some (.slice (some ⟨rv.g, 0, none⟩) rv.l.length rv.cap) ∧ w'.cell? ⟨b, off + k, none⟩ = some (.int .i64 x)) := ⟨_, rfl⟩
          have hSmk : ∀ wq, (wq.cell? ⟨g, q, none⟩ = some (.slice (some ⟨rv.g, 0, none⟩) rv.l.length rv.cap)) → (wq.cell? ⟨b, off + k, none⟩ = some (.int .i64 x)) → S wq := fun wq p0 p1 => by rw [hSdef]; exact ⟨p0, p1⟩
          have hSd : ∀ wq, S wq → (fun w' => w'.cell? ⟨g, q, none⟩ = some (.slice (some ⟨rv.g, 0, none⟩) rv.l.length rv.cap) ∧ w'.cell? ⟨b, off + k, none⟩ = some (.int .i64 x)) wq := fun wq h => by rw [hSdef] at h; exact h
          clear hSdef
          have hHeld : S wx.drew := hSmk wx.drew (hg3 _ Bu0.out) (hcx _ Bu0.out)
          refine wp_region_to (S := S) (T := [15]) (by kernel_rfl) hHeld (fun _ => ?_)
          generalize wx.drew = u0 at *
          refine wpTo_ts (i := 0) (v := ?_) rfl (by kernel_rfl) hSd (by rfl) (fun w hSw => ?_) (by assumption) ?_
          rotate_left
          · ((try dsimp only [RqC] at hSw); go_simp <;> with_reducible rfl)
          refine wpTo_ts (i := 1) (v := ?_) rfl (by kernel_rfl) hSd (by rfl) (fun w hSw => ?_) (by assumption) ?_
          rotate_left
          · ((try dsimp only [RqC] at hSw); go_simp <;> with_reducible rfl)
          refine wpTo_ts (i := 2) (v := ?_) rfl (by kernel_rfl) hSd (by rfl) (fun w hSw => ?_) (by assumption) ?_
          rotate_left
          · ((try dsimp only [RqC] at hSw); go_simp <;> with_reducible rfl)
          try simp only [Act.put, zz1, zz2, zz3, zz4, zz5, zz6]
          rw [wrap_fits (x := (m : Int) - 1) (by omega) (by omega), unhide HQ]
          refine wpTo_ts (i := 3) (v := ?_) rfl (by kernel_rfl) hSd (by rfl) (fun w hSw => ?_) (by assumption) ?_
          rotate_left
          · ((try dsimp only [RqC] at hSw); go_simp <;> with_reducible rfl)
          try simp only [Act.put, zz1, zz2, zz3, zz4, zz5, zz6]
          refine wpTo_ts (i := 4) (v := ?_) rfl (by kernel_rfl) hSd (by rfl) (fun w hSw => ?_) (by assumption) ?_
          rotate_left
          · ((try dsimp only [RqC] at hSw); go_simp <;> with_reducible rfl)
          refine wpTo_ts (i := 5) (v := ?_) rfl (by kernel_rfl) hSd (by rfl) (fun w hSw => ?_) (by assumption) ?_
          rotate_left
          · ((try dsimp only [RqC] at hSw); go_simp <;> with_reducible rfl)
          try simp only [Act.put, zz1, zz2, zz3, zz4, zz5, zz6]
          rw [wrap_fits (x := (m : Int) - 1) (by omega) (by omega), unhide HQ]
          refine wpTo_ts (i := 6) (v := ?_) rfl (by kernel_rfl) hSd (by rfl) (fun w hSw => ?_) (by assumption) ?_
          rotate_left
          · ((try dsimp only [RqC] at hSw); go_simp <;> with_reducible rfl)
          refine wpTo_ts (i := 7) (v := ?_) rfl (by kernel_rfl) hSd (by rfl) (fun w hSw => ?_) (by assumption) ?_
          rotate_left
          · ((try dsimp only [RqC] at hSw); go_simp <;> with_reducible rfl)
          try simp only [Act.put, zz1, zz2, zz3, zz4, zz5, zz6]
          refine wpTo_ts (i := 8) (v := ?_) rfl (by kernel_rfl) hSd (by rfl) (fun w hSw => ?_) (by assumption) ?_
          rotate_left
          · ((try dsimp only [RqC] at hSw); go_simp <;> with_reducible rfl)
          refine wpTo_ts (i := 9) (v := ?_) rfl (by kernel_rfl) hSd (by rfl) (fun w hSw => ?_) (by assumption) ?_
          rotate_left
          · ((try dsimp only [RqC] at hSw); go_simp <;> with_reducible rfl)
          refine wpTo_ts (i := 10) (v := ?_) rfl (by kernel_rfl) hSd (by rfl) (fun w hSw => ?_) (by assumption) ?_
          rotate_left
          · ((try dsimp only [RqC] at hSw); go_simp <;> with_reducible rfl)
          try simp only [Act.put, zz1, zz2, zz3, zz4, zz5, zz6]
          refine wpTo_ts (i := 11) (v := ?_) rfl (by kernel_rfl) hSd (by rfl) (fun w hSw => ?_) (by assumption) ?_
          rotate_left
          · ((try dsimp only [RqC] at hSw); go_simp <;> with_reducible rfl)
          try simp only [Act.put, zz1, zz2, zz3, zz4, zz5, zz6]
          refine wpTo_ready (rs := [12]) (by kernel_rfl) (by simp) ?_
          refine AllTo.cons (o := _) rfl (fun K hK => ?_) ?_
          ·
           (try simp only [zz1, zz2, zz3])
           go_simp
           clear hHeld
           generalize hW : (u0.alloc (.cells #[.int .i64 x] 3)) = u1 at *
           obtain ⟨hb, Kuu1, Zuu1⟩ := en1 hW
           have hb := unhide hb
           have Bu1 := hide (Bu0.out.trans (hb.mono Bu0.out.size))
           have Gu : wx.heap.size ≤ u0.heap.size := Bu0.out.size
           clear hb hW
           clear Bu0 
           have hHeld := hSmk u1 (hg3 _ Bu1.out) (hcx _ Bu1.out)
           refine hK.out _ _ (fun _ => hHeld) ?_
           clear hK K
           try simp only [Act.put, zz1, zz2, zz3, zz4, zz5, zz6]
           refine wpTo_ready (rs := [13]) (by kernel_rfl) (by simp) ?_
           refine AllTo.cons (o := _) rfl (fun K hK => ?_) ?_
           ·
            skip
            refine step_append_lies _ (by rfl) _ _ 29 (by rfl) wb.heap.size 3 j0 (.int .i64 0) 1 8 Tryz.underlying29 hj0 hy0 hy1 hy2 rfl (by omega) (.slice (some ⟨rv.g, 0, none⟩) rv.l.length rv.cap) rv.l.length (rv.l.map (Value.int .i64)) (by rfl) (own_laterV HRO.out Bu1.out) ⟨u0.heap.size, 0, none⟩ 1 1 [.int .i64 x] (by rfl) rfl Kuu1.out.news (by simp [Value.oneCell']) (by omega) (by unfold maxLen; omega) (by omega) (by have := Bu1.out.size; have := unhide HSZ; omega) u1.heap.size rfl ?_
            intro g3 cap3 u2 ho hg hat hlt
            have RN : RowV.own u2 wb.heap.size ⟨g3, cap3, rv.l ++ [x]⟩ := by unfold RowV.own; rw [List.length_append, List.map_append]; exact ho
            obtain ⟨c4, f4, hO4⟩ := HGREW.out u1 u2 ⟨g3, cap3, rv.l ++ [x]⟩ u1.heap.size (HOX.out.later Bu1.out) RN hg hat (Nat.le_refl _)
            have hv4 : RowV.val ⟨g3, cap3, rv.l ++ [x]⟩ = .slice (some ⟨g3, 0, none⟩) (rv.l.length + 1) cap3 := by unfold RowV.val; rw [List.length_append]; rfl
            rw [hv4] at hO4
            unfold RowV.val at c4
            have HO4 := hide hO4
            have HB4 := hide ((((HBX.out.trans (Bu1.out.mono HBX.out.size))).grown hg (by have := Bu1.out.size; have := unhide HSZ; omega) HRB.out).setCell (p := ⟨g, q, none⟩) HGB.out (.slice (some ⟨g3, 0, none⟩) (rv.l.length + 1) cap3))
            have hcx4 := (hg.cell (hcx _ Bu1.out) (by intro e; injection e with e; exact HBN.out e))
            clear ho hg hat hlt hO4 RN hv4 hHeld
            have hHeld := hSmk u2 c4 hcx4
            refine hK.out _ _ (fun _ => hHeld) ?_
            clear hK K
            try simp only [Act.put, zz1, zz2, zz3, zz4, zz5, zz6]
            refine wpTo_ts (i := 14) (v := ?_) rfl (by kernel_rfl) hSd (by rfl) (fun w hSw => ?_) (by assumption) ?_
            rotate_left
            · ((try dsimp only [RqC] at hSw); go_simp <;> with_reducible rfl)
            try simp only [Act.put, zz1, zz2, zz3, zz4, zz5, zz6]
            refine wpTo_ready (rs := [15]) (by kernel_rfl) (by simp) ?_
            refine AllTo.cons (o := _) rfl (fun K hK => ?_) ?_
            ·
             (try simp only [zz1, zz2, zz3])
             go_simp
             refine hK.out _ _ (fun hn => absurd (by decide) hn) ?_
             clear hK K
             try simp only [Act.put, zz1, zz2, zz3, zz4, zz5, zz6]
             refine wpTo_done (by kernel_rfl) ?_ _
             refine NoPanic.normal ?_
             go_wp2
             go_roundw
             case rel => exact ⟨k + 1, g, cap, m, rows.set q ⟨g3, cap3, rv.l ++ [x]⟩, by omega, by go_num, by rw [List.length_set]; exact unhide HM, rfl, by rw [unhide HST, unhide HPA, List.map_set], unhide HO4, unhide HB4⟩
             case measure => simp [intOf]; omega
            exact AllTo.nil
           exact AllTo.nil
          exact AllTo.nil
end Go.Proofs.YtphdeojiehigpaaGreatDoor

/- NextFit of the model. -/
namespace Go.Proofs.YtphdeojiehigpaaGreatDoor
open Go Go.RowKit
set_option linter.unusedVariables false
set_option linter.unusedSimpArgs false

set_option maxRecDepth 100000 in
set_option maxHeartbeats 4000000 in
theorem specNextFit_any (r : ReqV) (h : ReqH) (a : Option Addr) (n c : Nat) (us : List Int) (w : World) (hr : RdReq w r h) (hs : r.small) (hu : Rd w a n us) (hn : n ≤ 1048576) :
    Calls Tryz.prog 97 #[reqVal r h, .slice a n c] w fun e w' => ∃ g cap rows, e = .returned (.slice (some ⟨g, 0, none⟩) (nextR r us).length cap) ∧ Own2 w' w.heap.size g cap rows ∧ rows.map RowV.l = nextR r us ∧ Below w.heap.size w w' := by
  have HR := hide hr
  have HU := hide hu
  have HKL : Hid ((knownL (itemsR r) us).length ≤ 1048576) := by have := knownL_len (itemsR r) us; have := hu.1; rw [Hid]; omega
  clear hr hu
  unfold reqVal
  go_enter Tryz.func97, Tryz.ntmps97
  go_wp2_with fail
  generalize hW : (w.alloc (.cells #[.int .i64 r.way, .int .i64 r.pal.wd, .int .i64 r.pal.dp, .int .i64 r.pal.ht, .int .i64 r.pal.gram, .int .i64 r.classes, .slice h.ap r.pairs.length h.cp, .slice h.at' r.types.length h.ct, .int .i64 r.master, .slice h.ai r.items.length h.ci] 40)) = W at *
  obtain ⟨BW, KaW, ZaW⟩ := en1 hW
  have Ga : w.heap.size ≤ w.heap.size := by omega
  clear hW
  refine (specClass_any r h _ (HR.out.mono BW.out) hs).mono ?_
  rintro e v1 ⟨rfl, hb⟩
  have Bv1 := hide (BW.out.trans (hb.mono BW.out.size))
  have Kav1 := hide (Blk.below hb ZaW KaW.out)
  have Zav1 := Nat.lt_of_lt_of_le ZaW hb.size
  clear hb
  clear BW KaW ZaW
  by_cases hz : classI r = 0
  case neg =>
    have hne : (classI r != 0) = true := by simp [hz]
    have HE : Hid (nextR r us = []) := nextR_not hz us
    have HO := hide (own2_new v1 Bv1.out.size)
    have HB := hide (Bv1.out.alloc Bv1.out.size (.cells #[] 29))
    clear hz
    go_wp2
    go_ret
    rw [unhide HE]
    exact ⟨_, 0, [], rfl, unhide HO, rfl, unhide HB⟩
  have HZ := hide hz
  rw [hz]
  clear hz
  obtain ⟨ca0, ca1, ca2, ca3, ca4, ca5, ca6, ca7, ca8, ca9⟩ := Blk.cs10 Kav1.out
  go_upto_region 3 with fail
  clear ca0 ca1 ca2 ca3 ca4 ca5 ca6 ca7 ca8 ca9
  go_cut [4] (fun v wc => ∃ go oc rows, v = .slice (some ⟨go, 0, none⟩) rows.length oc ∧ Own2 wc w.heap.size go oc rows ∧ rows.map RowV.l = nextR r us ∧ Below w.heap.size w wc)
  case first =>
    refine wp_region_noPanic ?_
    have Bu0 : Hid (Below w.heap.size w v1.drew) := Bv1.out.drew
    have Kau0 : Hid (Blk v1.drew w.heap.size [.int .i64 r.way, .int .i64 r.pal.wd, .int .i64 r.pal.dp, .int .i64 r.pal.ht, .int .i64 r.pal.gram, .int .i64 r.classes, .slice h.ap r.pairs.length h.cp, .slice h.at' r.types.length h.ct, .int .i64 r.master, .slice h.ai r.items.length h.ci]) := unhide Kav1
    have Zau0 : w.heap.size < v1.drew.heap.size := Zav1
    obtain ⟨S, hSdef⟩ : ∃ S : World → Prop, S = (fun w' => RqC w' w.heap.size r h) := ⟨_, rfl⟩
    have hSmk : ∀ wq, Blk wq w.heap.size [.int .i64 r.way, .int .i64 r.pal.wd, .int .i64 r.pal.dp, .int .i64 r.pal.ht, .int .i64 r.pal.gram, .int .i64 r.classes, .slice h.ap r.pairs.length h.cp, .slice h.at' r.types.length h.ct, .int .i64 r.master, .slice h.ai r.items.length h.ci] → S wq := fun wq ka => by rw [hSdef]; exact RqC.of ka
    have hSd : ∀ wq, S wq → (fun w' => RqC w' w.heap.size r h) wq := fun wq h => by rw [hSdef] at h; exact h
    clear hSdef
    have hHeld : S v1.drew := hSmk v1.drew Kau0.out
    refine wp_region_to (S := S) (T := []) (by kernel_rfl) hHeld (fun _ => ?_)
    generalize v1.drew = u0 at *
    refine wpTo_ts (i := 0) (v := ?_) rfl (by kernel_rfl) hSd (by rfl) (fun w hSw => ?_) (by assumption) ?_
    rotate_left
    · ((try dsimp only [RqC] at hSw); go_simp <;> with_reducible rfl)
    refine wpTo_ts (i := 1) (v := ?_) rfl (by kernel_rfl) hSd (by rfl) (fun w hSw => ?_) (by assumption) ?_
    rotate_left
    · ((try dsimp only [RqC] at hSw); go_simp <;> with_reducible rfl)
    refine wpTo_ts (i := 3) (v := ?_) rfl (by kernel_rfl) hSd (by rfl) (fun w hSw => ?_) (by assumption) ?_
    rotate_left
    · ((try dsimp only [RqC] at hSw); go_simp <;> with_reducible rfl)
    try simp only [Act.put, zz1, zz2, zz3, zz4, zz5, zz6]
    refine wpTo_ready (rs := [2]) (by kernel_rfl) (by simp) ?_
    refine AllTo.cons (o := _) rfl (fun K hK => ?_) ?_
    ·
     (try simp only [zz1, zz2, zz3])
     go_simp
     refine (l6Units_zero r h u0 (HR.out.mono Bu0.out) HZ.out).mono ?_
     rintro e u2 ⟨ug, uc, rfl, hgo, hb⟩
     have Bu2 := hide (Bu0.out.trans (hb.mono Bu0.out.size))
     have Kau2 := hide (Blk.below hb Zau0 Kau0.out)
     have Zau2 := Nat.lt_of_lt_of_le Zau0 hb.size
     clear hgo
     clear hb
     clear Bu0 Kau0 Zau0
     clear hHeld
     go_wp2_with fail
     have hHeld := hSmk u2 Kau2.out
     refine hK.out _ _ (fun _ => hHeld) ?_
     clear hK K
     try simp only [Act.put, zz1, zz2, zz3, zz4, zz5, zz6]
     refine wpTo_ready (rs := [4]) (by kernel_rfl) (by simp) ?_
     refine AllTo.cons (o := _) rfl (fun K hK => ?_) ?_
     ·
      (try simp only [zz1, zz2, zz3])
      go_simp
      refine (l7Known_any (itemsR r) (some ⟨ug, 0, none⟩) (unitsR r).length uc a n c us u2 rfl (by have := unitsR_len r; omega) (HU.out.mono Bu2.out) (by omega)).mono ?_
      rintro e u3 ⟨tg, tc, rfl, hto, hb⟩
      have Bu3 := hide (Bu2.out.trans (hb.mono Bu2.out.size))
      have Kau3 := hide (Blk.below hb Zau2 Kau2.out)
      have Zau3 := Nat.lt_of_lt_of_le Zau2 hb.size
      have QTu3 : Hid (Rd u3 (some ⟨tg, 0, none⟩) (knownL (itemsR r) us).length (knownL (itemsR r) us)) := Rd.of_owns hto
      have HTC := hide (own_cap hto).1
      clear hto
      clear hb
      clear Bu2 Kau2 Zau2
      clear hHeld
      go_wp2_with fail
      have hHeld := hSmk u3 Kau3.out
      refine hK.out _ _ (fun _ => hHeld) ?_
      clear hK K
      try simp only [Act.put, zz1, zz2, zz3, zz4, zz5, zz6]
      refine wpTo_ready (rs := [5]) (by kernel_rfl) (by simp) ?_
      refine AllTo.cons (o := _) rfl (fun K hK => ?_) ?_
      ·
       (try simp only [zz1, zz2, zz3])
       go_simp
       refine (l7Next_any r h (some ⟨tg, 0, none⟩) (knownL (itemsR r) us).length tc (knownL (itemsR r) us) u3 (HR.out.mono Bu3.out) hs HZ.out QTu3.out HKL.out).mono ?_
       rintro e u4 ⟨go, oc, rows, rfl, how, hrw, hb⟩
       have Bu4 := hide (Bu3.out.trans (hb.mono Bu3.out.size))
       have Kau4 := hide (Blk.below hb Zau3 Kau3.out)
       have Zau4 := Nat.lt_of_lt_of_le Zau3 hb.size
       have HO := hide (how.low Bu3.out.size)
       have HRW : Hid (rows.map RowV.l = nextR r us) := hrw
       clear how hrw
       clear hb
       clear Bu3 Kau3 Zau3
       clear hHeld
       go_wp2_with fail
       have hHeld := hSmk u4 Kau4.out
       refine hK.out _ _ (fun _ => hHeld) ?_
       clear hK K
       try simp only [Act.put, zz1, zz2, zz3, zz4, zz5, zz6]
       refine wpTo_ts (i := 6) (v := ?_) rfl (by kernel_rfl) hSd (by rfl) (fun w hSw => ?_) (by assumption) ?_
       rotate_left
       · ((try dsimp only [RqC] at hSw); go_simp <;> with_reducible rfl)
       try simp only [Act.put, zz1, zz2, zz3, zz4, zz5, zz6]
       refine wpTo_done (by kernel_rfl) ?_ _
       refine NoPanic.normal ?_
       go_wp2_with fail
       go_meet
       case rel => exact ⟨go, oc, rows, rfl, unhide HO, unhide HRW, unhide Bu4⟩
      exact AllTo.nil
     exact AllTo.nil
    exact AllTo.nil
  case rest =>
    obtain ⟨go, oc, rows, rfl, ho, hx, hb⟩ := hcut
    have HO := hide ho
    have HX := hide hx
    have HB := hide hb
    have HL : Hid (rows.length = (nextR r us).length) := by rw [Hid, ← hx, List.length_map]
    clear ho hx hb
    go_wp2
    go_ret
    exact ⟨go, oc, rows, by rw [← unhide HL]; rfl, unhide HO, unhide HX, unhide HB⟩
end Go.Proofs.YtphdeojiehigpaaGreatDoor

/- First fit of the model: l7First. -/
namespace Go.Proofs.YtphdeojiehigpaaGreatDoor
open Go Go.RowKit
set_option linter.unusedVariables false
set_option linter.unusedSimpArgs false

theorem Rd.one {w : World} {b off : Nat} {x : Int} (h : w.cell? ⟨b, off, none⟩ = some (.int .i64 x)) : Rd w (some ⟨b, off, none⟩) 1 [x] := ⟨rfl, fun i hi => by
  obtain rfl : i = 0 := by omega
  exact ⟨b, off, rfl, h⟩⟩
theorem ciSnoc (l : List Int) (x : Int) : ci (l ++ [x]) = ci l ++ [.int .i64 x] := by simp [ci]
theorem takeMapStep {α : Type} (f : Int → α) (us : List Int) (k : Nat) (h : k < us.length) : (us.take (k + 1)).map f = (us.take k).map f ++ [f (us.getD k 0)] := by
  rw [List.take_succ_eq_append_getElem h, List.map_append]
  simp [List.getD_eq_getElem?_getD, h]
theorem Rd.at {w : World} {b n : Nat} {us : List Int} (h : Rd w (some ⟨b, 0, none⟩) n us) (i : Nat) (hi : i < n) : w.cell? ⟨b, i, none⟩ = some (.int .i64 (us.getD i 0)) := by
  obtain ⟨b', off, e, hc⟩ := h.2 i hi
  injection e with e
  injection e with e1 e2
  subst e1 e2
  rwa [Nat.zero_add] at hc
theorem getD_map_cast {l : List Nat} {j : Nat} (h : j < l.length) : (l.map (fun p : Nat => (p : Int))).getD j 0 = ((l.getD j 0 : Nat) : Int) := by simp [List.getD_eq_getElem?_getD, h]
/-- What a search from behind has found so far, from place j on. -/
def ScanOk (f : List Int → Int → Bool) (gs : List (List Int)) (x : Int) (j : Nat) (v : Int) : Prop :=
  (v = -1 ∧ ∀ p, j ≤ p → p < gs.length → f (gs.getD p []) x = false) ∨ ∃ q : Nat, v = q ∧ j ≤ q ∧ q < gs.length ∧ f (gs.getD q []) x = true ∧ ∀ p, j ≤ p → p < q → f (gs.getD p []) x = false
theorem ScanOk.hit {f : List Int → Int → Bool} {gs : List (List Int)} {x : Int} {j : Nat} (hj : j < gs.length) (h : f (gs.getD j []) x = true) : ScanOk f gs x j (j : Int) := .inr ⟨j, rfl, Nat.le_refl _, hj, h, fun p h1 h2 => by omega⟩
theorem ScanOk.miss {f : List Int → Int → Bool} {gs : List (List Int)} {x v : Int} {j : Nat} (h : f (gs.getD j []) x = false) (hs : ScanOk f gs x (j + 1) v) : ScanOk f gs x j v := by
  have key : ∀ p, j ≤ p → (j + 1 ≤ p → f (gs.getD p []) x = false) → f (gs.getD p []) x = false := fun p h1 h2 => by
    by_cases e : p = j
    · subst e; exact h
    · exact h2 (by omega)
  rcases hs with ⟨h1, h2⟩ | ⟨q, h1, h2, h3, h4, h5⟩
  · exact .inl ⟨h1, fun p hp hl => key p hp (fun e => h2 p e hl)⟩
  · exact .inr ⟨q, h1, by omega, h3, h4, fun p hp hl => key p hp (fun e => h5 p e hl)⟩
theorem ScanOk.none {f : List Int → Int → Bool} {gs : List (List Int)} {x : Int} (h : ScanOk f gs x 0 (-1)) : firstStep f gs x = gs ++ [[x]] := by
  rcases h with ⟨_, h2⟩ | ⟨q, h1, _⟩
  · have : firstPl f gs x = gs.length := firstPl_eq (Nat.le_refl _) (fun j hj => h2 j (Nat.zero_le _) hj) (fun h => by omega)
    rw [firstStep, this, putP_new]
  · omega
theorem ScanOk.some {f : List Int → Int → Bool} {gs : List (List Int)} {x : Int} {q : Nat} (h : ScanOk f gs x 0 (q : Int)) : q < gs.length ∧ firstStep f gs x = gs.set q (gs.getD q [] ++ [x]) := by
  rcases h with ⟨h1, _⟩ | ⟨p, h1, h2, h3, h4, h5⟩
  · omega
  · obtain rfl : q = p := by omega
    have : firstPl f gs x = q := firstPl_eq (by omega) (fun j hj => h5 j (Nat.zero_le _) hj) (fun _ => h4)
    exact ⟨h3, by rw [firstStep, this, putP_old h3]⟩
set_option maxRecDepth 100000 in
set_option maxHeartbeats 4000000 in
theorem l7First_any (r : ReqV) (h : ReqH) (a : Option Addr) (n c : Nat) (us : List Int) (w : World) (hr : RdReq w r h) (hs : r.small) (hz : classI r = 0) (hu : Rd w a n us) (hnc : n ≤ c) (hn : n ≤ 1048576) :
    Calls Tryz.prog 136 #[reqVal r h, .slice a n c] w fun e w' => ∃ g cap rows, e = .returned (.slice (some ⟨g, 0, none⟩) rows.length cap) ∧ Own2 w' w.heap.size g cap rows ∧ rows.map RowV.l = firstTo (roomB (itemsR r) (masterV r)) (sortedU (itemsR r) us) n ∧ Below w.heap.size w w' := by
  obtain ⟨i0, hi0, hz0, hz1, hz2⟩ := info_parts Tryz.infoIntSs
  obtain ⟨j0, hj0, hy0, hy1, hy2⟩ := info_parts Tryz.infoInts
  have htl : r.types.length ≤ 1048600 := by unfold ReqV.small at hs; omega
  have HR := hide hr
  have HU := hide hu
  have hul := hu.1
  clear hr hu
  unfold reqVal
  go_enter Tryz.func136, Tryz.ntmps136
  go_wp2_with fail
  generalize hW : (w.alloc (.cells #[.int .i64 r.way, .int .i64 r.pal.wd, .int .i64 r.pal.dp, .int .i64 r.pal.ht, .int .i64 r.pal.gram, .int .i64 r.classes, .slice h.ap r.pairs.length h.cp, .slice h.at' r.types.length h.ct, .int .i64 r.master, .slice h.ai r.items.length h.ci] 40)) = W at *
  obtain ⟨BW, KaW, ZaW⟩ := en1 hW
  have Ga : w.heap.size ≤ w.heap.size := by omega
  clear hW
  refine (specMasterOf_any r h _ (HR.out.mono BW.out) htl).mono ?_
  rintro e v1 ⟨rfl, hb⟩
  have Bv1 := hide (BW.out.trans (hb.mono BW.out.size))
  have Kav1 := hide (Blk.below hb ZaW KaW.out)
  have Zav1 := Nat.lt_of_lt_of_le ZaW hb.size
  clear hb
  clear BW KaW ZaW
  obtain ⟨ca0, ca1, ca2, ca3, ca4, ca5, ca6, ca7, ca8, ca9⟩ := Blk.cs10 Kav1.out
  go_wp2_with fail
  clear ca0 ca1 ca2 ca3 ca4 ca5 ca6 ca7 ca8 ca9
  generalize hW : (v1.alloc (.cells #[.int .i64 (masterV r).id, .int .i64 (masterV r).wd, .int .i64 (masterV r).ht, .int .i64 (masterV r).dp, .int .i64 (masterV r).tare, .int .i64 (masterV r).gram, .int .i64 (masterV r).cost] 55)) = v2 at *
  obtain ⟨hb, Ktv2, Ztv2⟩ := en1 hW
  have hb := unhide hb
  have Bv2 := hide (Bv1.out.trans (hb.mono Bv1.out.size))
  have Gt : w.heap.size ≤ v1.heap.size := Bv1.out.size
  have Kav2 := hide (Blk.below hb Zav1 Kav1.out)
  have Zav2 := Nat.lt_of_lt_of_le Zav1 hb.size
  have Nqat : w.heap.size ≠ v1.heap.size := Nat.ne_of_lt Zav1
  have Nqta := Ne.symm Nqat
  clear hb hW
  clear Bv1 Kav1 Zav1
  obtain ⟨ca0, ca1, ca2, ca3, ca4, ca5, ca6, ca7, ca8, ca9⟩ := Blk.cs10 Kav2.out
  go_wp2_with fail
  refine (l6Units_zero r h _ (HR.out.mono Bv2.out) hz).mono ?_
  rintro e v3 ⟨gp, cp, rfl, hgo, hb⟩
  have Bv3 := hide (Bv2.out.trans (hb.mono Bv2.out.size))
  have Kav3 := hide (Blk.below hb Zav2 Kav2.out)
  have Zav3 := Nat.lt_of_lt_of_le Zav2 hb.size
  have Ktv3 := hide (Blk.below hb Ztv2 Ktv2.out)
  have Ztv3 := Nat.lt_of_lt_of_le Ztv2 hb.size
  clear hb
  clear Bv2 Kav2 Zav2 Ktv2 Ztv2
  clear ca0 ca1 ca2 ca3 ca4 ca5 ca6 ca7 ca8 ca9
  have UN := hide (Rd.of_owns hgo)
  have hN12 := unitsR_len r
  clear hgo
  generalize hN : (unitsR r).length = N at *
  clear hN
  obtain ⟨wb, hwb⟩ : ∃ wb : World, wb = v3 := ⟨_, rfl⟩
  subst hwb
  have HWB := Bv3
  have Kawb := Kav3
  have Ktwb := Ktv3
  have Zawb := Zav3
  have Ztwb := Ztv3
  have HO := hide (own_lit0 (e := 3) (size := 1) wb (Nat.le_refl _))
  have HB0 : Hid (Below wb.heap.size wb (wb.alloc (.cells #[] 3))) := (Below.refl _ _).alloc (Nat.le_refl _) _
  go_wp2
  generalize (wb.alloc (.cells #[] 3)) = w0 at *
  go_loopw [8, 9] (fun o i wr => ∃ (k g cap : Nat), k ≤ n ∧ i = .int .i64 k ∧ o = .slice (some ⟨g, 0, none⟩) k cap ∧ wr.ownsRow wb.heap.size 3 1 (.slice (some ⟨g, 0, none⟩) k cap) k (ci ((us.take k).map (volAt (itemsR r)))) ∧ Below wb.heap.size wb wr) (fun _ i _ => n - (intOf i).toNat)
  case atStart => exact ⟨0, wb.heap.size, 0, Nat.zero_le _, rfl, rfl, unhide HO, unhide HB0⟩
  case round =>
  clear HO HB0
  obtain ⟨k, g, cap, hk, rfl, rfl, hown, hb⟩ := hrel
  have QKwr := hide hown
  have Bwr := hide hb
  by_cases hlk : k < n
  case pos =>
    have Kawr := hide (Blk.below hb Zawb Kawb.out)
    have Zawr : w.heap.size < wr.heap.size := Nat.lt_of_lt_of_le Zawb hb.size
    obtain ⟨b, off, hua, hcw⟩ := (HU.out.mono HWB.out).2 k hlk
    have hku : k < us.length := by omega
    have hkc1 : k + 1 ≤ c := by omega
    have hkc2 : ¬ c = k := by omega
    have hkc3 : k < c := by omega
    have HST := hide (takeMapStep (volAt (itemsR r)) us k hku)
    generalize us.getD k 0 = x at hcw HST
    have HV1 : Hid (volOf (itemsR r) [x] = volAt (itemsR r) x) := by simp [Hid, volOf]
    subst hua
    have hcu : ∀ u, Below wb.heap.size wb u → u.cell? ⟨b, off + k, none⟩ = some (.int .i64 x) := fun u hb => (hb.cell (World.block_lt_of_cell? wb _ hcw)).trans hcw
    have hc := hcu _ hb
    clear hcw hown hb
    go_upto_region 7 with fail
    clear hc
    refine wp_region_noPanic ?_
    have Bu0 : Hid (Below wb.heap.size wb wr.drew) := Bwr.out.drew
    have QKu0 : Hid (wr.drew.ownsRow wb.heap.size 3 1 (.slice (some ⟨g, 0, none⟩) (k) cap) (k) (ci ((us.take k).map (volAt (itemsR r))))) := own_later QKwr.out (Below.refl _ _).drew
    have Kau0 : Hid (Blk wr.drew w.heap.size [.int .i64 r.way, .int .i64 r.pal.wd, .int .i64 r.pal.dp, .int .i64 r.pal.ht, .int .i64 r.pal.gram, .int .i64 r.classes, .slice h.ap r.pairs.length h.cp, .slice h.at' r.types.length h.ct, .int .i64 r.master, .slice h.ai r.items.length h.ci]) := unhide Kawr
    have Zau0 : w.heap.size < wr.drew.heap.size := Zawr
    obtain ⟨S, hSdef⟩ : ∃ S : World → Prop, S = (fun w' => RqC w' w.heap.size r h) := ⟨_, rfl⟩
    have hSmk : ∀ wq, Blk wq w.heap.size [.int .i64 r.way, .int .i64 r.pal.wd, .int .i64 r.pal.dp, .int .i64 r.pal.ht, .int .i64 r.pal.gram, .int .i64 r.classes, .slice h.ap r.pairs.length h.cp, .slice h.at' r.types.length h.ct, .int .i64 r.master, .slice h.ai r.items.length h.ci] → S wq := fun wq ka => by rw [hSdef]; exact RqC.of ka
    have hSd : ∀ wq, S wq → (fun w' => RqC w' w.heap.size r h) wq := fun wq h => by rw [hSdef] at h; exact h
    clear hSdef
    have hHeld : S wr.drew := hSmk wr.drew Kau0.out
    refine wp_region_to (S := S) (T := []) (by kernel_rfl) hHeld (fun _ => ?_)
    generalize wr.drew = u0 at *
    refine wpTo_ts (i := 0) (v := ?_) rfl (by kernel_rfl) hSd (by rfl) (fun w hSw => ?_) (by assumption) ?_
    rotate_left
    · ((try dsimp only [RqC] at hSw); go_simp <;> with_reducible rfl)
    refine wpTo_ts (i := 1) (v := ?_) rfl (by kernel_rfl) hSd (by rfl) (fun w hSw => ?_) (by assumption) ?_
    rotate_left
    · ((try dsimp only [RqC] at hSw); go_simp <;> with_reducible rfl)
    refine wpTo_ts (i := 2) (v := ?_) rfl (by kernel_rfl) hSd (by rfl) (fun w hSw => ?_) (by assumption) ?_
    rotate_left
    · ((try dsimp only [RqC] at hSw); go_simp <;> with_reducible rfl)
    try simp only [Act.put, zz1, zz2, zz3, zz4, zz5, zz6]
    refine wpTo_ts (i := 3) (v := ?_) rfl (by kernel_rfl) hSd (by rfl) (fun w hSw => ?_) (by assumption) ?_
    rotate_left
    · ((try dsimp only [RqC] at hSw); go_simp <;> with_reducible rfl)
    refine wpTo_ts (i := 4) (v := ?_) rfl (by kernel_rfl) hSd (by rfl) (fun w hSw => ?_) (by assumption) ?_
    rotate_left
    · ((try dsimp only [RqC] at hSw); go_simp <;> with_reducible rfl)
    refine wpTo_ts (i := 5) (v := ?_) rfl (by kernel_rfl) hSd (by rfl) (fun w hSw => ?_) (by assumption) ?_
    rotate_left
    · ((try dsimp only [RqC] at hSw); go_simp <;> with_reducible rfl)
    refine wpTo_ts (i := 6) (v := ?_) rfl (by kernel_rfl) hSd (by rfl) (fun w hSw => ?_) (by assumption) ?_
    rotate_left
    · ((try dsimp only [RqC] at hSw); go_simp <;> with_reducible rfl)
    try simp only [Act.put, zz1, zz2, zz3, zz4, zz5, zz6]
    rw [wrap_fits (x := (k : Int) + 1) (by omega) (by omega)]
    try simp only [Act.put, zz1, zz2, zz3, zz4, zz5, zz6]
    refine wpTo_inv (fun a0 listed ai wi => ∃ (b7 b8 b9 b10 b11 b12 : Bool) (gu gN cN : Nat), listed = #[true, true, true, true, true, true, true, b7, b8, b9, b10, b11, b12] ∧ ai = fillS b12 8 (.slice (some ⟨gN, 0, none⟩) (k + 1) cN) (fillS b11 41 (.slice (some ⟨gN, 0, none⟩) (k + 1) cN) (fillS b10 40 (.slice (some ⟨gu, 0, none⟩) 1 1) (fillS b9 39 (.int .i64 (volOf (itemsR r) [x])) (fillS b8 38 (.agg #[.int .i64 (volOf (itemsR r) [x]), .int .i64 (gramOf (itemsR r) [x])]) (fillS b7 37 (.slice (some ⟨b, off + k, none⟩) 1 (c - k)) (a0)))))) ∧ Hid (Below wb.heap.size wb wi) ∧ Hid (Fk b11 → wi.ownsRow wb.heap.size 3 1 (.slice (some ⟨g, 0, none⟩) (k) cap) (k) (ci ((us.take k).map (volAt (itemsR r))))) ∧ Hid (Tk b10 → Blk wi gu [.int .i64 (volOf (itemsR r) [x])] ∧ gu < wi.heap.size ∧ wb.heap.size ≤ gu) ∧ Hid (Tk b11 → wi.ownsRow wb.heap.size 3 1 (.slice (some ⟨gN, 0, none⟩) (k + 1) cN) (k + 1) (ci ((us.take k).map (volAt (itemsR r))) ++ [.int .i64 (volOf (itemsR r) [x])])) ∧ Hid (Tk b10 → Fk b11 → g ≠ gu) ∧ Hid (Tk b8 → Tk b7) ∧ Hid (Tk b9 → Tk b7 ∧ Tk b8) ∧ Hid (Tk b10 → Tk b7 ∧ Tk b8 ∧ Tk b9) ∧ Hid (Tk b11 → Tk b7 ∧ Tk b8 ∧ Tk b9 ∧ Tk b10) ∧ Hid (Tk b12 → Tk b7 ∧ Tk b8 ∧ Tk b9 ∧ Tk b10 ∧ Tk b11)) ⟨false, false, false, false, false, false, 0, 0, 0, rfl, by simp only [fillS_false], Bu0.out, (fun _ => unhide QKu0), (fun h => by cases h), (fun h => by cases h), (fun h _ => by cases h), (fun h => by cases h), (fun h => by cases h), (fun h => by cases h), (fun h => by cases h), (fun h => by cases h)⟩ ?hS ?hT ?step ?fin _ (by decide)
    case hS =>
      rintro listed ai wi ⟨b7, b8, b9, b10, b11, b12, gu, gN, cN, rfl, ha, FB, FOK, FKu, FON, FNKu, FC8, FC9, FC10, FC11, FC12⟩ hTf
      exact hSmk wi (Blk.below (FB.out) Zawb Kawb.out)
    case hT =>
      exact fun _ _ _ _ f hf => by cases hf
    case step =>
      rintro listed ai wi i o ⟨b7, b8, b9, b10, b11, b12, gu, gN, cN, rfl, ha, FB, FOK, FKu, FON, FNKu, FC8, FC9, FC10, FC11, FC12⟩ ho hl hall
      have hi : i < 13 := (Array.getElem?_eq_some_iff.1 ho).1
      obtain rfl | rfl | rfl | rfl | rfl | rfl | rfl | rfl | rfl | rfl | rfl | rfl | rfl : i = 0 ∨ i = 1 ∨ i = 2 ∨ i = 3 ∨ i = 4 ∨ i = 5 ∨ i = 6 ∨ i = 7 ∨ i = 8 ∨ i = 9 ∨ i = 10 ∨ i = 11 ∨ i = 12 := by omega
      · exact absurd hl (by simp)
      · exact absurd hl (by simp)
      · exact absurd hl (by simp)
      · exact absurd hl (by simp)
      · exact absurd hl (by simp)
      · exact absurd hl (by simp)
      · exact absurd hl (by simp)
      · obtain rfl := Option.some.inj ho
        obtain rfl : b7 = false := by simpa using hl
        obtain rfl : b8 = false := Tk_no (fun p => by have h8 := FC8.out p; simp [Tk] at h8)
        obtain rfl : b9 = false := Tk_no (fun p => by have h8 := FC9.out p; simp [Tk] at h8)
        obtain rfl : b10 = false := Tk_no (fun p => by have h8 := FC10.out p; simp [Tk] at h8)
        obtain rfl : b11 = false := Tk_no (fun p => by have h8 := FC11.out p; simp [Tk] at h8)
        obtain rfl : b12 = false := Tk_no (fun p => by have h8 := FC12.out p; simp [Tk] at h8)
        clear ho hl hall hi
        simp only [fillS, pickS_true, pickS_false, Act.put, zz7, zz8, zz9, zz10, zz11, zz1, zz2, zz3, zz4, zz5, zz6] at ha
        subst ha
        refine wpOp_stepS (o := _) rfl (fun K hK => ?_)
        go_simp
        rw [if_pos (show (0 : Int) ≤ (k : Int) + 1 ∧ (k : Int) + 1 ≤ (c : Int) from ⟨by omega, by omega⟩)]
        go_simp
        refine hK.out _ _ ?_
        exact ⟨true, false, false, false, false, false, gu, gN, cN, rfl, by simp only [fillS, pickS_true, pickS_false, Act.put, zz7, zz8, zz9, zz10, zz11, zz1, zz2, zz3, zz4, zz5, zz6], (FB.out), (fun q11 => (unhide FOK q11)), (fun p10 => (by cases p10)), (fun p11 => (by cases p11)), (fun p10 q11 => (by cases p10)), (fun p8 => (by cases p8)), (fun p9 => (by cases p9)), (fun p10 => (by cases p10)), (fun p11 => (by cases p11)), (fun p12 => (by cases p12))⟩
      · obtain rfl := Option.some.inj ho
        obtain rfl : b8 = false := by simpa using hl
        obtain rfl : b7 = true := by simpa using hall ⟨7, .data⟩ (by simp) rfl
        obtain rfl : b9 = false := Tk_no (fun p => by have h8 := FC9.out p; simp [Tk] at h8)
        obtain rfl : b10 = false := Tk_no (fun p => by have h8 := FC10.out p; simp [Tk] at h8)
        obtain rfl : b11 = false := Tk_no (fun p => by have h8 := FC11.out p; simp [Tk] at h8)
        obtain rfl : b12 = false := Tk_no (fun p => by have h8 := FC12.out p; simp [Tk] at h8)
        clear ho hl hall hi
        simp only [fillS, pickS_true, pickS_false, Act.put, zz7, zz8, zz9, zz10, zz11, zz1, zz2, zz3, zz4, zz5, zz6] at ha
        subst ha
        refine wpOp_stepS (o := _) rfl (fun K hK => ?_)
        go_simp
        refine (l7Of_any r h (some ⟨gp, 0, none⟩) N cp (some ⟨b, off + k, none⟩) 1 (c - k) [x] wi (HR.out.mono (HWB.out.trans (FB.out.mono HWB.out.size))) (UN.out.mono FB.out) (Rd.one (hcu _ FB.out)) (by omega)).mono ?_
        rintro e wz ⟨rfl, hb⟩
        go_wp2_with fail
        refine hK.out _ _ ?_
        exact ⟨true, true, false, false, false, false, gu, gN, cN, rfl, by simp only [fillS, pickS_true, pickS_false, Act.put, zz7, zz8, zz9, zz10, zz11, zz1, zz2, zz3, zz4, zz5, zz6], ((FB.out.trans (hb.mono FB.out.size))), (fun q11 => (own_later (unhide FOK q11) hb)), (fun p10 => (by cases p10)), (fun p11 => (by cases p11)), (fun p10 q11 => (by cases p10)), (fun p8 => rfl), (fun p9 => (by cases p9)), (fun p10 => (by cases p10)), (fun p11 => (by cases p11)), (fun p12 => (by cases p12))⟩
      · obtain rfl := Option.some.inj ho
        obtain rfl : b9 = false := by simpa using hl
        obtain rfl : b8 = true := by simpa using hall ⟨8, .data⟩ (by simp) rfl
        obtain rfl := FC8.out rfl
        obtain rfl : b10 = false := Tk_no (fun p => by have h8 := FC10.out p; simp [Tk] at h8)
        obtain rfl : b11 = false := Tk_no (fun p => by have h8 := FC11.out p; simp [Tk] at h8)
        obtain rfl : b12 = false := Tk_no (fun p => by have h8 := FC12.out p; simp [Tk] at h8)
        clear ho hl hall hi
        simp only [fillS, pickS_true, pickS_false, Act.put, zz7, zz8, zz9, zz10, zz11, zz1, zz2, zz3, zz4, zz5, zz6] at ha
        subst ha
        refine wpOp_stepS (o := _) rfl (fun K hK => ?_)
        go_simp
        refine hK.out _ _ ?_
        exact ⟨true, true, true, false, false, false, gu, gN, cN, rfl, by simp only [fillS, pickS_true, pickS_false, Act.put, zz7, zz8, zz9, zz10, zz11, zz1, zz2, zz3, zz4, zz5, zz6], (FB.out), (fun q11 => (unhide FOK q11)), (fun p10 => (by cases p10)), (fun p11 => (by cases p11)), (fun p10 q11 => (by cases p10)), (fun p8 => (unhide FC8 p8)), (fun p9 => ⟨rfl, rfl⟩), (fun p10 => (by cases p10)), (fun p11 => (by cases p11)), (fun p12 => (by cases p12))⟩
      · obtain rfl := Option.some.inj ho
        obtain rfl : b10 = false := by simpa using hl
        obtain rfl : b9 = true := by simpa using hall ⟨9, .data⟩ (by simp) rfl
        obtain ⟨rfl, rfl⟩ := FC9.out rfl
        obtain rfl : b11 = false := Tk_no (fun p => by have h8 := FC11.out p; simp [Tk] at h8)
        obtain rfl : b12 = false := Tk_no (fun p => by have h8 := FC12.out p; simp [Tk] at h8)
        clear ho hl hall hi
        simp only [fillS, pickS_true, pickS_false, Act.put, zz7, zz8, zz9, zz10, zz11, zz1, zz2, zz3, zz4, zz5, zz6] at ha
        subst ha
        refine wpOp_stepS (o := _) rfl (fun K hK => ?_)
        go_simp
        refine hK.out _ _ ?_
        exact ⟨true, true, true, true, false, false, wi.heap.size, gN, cN, rfl, by simp only [fillS, pickS_true, pickS_false, Act.put, zz7, zz8, zz9, zz10, zz11, zz1, zz2, zz3, zz4, zz5, zz6], ((FB.out.alloc FB.out.size _)), (fun q11 => ((unhide FOK q11).alloc _)), (fun p10 => ⟨Blk.allocAt [.int .i64 (volOf (itemsR r) [x])] (by rfl), lt_alloc_new wi _, (FB.out).size⟩), (fun p11 => (by cases p11)), (fun p10 q11 => (Nat.ne_of_lt ((unhide FOK q11).lt _ rfl).2)), (fun p8 => (unhide FC8 p8)), (fun p9 => (unhide FC9 p9)), (fun p10 => ⟨rfl, rfl, rfl⟩), (fun p11 => (by cases p11)), (fun p12 => (by cases p12))⟩
      · obtain rfl := Option.some.inj ho
        obtain rfl : b11 = false := by simpa using hl
        obtain rfl : b10 = true := by simpa using hall ⟨10, .data⟩ (by simp) rfl
        obtain ⟨rfl, rfl, rfl⟩ := FC10.out rfl
        obtain rfl : b12 = false := Tk_no (fun p => by have h8 := FC12.out p; simp [Tk] at h8)
        clear ho hl hall hi
        simp only [fillS, pickS_true, pickS_false, Act.put, zz7, zz8, zz9, zz10, zz11, zz1, zz2, zz3, zz4, zz5, zz6] at ha
        subst ha
        have hsrc := FOK.out rfl
        refine wpOp_stepS (o := _) rfl (fun K hK => ?_)
        refine step_append_some _ (by rfl) _ _ 29 (by rfl) wb.heap.size 3 j0 (.int .i64 0) 1 8 Tryz.underlying29 hj0 hy0 hy1 hy2 rfl (by omega) (.slice (some ⟨g, 0, none⟩) (k) cap) (k) (ci ((us.take k).map (volAt (itemsR r)))) (by rfl) hsrc (by simp) ⟨gu, 0, none⟩ (1) (1) ([.int .i64 (volOf (itemsR r) [x])]) (by rfl) rfl ((FKu.out rfl).1).news (by simp [Value.oneCell']) (by unfold maxLen; omega) (by omega) (FB.out).size ?_
        intro gnew cnew wz hown hg hat hlt
        refine hK.out _ _ ?_
        exact ⟨true, true, true, true, true, false, gu, gnew, cnew, rfl, by simp only [fillS, pickS_true, pickS_false, Act.put, zz7, zz8, zz9, zz10, zz11, zz1, zz2, zz3, zz4, zz5, zz6], ((FB.out.grown hg FB.out.size (fun b hb => by have := own_base hsrc; simp [Value.ownBlock] at hb; omega))), (fun q11 => (by cases q11)), (fun p10 => ⟨Blk.gb (unhide FKu p10).1 hg (unhide FKu p10).2.1 (Ne.symm (unhide FNKu p10 rfl)), Nat.lt_of_lt_of_le (unhide FKu p10).2.1 hg.size, (unhide FKu p10).2.2⟩), (fun p11 => hown), (fun p10 q11 => (by cases q11)), (fun p8 => (unhide FC8 p8)), (fun p9 => (unhide FC9 p9)), (fun p10 => (unhide FC10 p10)), (fun p11 => ⟨rfl, rfl, rfl, rfl⟩), (fun p12 => (by cases p12))⟩
      · obtain rfl := Option.some.inj ho
        obtain rfl : b12 = false := by simpa using hl
        obtain rfl : b11 = true := by simpa using hall ⟨11, .data⟩ (by simp) rfl
        obtain ⟨rfl, rfl, rfl, rfl⟩ := FC11.out rfl
        clear ho hl hall hi
        simp only [fillS, pickS_true, pickS_false, Act.put, zz7, zz8, zz9, zz10, zz11, zz1, zz2, zz3, zz4, zz5, zz6] at ha
        subst ha
        refine wpOp_stepS (o := _) rfl (fun K hK => ?_)
        go_simp
        refine hK.out _ _ ?_
        exact ⟨true, true, true, true, true, true, gu, gN, cN, rfl, by simp only [fillS, pickS_true, pickS_false, Act.put, zz7, zz8, zz9, zz10, zz11, zz1, zz2, zz3, zz4, zz5, zz6], (FB.out), (fun q11 => (by cases q11)), (fun p10 => (unhide FKu p10)), (fun p11 => (unhide FON p11)), (fun p10 q11 => (by cases q11)), (fun p8 => (unhide FC8 p8)), (fun p9 => (unhide FC9 p9)), (fun p10 => (unhide FC10 p10)), (fun p11 => (unhide FC11 p11)), (fun p12 => ⟨rfl, rfl, rfl, rfl, rfl⟩)⟩
    case fin =>
      rintro listed ai wi ⟨b7, b8, b9, b10, b11, b12, gu, gN, cN, rfl, ha, FB, FOK, FKu, FON, FNKu, FC8, FC9, FC10, FC11, FC12⟩ hall
      obtain rfl : b7 = true := by
        have h9 := hall 7 _ rfl (by
          intro e he hbd
          simp at he
          rcases he with rfl | rfl | rfl <;> simp
          )
        simpa using h9
      obtain rfl : b8 = true := by
        have h9 := hall 8 _ rfl (by
          intro e he hbd
          simp at he
          rcases he with rfl | rfl | rfl <;> simp
          )
        simpa using h9
      obtain rfl : b9 = true := by
        have h9 := hall 9 _ rfl (by
          intro e he hbd
          simp at he
          subst he
          simp
          )
        simpa using h9
      obtain rfl : b10 = true := by
        have h9 := hall 10 _ rfl (by
          intro e he hbd
          simp at he
          subst he
          simp
          )
        simpa using h9
      obtain rfl : b11 = true := by
        have h9 := hall 11 _ rfl (by
          intro e he hbd
          simp at he
          rcases he with rfl | rfl | rfl <;> simp
          )
        simpa using h9
      obtain rfl : b12 = true := by
        have h9 := hall 12 _ rfl (by
          intro e he hbd
          simp at he
          rcases he with rfl | rfl | rfl | rfl | rfl | rfl | rfl | rfl | rfl | rfl | rfl | rfl | rfl | rfl <;> simp
          )
        simpa using h9
      clear hall
      simp only [fillS, pickS_true, pickS_false, Act.put, zz7, zz8, zz9, zz10, zz11, zz1, zz2, zz3, zz4, zz5, zz6] at ha
      subst ha
      refine NoPanic.normal ?_
      have Bwi := FB
      have Kawi := hide (Blk.below FB.out Zawb Kawb.out)
      have Zawi := Nat.lt_of_lt_of_le Zawb FB.out.size
      have Kuwi := hide (FKu.out rfl).1
      have Zuwi := (FKu.out rfl).2.1
      have Gu := (FKu.out rfl).2.2
      have ONwi := hide (FON.out rfl)
      clear FB FOK FKu FON FNKu FC8 FC9 FC10 FC11 FC12
      have HO3 : Hid (wi.ownsRow wb.heap.size 3 1 (.slice (some ⟨gN, 0, none⟩) (k + 1) cN) (k + 1) (ci ((us.take (k + 1)).map (volAt (itemsR r))))) := by rw [Hid, unhide HST, ciSnoc, ← unhide HV1]; exact unhide ONwi
      go_wp2
      go_roundw
      case rel => exact ⟨k + 1, gN, cN, by omega, by go_num, rfl, unhide HO3, unhide Bwi⟩
      case measure => simp [intOf]; omega
  obtain rfl : k = n := by omega
  have e : us.take k = us := List.take_of_length_le (by omega)
  rw [e] at hown
  have RK := hide (Rd.of_owns hown)
  have HWR := hide (HWB.out.trans (hb.mono HWB.out.size))
  have hbz := hb.size
  clear hown QKwr e
  go_wp2_with fail
  refine (specSortDown_any (some ⟨g, 0, none⟩) k cap (us.map (volAt (itemsR r))) wr RK.out hn).mono ?_
  rintro e wd ⟨pg, pc, rfl, hpo, hb2⟩
  have PO : Hid (Rd wd (some ⟨pg, 0, none⟩) k ((placesU (itemsR r) us).map (fun p : Nat => (p : Int)))) := by
    have hl : us.length = k := by omega
    refine Rd.of_owns (base := wr.heap.size) (cap := pc) ?_
    rw [placesU, hl, List.map_map]
    exact hpo
  have hbb : Below wb.heap.size wb wd := hb.trans (hb2.mono hbz)
  have HWD := hide (HWB.out.trans (hbb.mono HWB.out.size))
  have UND := hide (UN.out.mono hbb)
  have Kawd := hide (Blk.below hbb Zawb Kawb.out)
  have Ktwd := hide (Blk.below hbb Ztwb Ktwb.out)
  have Zawd := Nat.lt_of_lt_of_le Zawb hbb.size
  have Ztwd := Nat.lt_of_lt_of_le Ztwb hbb.size
  have HO2 := hide (own2_new wd (Nat.le_refl _))
  have HB2 : Hid (Below wd.heap.size wd (wd.alloc (.cells #[] 29))) := (Below.refl _ _).alloc (Nat.le_refl _) _
  clear hpo hb2 hb hbb Bwr RK HWR hbz Kawb Ktwb Zawb Ztwb UN HWB
  go_wp2
  generalize (wd.alloc (.cells #[] 29)) = w9 at *
  clear wr
  go_loopw [11, 12] (fun o i wr => ∃ (j g cap m : Nat) (rows : List RowV), j ≤ k ∧ i = .int .i64 j ∧ rows.length = m ∧ o = .slice (some ⟨g, 0, none⟩) m cap ∧ rows.map RowV.l = firstTo (roomB (itemsR r) (masterV r)) (sortedU (itemsR r) us) j ∧ Own2 wr wd.heap.size g cap rows ∧ Below wd.heap.size wd wr) (fun _ i _ => k - (intOf i).toNat)
  case atStart => exact ⟨0, wd.heap.size, 0, 0, [], Nat.zero_le _, rfl, rfl, rfl, rfl, unhide HO2, unhide HB2⟩
  case round =>
    clear HO2 HB2
    obtain ⟨j, g, cap, m, rows, hj, rfl, hm, rfl, hgr, ho, hb⟩ := hrel
    have HG := hide hgr
    have QOwr := hide ho
    have Bwr := hide hb
    by_cases hlj : j < k
    case neg =>
      obtain rfl : j = k := by omega
      have HM := hide hm
      have HBW := hide (HWD.out.trans (hb.mono HWD.out.size))
      clear hgr ho hb hm
      go_wp2
      go_ret
      exact ⟨g, cap, rows, by rw [unhide HM]; rfl, QOwr.out.low HWD.out.size, unhide HG, unhide HBW⟩
    have hpl := placesU_lt (xs := itemsR r) (us := us) (k := j) (by omega)
    have c1 := Rd.at (PO.out.mono hb) j hlj
    rw [getD_map_cast (by rw [placesU_len]; omega)] at c1
    have HSA := hide (sortedU_at (xs := itemsR r) (us := us) (k := j) (by omega))
    have HST := hide (firstTo_step (roomB (itemsR r) (masterV r)) (sortedU (itemsR r) us) j (by rw [sortedU_len]; omega))
    rw [unhide HSA] at HST
    have htt := firstTo_tot (roomB (itemsR r) (masterV r)) (sortedU (itemsR r) us) j (by rw [sortedU_len]; omega)
    generalize (placesU (itemsR r) us).getD j 0 = pp at *
    have hppk : pp < k := by omega
    obtain ⟨b, off, hua, hcw⟩ := (HU.out.mono (HWD.out.trans (hb.mono HWD.out.size))).2 pp hppk
    generalize us.getD pp 0 = x at hcw HST
    rw [← unhide HG] at HST htt
    subst hua
    have hmk : m ≤ 1048580 := by have := htt.2; rw [List.length_map, hm] at this; omega
    have HTT := hide htt.1
    have HML := hide hm
    clear htt hgr ho hb hpl HSA HG
    go_wp2
    clear c1 hcw
    obtain ⟨wo, hwo⟩ : ∃ x : World, x = wr := ⟨_, rfl⟩
    subst hwo
    go_loopw [14, 15] (fun t kk wq => ∃ (i : Nat) (v z : Int), i ≤ m ∧ z = (i : Int) - 1 ∧ kk = .int .i64 z ∧ t = .int .i64 v ∧ ScanOk (roomB (itemsR r) (masterV r)) (rows.map RowV.l) x i v ∧ Own2 wq wd.heap.size g cap rows ∧ Below wd.heap.size wd wq) (fun _ kk _ => (intOf kk + 1).toNat)
    case atStart => exact ⟨m, -1, _, Nat.le_refl _, rfl, rfl, rfl, .inl ⟨rfl, fun p h1 h2 => by rw [List.length_map, unhide HML] at h2; omega⟩, unhide QOwr, unhide Bwr⟩
    case round =>
      clear QOwr Bwr
      obtain ⟨i, v, z, hi, hz9, rfl, rfl, hsc, ho, hb⟩ := hrel
      have HSC := hide hsc
      by_cases hi0 : 0 < i
      case pos =>
        obtain ⟨p, rfl⟩ : ∃ p, i = p + 1 := ⟨i - 1, by omega⟩
        obtain rfl : z = (p : Int) := by omega
        have hpm : p < m := by omega
        have hpr : p < rows.length := by omega
        have hp0 : (0 : Int) ≤ (p : Int) := by omega
        have QOwr := hide ho
        have Bwr := hide hb
        have Kawr := hide (Blk.below hb Zawd Kawd.out)
        have Ktwr := hide (Blk.below hb Ztwd Ktwd.out)
        have Zawr := Nat.lt_of_lt_of_le Zawd hb.size
        have Ztwr := Nat.lt_of_lt_of_le Ztwd hb.size
        have HROWL := hide (map_getD_l rows p hpr)
        have hll : (rows.getD p default).l.length ≤ 1048580 := by
          have h1 := tot2_row (rows.map RowV.l) p (by rw [List.length_map]; exact hpr)
          rw [unhide HROWL] at h1
          have := unhide HTT
          omega
        have HGC := hide (fun (u : World) (ho : Own2 u wd.heap.size g cap rows) => (ho.cell p hpr).1)
        have HRR := hide (fun (u : World) (ho : Own2 u wd.heap.size g cap rows) => own_reads (ho.rws.row p hpr))
        generalize rows.getD p default = rv at *
        have HGC2 : Hid (∀ u, Own2 u wd.heap.size g cap rows → u.cell? ⟨g, p, none⟩ = some (.slice (some ⟨rv.g, 0, none⟩) rv.l.length rv.cap)) := unhide HGC
        clear hsc ho hb HGC hz9
        go_upto_region 18 with fail
        go_cut [73] (fun v wc => v = .bool (roomB (itemsR r) (masterV r) rv.l x) ∧ Own2 wc wd.heap.size g cap rows ∧ Below wd.heap.size wd wc)
        case first =>
          refine wp_region_noPanic ?_
          have Bu0 : Hid (Below wd.heap.size wd wr.drew) := Bwr.out.drew
          have QOu0 : Hid (Own2 wr.drew wd.heap.size g cap rows) := QOwr.out.later (Below.refl _ _).drew
          have Kau0 : Hid (Blk wr.drew w.heap.size [.int .i64 r.way, .int .i64 r.pal.wd, .int .i64 r.pal.dp, .int .i64 r.pal.ht, .int .i64 r.pal.gram, .int .i64 r.classes, .slice h.ap r.pairs.length h.cp, .slice h.at' r.types.length h.ct, .int .i64 r.master, .slice h.ai r.items.length h.ci]) := unhide Kawr
          have Zau0 : w.heap.size < wr.drew.heap.size := Zawr
          have Ktu0 : Hid (Blk wr.drew v1.heap.size [.int .i64 (masterV r).id, .int .i64 (masterV r).wd, .int .i64 (masterV r).ht, .int .i64 (masterV r).dp, .int .i64 (masterV r).tare, .int .i64 (masterV r).gram, .int .i64 (masterV r).cost]) := unhide Ktwr
          have Ztu0 : v1.heap.size < wr.drew.heap.size := Ztwr
          obtain ⟨S, hSdef⟩ : ∃ S : World → Prop, S = (fun w' => RqC w' w.heap.size r h ∧ w'.cell? ⟨v1.heap.size, 0, none⟩ = some (.int .i64 (masterV r).id) ∧ w'.cell? ⟨v1.heap.size, 1, none⟩ = some (.int .i64 (masterV r).wd) ∧ w'.cell? ⟨v1.heap.size, 2, none⟩ = some (.int .i64 (masterV r).ht) ∧ w'.cell? ⟨v1.heap.size, 3, none⟩ = some (.int .i64 (masterV r).dp) ∧ w'.cell? ⟨v1.heap.size, 4, none⟩ = some (.int .i64 (masterV r).tare) ∧ w'.cell? ⟨v1.heap.size, 5, none⟩ = some (.int .i64 (masterV r).gram) ∧ w'.cell? ⟨v1.heap.size, 6, none⟩ = some (.int .i64 (masterV r).cost) ∧ w'.cell? ⟨g, p, none⟩ = some (.slice (some ⟨rv.g, 0, none⟩) rv.l.length rv.cap)) := ⟨_, rfl⟩
          have hSmk : ∀ wq, Blk wq w.heap.size [.int .i64 r.way, .int .i64 r.pal.wd, .int .i64 r.pal.dp, .int .i64 r.pal.ht, .int .i64 r.pal.gram, .int .i64 r.classes, .slice h.ap r.pairs.length h.cp, .slice h.at' r.types.length h.ct, .int .i64 r.master, .slice h.ai r.items.length h.ci] → Blk wq v1.heap.size [.int .i64 (masterV r).id, .int .i64 (masterV r).wd, .int .i64 (masterV r).ht, .int .i64 (masterV r).dp, .int .i64 (masterV r).tare, .int .i64 (masterV r).gram, .int .i64 (masterV r).cost] → (wq.cell? ⟨g, p, none⟩ = some (.slice (some ⟨rv.g, 0, none⟩) rv.l.length rv.cap)) → S wq := fun wq ka kt p0 => by rw [hSdef]; exact ⟨RqC.of ka, (kt 0 (by simp)).1, (kt 1 (by simp)).1, (kt 2 (by simp)).1, (kt 3 (by simp)).1, (kt 4 (by simp)).1, (kt 5 (by simp)).1, (kt 6 (by simp)).1, p0⟩
          have hSd : ∀ wq, S wq → (fun w' => RqC w' w.heap.size r h ∧ w'.cell? ⟨v1.heap.size, 0, none⟩ = some (.int .i64 (masterV r).id) ∧ w'.cell? ⟨v1.heap.size, 1, none⟩ = some (.int .i64 (masterV r).wd) ∧ w'.cell? ⟨v1.heap.size, 2, none⟩ = some (.int .i64 (masterV r).ht) ∧ w'.cell? ⟨v1.heap.size, 3, none⟩ = some (.int .i64 (masterV r).dp) ∧ w'.cell? ⟨v1.heap.size, 4, none⟩ = some (.int .i64 (masterV r).tare) ∧ w'.cell? ⟨v1.heap.size, 5, none⟩ = some (.int .i64 (masterV r).gram) ∧ w'.cell? ⟨v1.heap.size, 6, none⟩ = some (.int .i64 (masterV r).cost) ∧ w'.cell? ⟨g, p, none⟩ = some (.slice (some ⟨rv.g, 0, none⟩) rv.l.length rv.cap)) wq := fun wq h => by rw [hSdef] at h; exact h
          clear hSdef
          have hHeld : S wr.drew := hSmk wr.drew Kau0.out Ktu0.out (HGC2.out _ QOu0.out)
          refine wp_region_to (S := S) (T := []) (by kernel_rfl) hHeld (fun _ => ?_)
          generalize wr.drew = u0 at *
          refine wpTo_ts (i := 0) (v := ?_) rfl (by kernel_rfl) hSd (by rfl) (fun w hSw => ?_) (by assumption) ?_
          rotate_left
          · ((try dsimp only [RqC] at hSw); go_simp <;> with_reducible rfl)
          refine wpTo_ts (i := 1) (v := ?_) rfl (by kernel_rfl) hSd (by rfl) (fun w hSw => ?_) (by assumption) ?_
          rotate_left
          · ((try dsimp only [RqC] at hSw); go_simp <;> with_reducible rfl)
          try simp only [Act.put, zz1, zz2, zz3, zz4, zz5, zz6]
          refine wpTo_ts (i := 2) (v := ?_) rfl (by kernel_rfl) hSd (by rfl) (fun w hSw => ?_) (by assumption) ?_
          rotate_left
          · ((try dsimp only [RqC] at hSw); go_simp <;> with_reducible rfl)
          refine wpTo_ts (i := 3) (v := ?_) rfl (by kernel_rfl) hSd (by rfl) (fun w hSw => ?_) (by assumption) ?_
          rotate_left
          · ((try dsimp only [RqC] at hSw); go_simp <;> with_reducible rfl)
          refine wpTo_ts (i := 4) (v := ?_) rfl (by kernel_rfl) hSd (by rfl) (fun w hSw => ?_) (by assumption) ?_
          rotate_left
          · ((try dsimp only [RqC] at hSw); go_simp <;> with_reducible rfl)
          try simp only [Act.put, zz1, zz2, zz3, zz4, zz5, zz6]
          refine wpTo_ts (i := 5) (v := ?_) rfl (by kernel_rfl) hSd (by rfl) (fun w hSw => ?_) (by assumption) ?_
          rotate_left
          · ((try dsimp only [RqC] at hSw); go_simp <;> with_reducible rfl)
          refine wpTo_ts (i := 6) (v := ?_) rfl (by kernel_rfl) hSd (by rfl) (fun w hSw => ?_) (by assumption) ?_
          rotate_left
          · ((try dsimp only [RqC] at hSw); go_simp <;> with_reducible rfl)
          refine wpTo_ts (i := 7) (v := ?_) rfl (by kernel_rfl) hSd (by rfl) (fun w hSw => ?_) (by assumption) ?_
          rotate_left
          · ((try dsimp only [RqC] at hSw); go_simp <;> with_reducible rfl)
          try simp only [Act.put, zz1, zz2, zz3, zz4, zz5, zz6]
          refine wpTo_ready (rs := [8]) (by kernel_rfl) (by simp) ?_
          refine AllTo.cons (o := _) rfl (fun K hK => ?_) ?_
          ·
           (try simp only [zz1, zz2, zz3])
           go_simp
           refine (l7Room_any r h (some ⟨gp, 0, none⟩) N cp (masterV r) rv.g 0 rv.l.length rv.cap rv.l x u0 (HR.out.mono (HWD.out.trans (Bu0.out.mono HWD.out.size))) (UND.out.mono Bu0.out) (HRR.out _ QOu0.out) (by omega)).mono ?_
           rintro e u1 ⟨rfl, hb⟩
           have Bu1 := hide (Bu0.out.trans (hb.mono Bu0.out.size))
           have Kau1 := hide (Blk.below hb Zau0 Kau0.out)
           have Zau1 := Nat.lt_of_lt_of_le Zau0 hb.size
           have Ktu1 := hide (Blk.below hb Ztu0 Ktu0.out)
           have Ztu1 := Nat.lt_of_lt_of_le Ztu0 hb.size
           have QOu1 : Hid (Own2 u1 wd.heap.size g cap rows) := QOu0.out.later hb
           clear hb
           clear Bu0 Kau0 Zau0 Ktu0 Ztu0 QOu0
           clear hHeld
           go_wp2_with fail
           have hHeld := hSmk u1 Kau1.out Ktu1.out (HGC2.out _ QOu1.out)
           refine hK.out _ _ (fun _ => hHeld) ?_
           clear hK K
           try simp only [Act.put, zz1, zz2, zz3, zz4, zz5, zz6]
           refine wpTo_done (by kernel_rfl) ?_ _
           refine NoPanic.normal ?_
           go_wp2_with fail
           go_meet
           case rel => exact ⟨rfl, unhide QOu1, unhide Bu1⟩
          exact AllTo.nil
        case rest =>
          clear Bwr Kawr Ktwr QOwr Zawr Ztwr
          obtain ⟨rfl, ho, hb⟩ := hcut
          have HOX := hide ho
          have HBX := hide hb
          have HLR : Hid (p < (rows.map RowV.l).length) := by rw [Hid, List.length_map]; exact hpr
          clear ho hb
          cases hroom : roomB (itemsR r) (masterV r) rv.l x
          case false =>
            have HS2 : Hid (ScanOk (roomB (itemsR r) (masterV r)) (rows.map RowV.l) x p v) := ScanOk.miss (by rw [unhide HROWL]; exact hroom) HSC.out
            clear hroom
            go_wp2
            go_roundw
            case rel => exact ⟨p, v, _, by omega, rfl, by go_num, rfl, unhide HS2, unhide HOX, unhide HBX⟩
            case measure => simp [intOf]
          case true =>
            have HS2 : Hid (ScanOk (roomB (itemsR r) (masterV r)) (rows.map RowV.l) x p (p : Int)) := ScanOk.hit HLR.out (by rw [unhide HROWL]; exact hroom)
            clear hroom
            go_wp2
            go_roundw
            case rel => exact ⟨p, (p : Int), _, by omega, rfl, by go_num, rfl, unhide HS2, unhide HOX, unhide HBX⟩
            case measure => simp [intOf]
      obtain rfl : i = 0 := by omega
      have hzn : ¬ (0 : Int) ≤ z := by omega
      have HOX := hide ho
      have HBX := hide hb
      obtain ⟨wx, hwx⟩ : ∃ w8 : World, w8 = wr := ⟨_, rfl⟩
      subst hwx
      have hsc2 := hsc
      clear ho hb hsc hi0
      rcases hsc2 with ⟨rfl, _⟩ | ⟨q, rfl, _, _, _, _⟩
      case inl =>
        have HPA : Hid (firstStep (roomB (itemsR r) (masterV r)) (rows.map RowV.l) x = rows.map RowV.l ++ [[x]]) := HSC.out.none
        have hsx : wd.heap.size ≤ wx.heap.size := HBX.out.size
        have O2 := hide (HOX.out.later ((Below.refl _ wx).alloc (Nat.le_refl _) (.cells #[.int .i64 x] 3)))
        have R2 : Hid (RowV.own (wx.alloc (.cells #[.int .i64 x] 3)) wd.heap.size ⟨wx.heap.size, 1, [x]⟩) := World.ownsRow_lit wx #[.int .i64 x] 1 (by omega) (by unfold maxLen; omega) rfl
        have O3 := hide (O2.out.later ((Below.refl _ (wx.alloc (.cells #[.int .i64 x] 3))).alloc (Nat.le_refl _) (.cells #[.slice (some ⟨wx.heap.size, 0, none⟩) 1 1] 29)))
        have R3 := hide (R2.out.later ((Below.refl _ (wx.alloc (.cells #[.int .i64 x] 3))).alloc (Nat.le_refl _) (.cells #[.slice (some ⟨wx.heap.size, 0, none⟩) 1 1] 29)))
        have O3L : Hid ((((wx.alloc (.cells #[.int .i64 x] 3)).alloc (.cells #[.slice (some ⟨wx.heap.size, 0, none⟩) 1 1] 29))).ownsRow wd.heap.size 29 1 (.slice (some ⟨g, 0, none⟩) m cap) m (rows.map RowV.val)) := by have := O3.out.out; rw [unhide HML] at this; exact this
        clear hm
        go_wp2_with (first
          | (at_builtin; refine wpList_append_lies _ rfl _ _ 89 rfl wd.heap.size 29 i0 (.slice none 0 0) 1 24 Tryz.underlying89 hi0 hz0 hz1 hz2 rfl (by omega) (.slice (some ⟨g, 0, none⟩) m cap) m (rows.map RowV.val) rfl O3L.out ⟨wx.heap.size + 1, 0, none⟩ 1 1 [.slice (some ⟨wx.heap.size, 0, none⟩) 1 1] rfl rfl (World.news_of_block (by have := heap_alloc_new (wx.alloc (.cells #[.int .i64 x] 3)) (.cells #[.slice (some ⟨wx.heap.size, 0, none⟩) 1 1] 29); simpa using this)) (by simp [Value.oneCell']) (by omega) (by unfold maxLen; omega) (by omega) (by simp; omega) (wx.heap.size + 2) (by simp) ?_; intro g3 cap3 w3 ho3 hg3 hat3 hlt3)
          | fail)
        have O4 := hide (O3.out.pushed (r := ⟨wx.heap.size, 1, [x]⟩) R3.out (fun i hi e => by have h := (HOX.out.rws.row i hi).lt.2; have e' : (rows.getD i default).g = wx.heap.size := e; omega) (by have h := (HOX.out.out.lt g rfl).2; show wx.heap.size ≠ g; omega) (by rw [unhide HML]; exact ho3) hg3 hat3 (by simp))
        have B4 : Hid (Below wd.heap.size wd w3) := ((HBX.out.alloc (by omega) _).alloc (by simp; omega) _).grown hg3 (by simp; omega) (fun e hk => by have := own_base HOX.out.out; simp [Value.ownBlock] at hk; omega)
        clear ho3 hg3 hat3 hlt3
        go_wp2
        go_roundw
        case rel => exact ⟨j + 1, g3, cap3, m + 1, rows ++ [⟨wx.heap.size, 1, [x]⟩], by omega, by go_num, by rw [List.length_append, unhide HML]; rfl, rfl, by rw [unhide HST, unhide HPA, List.map_append]; rfl, unhide O4, unhide B4⟩
        case measure => simp [intOf]; omega
      case inr =>
        obtain ⟨hq, hpa⟩ := HSC.out.some
        rw [List.length_map] at hq
        have hqm : q < m := by omega
        have hq0 : ¬ (q : Int) < 0 := by omega
        have HROWL := hide (map_getD_l rows q hq)
        rw [unhide HROWL] at hpa
        have hll : (rows.getD q default).l.length ≤ 1048580 := by
          have h1 := tot2_row (rows.map RowV.l) q (by rw [List.length_map]; exact hq)
          rw [unhide HROWL] at h1
          have := unhide HTT
          omega
        have O2 := hide (HOX.out.later ((Below.refl _ wx).alloc (Nat.le_refl _) (.cells #[.int .i64 x] 3)))
        have hcq := (HOX.out.cell q hq).1
        have hrq := O2.out.rws.row q hq
        have HGREW := hide (fun (W w3 : World) (r' : RowV) (H : Nat) (h : Own2 W wd.heap.size g cap rows) => h.grew (w3 := w3) (r := r') (H := H) hq)
        have HGB : Hid (wd.heap.size ≤ g) := (HOX.out.out.lt g rfl).1
        have hsx : wd.heap.size ≤ wx.heap.size := HBX.out.size
        generalize rows.getD q default = rv at *
        have HPA := hide hpa
        have HRO : Hid ((wx.alloc (.cells #[.int .i64 x] 3)).ownsRow wd.heap.size 3 1 (.slice (some ⟨rv.g, 0, none⟩) rv.l.length rv.cap) rv.l.length (rv.l.map (Value.int .i64))) := hrq
        have HRB : Hid (wd.heap.size ≤ rv.g) := (World.ownsRow.lt HRO.out rv.g rfl).1
        unfold RowV.val at hcq
        clear hrq hpa hq hm
        go_wp2_with (first
          | (at_builtin; refine wpList_append_lies _ rfl _ _ 29 rfl wd.heap.size 3 j0 (.int .i64 0) 1 8 Tryz.underlying29 hj0 hy0 hy1 hy2 rfl (by omega) (.slice (some ⟨rv.g, 0, none⟩) rv.l.length rv.cap) rv.l.length (rv.l.map (Value.int .i64)) rfl HRO.out ⟨wx.heap.size, 0, none⟩ 1 1 [.int .i64 x] rfl rfl (World.news_of_block (heap_alloc_new _ _)) (by simp [Value.oneCell']) (by omega) (by unfold maxLen; omega) (by omega) (by simp; omega) (wx.heap.size + 1) (by simp) ?_; intro g3 cap3 w3 ho hg hat hlt; have RN : RowV.own w3 wd.heap.size ⟨g3, cap3, rv.l ++ [x]⟩ := (by unfold RowV.own; rw [List.length_append, List.map_append]; exact ho); obtain ⟨c4, f4, hO4⟩ := HGREW.out _ w3 ⟨g3, cap3, rv.l ++ [x]⟩ (wx.heap.size + 1) O2.out RN hg hat (by simp); have hv4 : RowV.val ⟨g3, cap3, rv.l ++ [x]⟩ = .slice (some ⟨g3, 0, none⟩) (rv.l.length + 1) cap3 := (by unfold RowV.val; rw [List.length_append]; rfl); rw [hv4] at hO4; unfold RowV.val at c4; have HO4 := hide hO4; have HB4 := hide (((HBX.out.alloc hsx (.cells #[.int .i64 x] 3)).grown hg (by simp; omega) (fun e he => by simp [Value.ownBlock] at he; have := unhide HRB; omega)).setCell (p := ⟨g, q, none⟩) HGB.out (.slice (some ⟨g3, 0, none⟩) (rv.l.length + 1) cap3)); clear ho hg hat hlt hO4 RN hv4)
          | fail)
        go_wp2
        go_roundw
        case rel => exact ⟨j + 1, g, cap, m, rows.set q ⟨g3, cap3, rv.l ++ [x]⟩, by omega, by go_num, by rw [List.length_set]; exact unhide HML, rfl, by rw [unhide HST, unhide HPA, List.map_set], unhide HO4, unhide HB4⟩
        case measure => simp [intOf]; omega
end Go.Proofs.YtphdeojiehigpaaGreatDoor

/- FirstFit of the model. -/
namespace Go.Proofs.YtphdeojiehigpaaGreatDoor
open Go Go.RowKit
set_option linter.unusedVariables false
set_option linter.unusedSimpArgs false

set_option maxRecDepth 100000 in
set_option maxHeartbeats 4000000 in
theorem specFirstFit_any (r : ReqV) (h : ReqH) (a : Option Addr) (n c : Nat) (us : List Int) (w : World) (hr : RdReq w r h) (hs : r.small) (hu : Rd w a n us) (hn : n ≤ 1048576) :
    Calls Tryz.prog 98 #[reqVal r h, .slice a n c] w fun e w' => ∃ g cap rows, e = .returned (.slice (some ⟨g, 0, none⟩) (firstR r us).length cap) ∧ Own2 w' w.heap.size g cap rows ∧ rows.map RowV.l = firstR r us ∧ Below w.heap.size w w' := by
  have HR := hide hr
  have HU := hide hu
  have HKL : Hid ((knownL (itemsR r) us).length ≤ 1048576) := by have := knownL_len (itemsR r) us; have := hu.1; rw [Hid]; omega
  clear hr hu
  unfold reqVal
  go_enter Tryz.func98, Tryz.ntmps98
  go_wp2_with fail
  generalize hW : (w.alloc (.cells #[.int .i64 r.way, .int .i64 r.pal.wd, .int .i64 r.pal.dp, .int .i64 r.pal.ht, .int .i64 r.pal.gram, .int .i64 r.classes, .slice h.ap r.pairs.length h.cp, .slice h.at' r.types.length h.ct, .int .i64 r.master, .slice h.ai r.items.length h.ci] 40)) = W at *
  obtain ⟨BW, KaW, ZaW⟩ := en1 hW
  have Ga : w.heap.size ≤ w.heap.size := by omega
  clear hW
  refine (specClass_any r h _ (HR.out.mono BW.out) hs).mono ?_
  rintro e v1 ⟨rfl, hb⟩
  have Bv1 := hide (BW.out.trans (hb.mono BW.out.size))
  have Kav1 := hide (Blk.below hb ZaW KaW.out)
  have Zav1 := Nat.lt_of_lt_of_le ZaW hb.size
  clear hb
  clear BW KaW ZaW
  by_cases hz : classI r = 0
  case neg =>
    have hne : (classI r != 0) = true := by simp [hz]
    have HE : Hid (firstR r us = []) := firstR_not hz us
    have HO := hide (own2_new v1 Bv1.out.size)
    have HB := hide (Bv1.out.alloc Bv1.out.size (.cells #[] 29))
    clear hz
    go_wp2
    go_ret
    rw [unhide HE]
    exact ⟨_, 0, [], rfl, unhide HO, rfl, unhide HB⟩
  have HZ := hide hz
  rw [hz]
  clear hz
  obtain ⟨ca0, ca1, ca2, ca3, ca4, ca5, ca6, ca7, ca8, ca9⟩ := Blk.cs10 Kav1.out
  go_upto_region 3 with fail
  clear ca0 ca1 ca2 ca3 ca4 ca5 ca6 ca7 ca8 ca9
  go_cut [4] (fun v wc => ∃ go oc rows, v = .slice (some ⟨go, 0, none⟩) rows.length oc ∧ Own2 wc w.heap.size go oc rows ∧ rows.map RowV.l = firstR r us ∧ Below w.heap.size w wc)
  case first =>
    refine wp_region_noPanic ?_
    have Bu0 : Hid (Below w.heap.size w v1.drew) := Bv1.out.drew
    have Kau0 : Hid (Blk v1.drew w.heap.size [.int .i64 r.way, .int .i64 r.pal.wd, .int .i64 r.pal.dp, .int .i64 r.pal.ht, .int .i64 r.pal.gram, .int .i64 r.classes, .slice h.ap r.pairs.length h.cp, .slice h.at' r.types.length h.ct, .int .i64 r.master, .slice h.ai r.items.length h.ci]) := unhide Kav1
    have Zau0 : w.heap.size < v1.drew.heap.size := Zav1
    obtain ⟨S, hSdef⟩ : ∃ S : World → Prop, S = (fun w' => RqC w' w.heap.size r h) := ⟨_, rfl⟩
    have hSmk : ∀ wq, Blk wq w.heap.size [.int .i64 r.way, .int .i64 r.pal.wd, .int .i64 r.pal.dp, .int .i64 r.pal.ht, .int .i64 r.pal.gram, .int .i64 r.classes, .slice h.ap r.pairs.length h.cp, .slice h.at' r.types.length h.ct, .int .i64 r.master, .slice h.ai r.items.length h.ci] → S wq := fun wq ka => by rw [hSdef]; exact RqC.of ka
    have hSd : ∀ wq, S wq → (fun w' => RqC w' w.heap.size r h) wq := fun wq h => by rw [hSdef] at h; exact h
    clear hSdef
    have hHeld : S v1.drew := hSmk v1.drew Kau0.out
    refine wp_region_to (S := S) (T := []) (by kernel_rfl) hHeld (fun _ => ?_)
    generalize v1.drew = u0 at *
    refine wpTo_ts (i := 0) (v := ?_) rfl (by kernel_rfl) hSd (by rfl) (fun w hSw => ?_) (by assumption) ?_
    rotate_left
    · ((try dsimp only [RqC] at hSw); go_simp <;> with_reducible rfl)
    try simp only [Act.put, zz1, zz2, zz3, zz4, zz5, zz6]
    refine wpTo_ts (i := 1) (v := ?_) rfl (by kernel_rfl) hSd (by rfl) (fun w hSw => ?_) (by assumption) ?_
    rotate_left
    · ((try dsimp only [RqC] at hSw); go_simp <;> with_reducible rfl)
    refine wpTo_ts (i := 3) (v := ?_) rfl (by kernel_rfl) hSd (by rfl) (fun w hSw => ?_) (by assumption) ?_
    rotate_left
    · ((try dsimp only [RqC] at hSw); go_simp <;> with_reducible rfl)
    try simp only [Act.put, zz1, zz2, zz3, zz4, zz5, zz6]
    refine wpTo_ready (rs := [2]) (by kernel_rfl) (by simp) ?_
    refine AllTo.cons (o := _) rfl (fun K hK => ?_) ?_
    ·
     (try simp only [zz1, zz2, zz3])
     go_simp
     refine (l6Units_zero r h u0 (HR.out.mono Bu0.out) HZ.out).mono ?_
     rintro e u2 ⟨ug, uc, rfl, hgo, hb⟩
     have Bu2 := hide (Bu0.out.trans (hb.mono Bu0.out.size))
     have Kau2 := hide (Blk.below hb Zau0 Kau0.out)
     have Zau2 := Nat.lt_of_lt_of_le Zau0 hb.size
     clear hgo
     clear hb
     clear Bu0 Kau0 Zau0
     clear hHeld
     go_wp2_with fail
     have hHeld := hSmk u2 Kau2.out
     refine hK.out _ _ (fun _ => hHeld) ?_
     clear hK K
     try simp only [Act.put, zz1, zz2, zz3, zz4, zz5, zz6]
     refine wpTo_ready (rs := [4]) (by kernel_rfl) (by simp) ?_
     refine AllTo.cons (o := _) rfl (fun K hK => ?_) ?_
     ·
      (try simp only [zz1, zz2, zz3])
      go_simp
      refine (l7Known_any (itemsR r) (some ⟨ug, 0, none⟩) (unitsR r).length uc a n c us u2 rfl (by have := unitsR_len r; omega) (HU.out.mono Bu2.out) (by omega)).mono ?_
      rintro e u3 ⟨tg, tc, rfl, hto, hb⟩
      have Bu3 := hide (Bu2.out.trans (hb.mono Bu2.out.size))
      have Kau3 := hide (Blk.below hb Zau2 Kau2.out)
      have Zau3 := Nat.lt_of_lt_of_le Zau2 hb.size
      have QTu3 : Hid (Rd u3 (some ⟨tg, 0, none⟩) (knownL (itemsR r) us).length (knownL (itemsR r) us)) := Rd.of_owns hto
      have HTC := hide (own_cap hto).1
      clear hto
      clear hb
      clear Bu2 Kau2 Zau2
      clear hHeld
      go_wp2_with fail
      have hHeld := hSmk u3 Kau3.out
      refine hK.out _ _ (fun _ => hHeld) ?_
      clear hK K
      try simp only [Act.put, zz1, zz2, zz3, zz4, zz5, zz6]
      refine wpTo_ready (rs := [5]) (by kernel_rfl) (by simp) ?_
      refine AllTo.cons (o := _) rfl (fun K hK => ?_) ?_
      ·
       (try simp only [zz1, zz2, zz3])
       go_simp
       refine (l7First_any r h (some ⟨tg, 0, none⟩) (knownL (itemsR r) us).length tc (knownL (itemsR r) us) u3 (HR.out.mono Bu3.out) hs HZ.out QTu3.out HTC.out HKL.out).mono ?_
       rintro e u4 ⟨go, oc, rows, rfl, how, hrw, hb⟩
       have Bu4 := hide (Bu3.out.trans (hb.mono Bu3.out.size))
       have Kau4 := hide (Blk.below hb Zau3 Kau3.out)
       have Zau4 := Nat.lt_of_lt_of_le Zau3 hb.size
       have HO := hide (how.low Bu3.out.size)
       have HRW : Hid (rows.map RowV.l = firstR r us) := hrw
       clear how hrw
       clear hb
       clear Bu3 Kau3 Zau3
       clear hHeld
       go_wp2_with fail
       have hHeld := hSmk u4 Kau4.out
       refine hK.out _ _ (fun _ => hHeld) ?_
       clear hK K
       try simp only [Act.put, zz1, zz2, zz3, zz4, zz5, zz6]
       refine wpTo_ts (i := 6) (v := ?_) rfl (by kernel_rfl) hSd (by rfl) (fun w hSw => ?_) (by assumption) ?_
       rotate_left
       · ((try dsimp only [RqC] at hSw); go_simp <;> with_reducible rfl)
       try simp only [Act.put, zz1, zz2, zz3, zz4, zz5, zz6]
       refine wpTo_done (by kernel_rfl) ?_ _
       refine NoPanic.normal ?_
       go_wp2_with fail
       go_meet
       case rel => exact ⟨go, oc, rows, rfl, unhide HO, unhide HRW, unhide Bu4⟩
      exact AllTo.nil
     exact AllTo.nil
    exact AllTo.nil
  case rest =>
    obtain ⟨go, oc, rows, rfl, ho, hx, hb⟩ := hcut
    have HO := hide ho
    have HX := hide hx
    have HB := hide hb
    have HL : Hid (rows.length = (firstR r us).length) := by rw [Hid, ← hx, List.length_map]
    clear ho hx hb
    go_wp2
    go_ret
    exact ⟨go, oc, rows, by rw [← unhide HL]; rfl, unhide HO, unhide HX, unhide HB⟩
end Go.Proofs.YtphdeojiehigpaaGreatDoor

/- By way: the model. -/
namespace Go.Proofs.YtphdeojiehigpaaGreatDoor
open Go Go.RowKit
set_option linter.unusedVariables false
set_option linter.unusedSimpArgs false

set_option maxRecDepth 100000 in
set_option maxHeartbeats 4000000 in
theorem specPackWay_any (r : ReqV) (h : ReqH) (a : Option Addr) (n c : Nat) (us : List Int) (w : World) (hr : RdReq w r h) (hs : r.small) (hu : Rd w a n us) (hn : n ≤ 1048576) :
    Calls Tryz.prog 57 #[reqVal r h, .slice a n c] w fun e w' => ∃ g cap rows, e = .returned (.slice (some ⟨g, 0, none⟩) (packR r us).length cap) ∧ Own2 w' w.heap.size g cap rows ∧ rows.map RowV.l = packR r us ∧ Below w.heap.size w w' := by
  have HR := hide hr
  have HU := hide hu
  clear hr hu
  by_cases h1 : r.way = 1
  case pos =>
    have HE : Hid (packR r us = nextR r us) := if_pos h1
    have hd : (r.way == 1) = true := by simp [h1]
    clear h1
    unfold reqVal
    go_enter Tryz.func57, Tryz.ntmps57
    go_wp2_with fail
    generalize hW : (w.alloc (.cells #[.int .i64 r.way, .int .i64 r.pal.wd, .int .i64 r.pal.dp, .int .i64 r.pal.ht, .int .i64 r.pal.gram, .int .i64 r.classes, .slice h.ap r.pairs.length h.cp, .slice h.at' r.types.length h.ct, .int .i64 r.master, .slice h.ai r.items.length h.ci] 40)) = W at *
    obtain ⟨BW, KaW, ZaW⟩ := en1 hW
    have Ga : w.heap.size ≤ w.heap.size := by omega
    clear hW
    refine (specNextFit_any r h a n c us _ (HR.out.mono BW.out) hs (HU.out.mono BW.out) hn).mono ?_
    rintro e w2 ⟨g, cap, rows, rfl, ho, hx, hb⟩
    have HO := hide (ho.low BW.out.size)
    have HX := hide hx
    have HB := hide (BW.out.trans (hb.mono BW.out.size))
    clear ho hx hb
    go_wp2
    go_ret
    rw [unhide HE]
    exact ⟨g, cap, rows, rfl, unhide HO, unhide HX, unhide HB⟩
  case neg =>
    have HE : Hid (packR r us = firstR r us) := if_neg h1
    have hd : (r.way == 1) = false := by simp [h1]
    clear h1
    unfold reqVal
    go_enter Tryz.func57, Tryz.ntmps57
    go_wp2_with fail
    generalize hW : (w.alloc (.cells #[.int .i64 r.way, .int .i64 r.pal.wd, .int .i64 r.pal.dp, .int .i64 r.pal.ht, .int .i64 r.pal.gram, .int .i64 r.classes, .slice h.ap r.pairs.length h.cp, .slice h.at' r.types.length h.ct, .int .i64 r.master, .slice h.ai r.items.length h.ci] 40)) = W at *
    obtain ⟨BW, KaW, ZaW⟩ := en1 hW
    have Ga : w.heap.size ≤ w.heap.size := by omega
    clear hW
    refine (specFirstFit_any r h a n c us _ (HR.out.mono BW.out) hs (HU.out.mono BW.out) hn).mono ?_
    rintro e w2 ⟨g, cap, rows, rfl, ho, hx, hb⟩
    have HO := hide (ho.low BW.out.size)
    have HX := hide hx
    have HB := hide (BW.out.trans (hb.mono BW.out.size))
    clear ho hx hb
    go_wp2
    go_ret
    rw [unhide HE]
    exact ⟨g, cap, rows, rfl, unhide HO, unhide HX, unhide HB⟩
end Go.Proofs.YtphdeojiehigpaaGreatDoor
