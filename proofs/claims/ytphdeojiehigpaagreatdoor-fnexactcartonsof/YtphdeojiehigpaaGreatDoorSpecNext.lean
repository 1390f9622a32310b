/- Next fit of the model. -/
import Derived.Test.YtphdeojiehigpaaGreatDoorPackSpec
import Derived.Test.YtphdeojiehigpaaGreatDoorNextImpl
import Derived.Test.YtphdeojiehigpaaGreatDoorPkE
import Derived.Deep.DeepMust
import Derived.Deep.DeepCutAuto
import Derived.Deep.RegionHeld3
namespace Go.Proofs.YtphdeojiehigpaaGreatDoor
open Go Go.RowKit
set_option linter.unusedVariables false
set_option linter.unusedSimpArgs false

theorem own2_new (w : World) {B : Nat} (hB : B ≤ w.heap.size) : Own2 (w.alloc (.cells #[] 29)) B w.heap.size 0 [] := ⟨World.ownsRow_lit w #[] 0 hB (Nat.zero_le _) rfl, Rws.nil⟩
set_option maxHeartbeats 2000000 in
theorem l7Known_any (xs : List ItemV) (aa : Option Addr) (N ca : Nat) (a : Option Addr) (n c : Nat) (us : List Int) (w : World) (hN : N = (unitsL xs).length) (hN12 : N ≤ 1000) (hu : Rd w a n us) (hn : n ≤ 1048600) :
    Calls Tryz.prog 135 #[.slice aa N ca, .slice a n c] w fun e w' => ∃ g cap, e = .returned (.slice (some ⟨g, 0, none⟩) (knownL xs us).length cap) ∧ w'.ownsRow w.heap.size 3 1 (.slice (some ⟨g, 0, none⟩) (knownL xs us).length cap) (knownL xs us).length (ci (knownL xs us)) ∧ Below w.heap.size w w' := by
  obtain ⟨i0, hi, hz0, hz1, hz2⟩ := info_parts Tryz.infoInts
  have HU := hide hu
  have HN := hide hN
  clear hu hN
  go_enter Tryz.func135, Tryz.ntmps135
  go_wp2
  have O1 := hide (own_lit0 (e := 3) (size := 1) w (Nat.le_refl _))
  have B1 : Hid (Below w.heap.size w (w.alloc (.cells #[] 3))) := (Below.refl _ _).alloc (Nat.le_refl _) _
  generalize (w.alloc (.cells #[] 3)) = w1 at *
  go_loopw [5, 6] (fun o i wr => ∃ (k g cap m : Nat), k ≤ n ∧ i = .int .i64 k ∧ m = (knownTo xs us k).length ∧ o = .slice (some ⟨g, 0, none⟩) m cap ∧ wr.ownsRow w.heap.size 3 1 (.slice (some ⟨g, 0, none⟩) m cap) m (ci (knownTo xs us k)) ∧ Below w.heap.size w wr) (fun _ i _ => n - (intOf i).toNat)
  case atStart => exact ⟨0, w.heap.size, 0, 0, Nat.zero_le _, rfl, rfl, rfl, unhide O1, unhide B1⟩
  case round =>
    clear O1 B1
    obtain ⟨k, g, cap, m, hk, rfl, hm, rfl, hown, hbel⟩ := hrel
    have HM := hide hm
    have HO := hide hown
    have HB := hide hbel
    by_cases hlk : k < n
    case neg =>
      have HE : Hid (knownTo xs us k = knownL xs us) := knownTo_all (by rw [(unhide HU).1]; omega)
      clear hm hown hbel
      go_wp2
      go_ret
      have e := unhide HE
      have hm := unhide HM
      rw [e] at hm
      subst hm
      exact ⟨g, cap, rfl, by have := unhide HO; rwa [e] at this, unhide HB⟩
    obtain ⟨b, off, hua, hc⟩ := ((unhide HU).mono hbel).2 k hlk
    have hku : k < us.length := by rw [(unhide HU).1]; exact hlk
    have HHIT := hide (knownTo_hit (xs := xs) hku)
    have HMIS := hide (knownTo_miss (xs := xs) hku)
    have hmk : m ≤ 1048600 := by have := (knownTo_len xs us k).1; omega
    generalize us.getD k 0 = x at hc HHIT HMIS
    subst hua
    have hgl := (hown.lt g rfl)
    have hz : w.heap.size ≤ wr.heap.size := hbel.size
    clear hm hown hbel
    go_wp2_with fail
    refine (l1In_any _ _ _ _).mono ?_
    rintro e w2 ⟨rfl, hw⟩
    subst w2
    have HKN : Hid (knownB xs x = inB x 0 ((N : Int) - 1)) := by rw [Hid, unhide HN]; rfl
    cases hkn : inB x 0 ((N : Int) - 1)
    case false =>
      have HG2 := hide ((unhide HMIS) (by rw [unhide HKN]; exact hkn))
      clear hkn
      go_wp2_with fail
      go_roundw
      case rel => exact ⟨k + 1, g, cap, m, by omega, by go_num, by rw [unhide HG2]; exact unhide HM, rfl, by rw [unhide HG2]; exact unhide HO, unhide HB⟩
      case measure => simp [intOf]; omega
    case true =>
      have HG2 := hide ((unhide HHIT) (by rw [unhide HKN]; exact hkn))
      clear hkn
      have O3 := hide ((unhide HO).alloc (.cells #[.int .i64 x] 3))
      go_wp2_with (first
        | (at_builtin; refine wpList_append_lies _ rfl _ _ 29 rfl w.heap.size 3 i0 (.int .i64 0) 1 8 Tryz.underlying29 hi hz0 hz1 hz2 rfl (by omega) (.slice (some ⟨g, 0, none⟩) m cap) m (ci (knownTo xs us k)) rfl (unhide O3) ⟨wr.heap.size, 0, none⟩ 1 1 [.int .i64 x] rfl rfl (World.news_of_block (heap_alloc_new _ _)) (by simp [Value.oneCell']) (by omega) (by unfold maxLen; omega) (by omega) (by simp; omega) (wr.heap.size + 1) (by simp) ?_; intro g3 cap3 w3 ho3 hg3 hat3 hlt3)
        | fail)
      have B4 : Hid (Below w.heap.size w w3) := ((unhide HB).alloc hz (.cells #[.int .i64 x] 3)).grown hg3 (by simp; omega) (fun q hq => by simp [Value.ownBlock] at hq; omega)
      have O4 : Hid (w3.ownsRow w.heap.size 3 1 (.slice (some ⟨g3, 0, none⟩) (m + 1) cap3) (m + 1) (ci (knownTo xs us k ++ [x]))) := by rw [ci_snoc]; exact ho3
      clear ho3 hg3 hat3 hlt3
      go_roundw
      case rel => exact ⟨k + 1, g3, cap3, m + 1, by omega, by go_num, by rw [unhide HG2, List.length_append, ← unhide HM]; rfl, rfl, by rw [unhide HG2]; exact unhide O4, unhide B4⟩
      case measure => simp [intOf]; omega

open List in
set_option maxRecDepth 100000 in
set_option maxHeartbeats 4000000 in
theorem l7Next_any (r : ReqV) (h : ReqH) (a : Option Addr) (n c : Nat) (us : List Int) (w : World) (hr : RdReq w r h) (hs : r.small) (hz : classI r = 0) (hu : Rd w a n us) (hn : n ≤ 1048576) :
    Calls Tryz.prog 134 #[reqVal r h, .slice a n c] w fun e w' => ∃ g cap rows, e = .returned (.slice (some ⟨g, 0, none⟩) rows.length cap) ∧ Own2 w' w.heap.size g cap rows ∧ rows.map RowV.l = nextTo (roomB (itemsR r) (masterV r)) us n ∧ Below w.heap.size w w' := by
  obtain ⟨i0, hi0, hz0, hz1, hz2⟩ := info_parts Tryz.infoIntSs
  obtain ⟨j0, hj0, hy0, hy1, hy2⟩ := info_parts Tryz.infoInts
  have htl : r.types.length ≤ 1048600 := by unfold ReqV.small at hs; omega
  have HR := hide hr
  have HU := hide hu
  clear hr hu
  unfold reqVal
  go_enter Tryz.func134, Tryz.ntmps134
  go_wp2_with fail
  have BW : Hid (Below w.heap.size w (w.alloc (.cells #[.int .i64 r.way, .int .i64 r.pal.wd, .int .i64 r.pal.dp, .int .i64 r.pal.ht, .int .i64 r.pal.gram, .int .i64 r.classes, .slice h.ap r.pairs.length h.cp, .slice h.at' r.types.length h.ct, .int .i64 r.master, .slice h.ai r.items.length h.ci] 40))) := ((Below.refl _ _).alloc (by simp) _)
  have KaW : Hid (Blk (w.alloc (.cells #[.int .i64 r.way, .int .i64 r.pal.wd, .int .i64 r.pal.dp, .int .i64 r.pal.ht, .int .i64 r.pal.gram, .int .i64 r.classes, .slice h.ap r.pairs.length h.cp, .slice h.at' r.types.length h.ct, .int .i64 r.master, .slice h.ai r.items.length h.ci] 40)) w.heap.size [.int .i64 r.way, .int .i64 r.pal.wd, .int .i64 r.pal.dp, .int .i64 r.pal.ht, .int .i64 r.pal.gram, .int .i64 r.classes, .slice h.ap r.pairs.length h.cp, .slice h.at' r.types.length h.ct, .int .i64 r.master, .slice h.ai r.items.length h.ci]) := (Blk.allocAt (w := w) [.int .i64 r.way, .int .i64 r.pal.wd, .int .i64 r.pal.dp, .int .i64 r.pal.ht, .int .i64 r.pal.gram, .int .i64 r.classes, .slice h.ap r.pairs.length h.cp, .slice h.at' r.types.length h.ct, .int .i64 r.master, .slice h.ai r.items.length h.ci] (by simp))
  have ZaW : w.heap.size < (w.alloc (.cells #[.int .i64 r.way, .int .i64 r.pal.wd, .int .i64 r.pal.dp, .int .i64 r.pal.ht, .int .i64 r.pal.gram, .int .i64 r.classes, .slice h.ap r.pairs.length h.cp, .slice h.at' r.types.length h.ct, .int .i64 r.master, .slice h.ai r.items.length h.ci] 40)).heap.size := by simp
  have Ga : w.heap.size ≤ w.heap.size := by omega
  generalize (w.alloc (.cells #[.int .i64 r.way, .int .i64 r.pal.wd, .int .i64 r.pal.dp, .int .i64 r.pal.ht, .int .i64 r.pal.gram, .int .i64 r.classes, .slice h.ap r.pairs.length h.cp, .slice h.at' r.types.length h.ct, .int .i64 r.master, .slice h.ai r.items.length h.ci] 40)) = W at *
  refine (specMasterOf_any r h _ ((unhide HR).mono (unhide BW)) htl).mono ?_
  rintro e v1 ⟨rfl, hb⟩
  have Bv1 := hide ((unhide BW).trans (hb.mono (unhide BW).size))
  have Kav1 := hide (Blk.below hb ZaW (unhide KaW))
  have Zav1 := Nat.lt_of_lt_of_le ZaW hb.size
  clear hb
  clear BW KaW ZaW
  obtain ⟨ca0, ca1, ca2, ca3, ca4, ca5, ca6, ca7, ca8, ca9⟩ := Blk.cs10 (unhide Kav1)
  go_wp2_with fail
  clear ca0 ca1 ca2 ca3 ca4 ca5 ca6 ca7 ca8 ca9
  have Bv2 : Hid (Below w.heap.size w (v1.alloc (.cells #[.int .i64 (masterV r).id, .int .i64 (masterV r).wd, .int .i64 (masterV r).ht, .int .i64 (masterV r).dp, .int .i64 (masterV r).tare, .int .i64 (masterV r).gram, .int .i64 (masterV r).cost] 55))) := (unhide Bv1).alloc (unhide Bv1).size _
  have Ktv2 : Hid (Blk (v1.alloc (.cells #[.int .i64 (masterV r).id, .int .i64 (masterV r).wd, .int .i64 (masterV r).ht, .int .i64 (masterV r).dp, .int .i64 (masterV r).tare, .int .i64 (masterV r).gram, .int .i64 (masterV r).cost] 55)) v1.heap.size [.int .i64 (masterV r).id, .int .i64 (masterV r).wd, .int .i64 (masterV r).ht, .int .i64 (masterV r).dp, .int .i64 (masterV r).tare, .int .i64 (masterV r).gram, .int .i64 (masterV r).cost]) := Blk.allocAt [.int .i64 (masterV r).id, .int .i64 (masterV r).wd, .int .i64 (masterV r).ht, .int .i64 (masterV r).dp, .int .i64 (masterV r).tare, .int .i64 (masterV r).gram, .int .i64 (masterV r).cost] rfl
  have Ztv2 : v1.heap.size < (v1.alloc (.cells #[.int .i64 (masterV r).id, .int .i64 (masterV r).wd, .int .i64 (masterV r).ht, .int .i64 (masterV r).dp, .int .i64 (masterV r).tare, .int .i64 (masterV r).gram, .int .i64 (masterV r).cost] 55)).heap.size := by simp
  have Gt : w.heap.size ≤ v1.heap.size := (unhide Bv1).size
  have Kav2 : Hid (Blk (v1.alloc (.cells #[.int .i64 (masterV r).id, .int .i64 (masterV r).wd, .int .i64 (masterV r).ht, .int .i64 (masterV r).dp, .int .i64 (masterV r).tare, .int .i64 (masterV r).gram, .int .i64 (masterV r).cost] 55)) w.heap.size [.int .i64 r.way, .int .i64 r.pal.wd, .int .i64 r.pal.dp, .int .i64 r.pal.ht, .int .i64 r.pal.gram, .int .i64 r.classes, .slice h.ap r.pairs.length h.cp, .slice h.at' r.types.length h.ct, .int .i64 r.master, .slice h.ai r.items.length h.ci]) := (unhide Kav1).allocOld Zav1 _
  have Zav2 : w.heap.size < (v1.alloc (.cells #[.int .i64 (masterV r).id, .int .i64 (masterV r).wd, .int .i64 (masterV r).ht, .int .i64 (masterV r).dp, .int .i64 (masterV r).tare, .int .i64 (masterV r).gram, .int .i64 (masterV r).cost] 55)).heap.size := by simp <;> omega
  have Nqat : w.heap.size ≠ v1.heap.size := Nat.ne_of_lt Zav1
  have Nqta : v1.heap.size ≠ w.heap.size := Ne.symm Nqat
  clear Bv1 Kav1 Zav1
  generalize (v1.alloc (.cells #[.int .i64 (masterV r).id, .int .i64 (masterV r).wd, .int .i64 (masterV r).ht, .int .i64 (masterV r).dp, .int .i64 (masterV r).tare, .int .i64 (masterV r).gram, .int .i64 (masterV r).cost] 55)) = v2 at *
  obtain ⟨ca0, ca1, ca2, ca3, ca4, ca5, ca6, ca7, ca8, ca9⟩ := Blk.cs10 (unhide Kav2)
  go_wp2_with fail
  refine (l6Units_zero r h _ ((unhide HR).mono (unhide Bv2)) hz).mono ?_
  rintro e v3 ⟨gp, cp, rfl, hgo, hb⟩
  have Bv3 := hide ((unhide Bv2).trans (hb.mono (unhide Bv2).size))
  have Kav3 := hide (Blk.below hb Zav2 (unhide Kav2))
  have Zav3 := Nat.lt_of_lt_of_le Zav2 hb.size
  have Ktv3 := hide (Blk.below hb Ztv2 (unhide Ktv2))
  have Ztv3 := Nat.lt_of_lt_of_le Ztv2 hb.size
  clear hb
  clear Bv2 Kav2 Zav2 Ktv2 Ztv2
  clear ca0 ca1 ca2 ca3 ca4 ca5 ca6 ca7 ca8 ca9
  have UN := hide (Rd.of_owns hgo)
  have hN12 := unitsR_len r
  clear hgo
  generalize hN : (unitsR r).length = N at *
  clear hN
  obtain ⟨wb, hwb⟩ : ∃ wb : World, wb = v3 := ⟨_, rfl⟩
  subst hwb
  have HWB := Bv3
  have HKA := Kav3
  have HKT := Ktv3
  have HO := hide (own2_new wb (Nat.le_refl _))
  have HB0 : Hid (Below wb.heap.size wb (wb.alloc (.cells #[] 29))) := (Below.refl _ _).alloc (Nat.le_refl _) _
  go_wp2
  generalize (wb.alloc (.cells #[] 29)) = w0 at *
  go_loopw [8, 9] (fun o i wr => ∃ (k g cap m : Nat) (rows : List RowV), k ≤ n ∧ i = .int .i64 k ∧ rows.length = m ∧ o = .slice (some ⟨g, 0, none⟩) m cap ∧ rows.map RowV.l = nextTo (roomB (itemsR r) (masterV r)) us k ∧ Own2 wr wb.heap.size g cap rows ∧ Below wb.heap.size wb wr) (fun _ i _ => n - (intOf i).toNat)
  case atStart => exact ⟨0, wb.heap.size, 0, 0, [], Nat.zero_le _, rfl, rfl, rfl, rfl, unhide HO, unhide HB0⟩
  case round =>
    clear HO HB0
    obtain ⟨k, g, cap, m, rows, hk, rfl, hm, rfl, hgr, ho, hb⟩ := hrel
    have HM := hide hm
    have HG := hide hgr
    have QOwr := hide ho
    have Bwr := hide hb
    have HBW := hide ((unhide HWB).trans (hb.mono (unhide HWB).size))
    clear hgr ho
    by_cases hlk : k < n
    case neg =>
      obtain rfl : k = n := by omega
      clear hb hm
      go_wp2
      go_ret
      exact ⟨g, cap, rows, by rw [unhide HM]; rfl, (unhide QOwr).low (unhide HWB).size, unhide HG, unhide HBW⟩
    have Kawr := hide (Blk.below hb Zav3 (unhide HKA))
    have Ktwr := hide (Blk.below hb Ztv3 (unhide HKT))
    have Zawr : w.heap.size < wr.heap.size := Nat.lt_of_lt_of_le Zav3 hb.size
    have Ztwr : v1.heap.size < wr.heap.size := Nat.lt_of_lt_of_le Ztv3 hb.size
    obtain ⟨b, off, hua, hc⟩ := ((unhide HU).mono (unhide HBW)).2 k hlk
    have hcw : wb.cell? ⟨b, off + k, none⟩ = some (.int .i64 (us.getD k 0)) := by
      obtain ⟨b', off', e, hc'⟩ := ((unhide HU).mono (unhide HWB)).2 k hlk
      rw [hua] at e
      injection e with e
      injection e with e1 e2
      subst e1 e2
      exact hc'
    have hku : k < us.length := by rw [(unhide HU).1]; exact hlk
    have htt := nextTo_tot (roomB (itemsR r) (masterV r)) us k (by omega)
    have HST := hide (nextTo_step (roomB (itemsR r) (masterV r)) us k hku)
    generalize us.getD k 0 = x at hc hcw HST
    subst hua
    rw [← unhide HG] at htt HST
    have hmk : m ≤ 1048580 := by have := htt.2; rw [List.length_map, hm] at this; omega
    have hcu : ∀ u, Below wb.heap.size wb u → u.cell? ⟨b, off + k, none⟩ = some (.int .i64 x) := fun u hb => (hb.cell (World.block_lt_of_cell? wb _ hcw)).trans hcw
    have HBLT : Hid (b < wb.heap.size) := World.block_lt_of_cell? wb _ hcw
    have HTT := hide htt
    clear htt hcw hb
    by_cases hm0 : m = 0
    · subst hm0
      go_upto_region 8 with fail
      clear hc
      go_cut [43] (fun v wc => v = .bool false ∧ Blk wc w.heap.size [.int .i64 r.way, .int .i64 r.pal.wd, .int .i64 r.pal.dp, .int .i64 r.pal.ht, .int .i64 r.pal.gram, .int .i64 r.classes, .slice h.ap r.pairs.length h.cp, .slice h.at' r.types.length h.ct, .int .i64 r.master, .slice h.ai r.items.length h.ci] ∧ w.heap.size < wc.heap.size ∧ Blk wc v1.heap.size [.int .i64 (masterV r).id, .int .i64 (masterV r).wd, .int .i64 (masterV r).ht, .int .i64 (masterV r).dp, .int .i64 (masterV r).tare, .int .i64 (masterV r).gram, .int .i64 (masterV r).cost] ∧ v1.heap.size < wc.heap.size ∧ Own2 wc wb.heap.size g cap rows ∧ Below wb.heap.size wb wc)
      case first =>
          refine wp_region_noPanic ?_
          have Bu0 : Hid (Below wb.heap.size wb wr.drew) := (unhide Bwr).drew
          have QOu0 : Hid (Own2 wr.drew wb.heap.size g cap rows) := (unhide QOwr).later (Below.refl _ _).drew
          have Kau0 : Hid (Blk wr.drew w.heap.size [.int .i64 r.way, .int .i64 r.pal.wd, .int .i64 r.pal.dp, .int .i64 r.pal.ht, .int .i64 r.pal.gram, .int .i64 r.classes, .slice h.ap r.pairs.length h.cp, .slice h.at' r.types.length h.ct, .int .i64 r.master, .slice h.ai r.items.length h.ci]) := unhide Kawr
          have Zau0 : w.heap.size < wr.drew.heap.size := Zawr
          have Ktu0 : Hid (Blk wr.drew v1.heap.size [.int .i64 (masterV r).id, .int .i64 (masterV r).wd, .int .i64 (masterV r).ht, .int .i64 (masterV r).dp, .int .i64 (masterV r).tare, .int .i64 (masterV r).gram, .int .i64 (masterV r).cost]) := unhide Ktwr
          have Ztu0 : v1.heap.size < wr.drew.heap.size := Ztwr
          obtain ⟨S, hSdef⟩ : ∃ S : World → Prop, S = (fun w' => True) := ⟨_, rfl⟩
          have hSmk : ∀ wq, S wq := fun wq  => by rw [hSdef]; exact trivial
          have hSd : ∀ wq, S wq → (fun w' => True) wq := fun wq h => by rw [hSdef] at h; exact h
          clear hSdef
          have hHeld : S wr.drew := hSmk wr.drew 
          refine wp_region_to (S := S) (T := []) (by kernel_rfl) hHeld (fun _ => ?_)
          generalize wr.drew = u0 at *
          refine wpTo_tk (i := 0) (v := ?_) rfl (by kernel_rfl) (Or.inl ⟨by rfl, ?_⟩) (by assumption) ?_
          rotate_left
          · intro w hSw
            have hSw := hSd _ hSw
            (try dsimp only at hSw)
            go_simp <;> with_reducible rfl
          refine wpTo_tk (i := 1) (v := ?_) rfl (by kernel_rfl) (Or.inl ⟨by rfl, ?_⟩) (by assumption) ?_
          rotate_left
          · intro w hSw
            have hSw := hSd _ hSw
            (try dsimp only at hSw)
            go_simp <;> with_reducible rfl
          refine wpTo_tk (i := 2) (v := ?_) rfl (by kernel_rfl) (Or.inl ⟨by rfl, ?_⟩) (by assumption) ?_
          rotate_left
          · intro w hSw
            have hSw := hSd _ hSw
            (try dsimp only at hSw)
            go_simp <;> with_reducible rfl
          try simp only [Act.put, getElem_toArray, getElem_cons_zero, getElem_cons_succ, setIfInBounds_toArray, set_cons_zero, set_cons_succ]
          refine wpTo_tk (i := 3) (v := undef) rfl (by kernel_rfl) (Or.inr ⟨by rfl, rfl⟩) (by assumption) ?_
          try simp only [Act.put, getElem_toArray, getElem_cons_zero, getElem_cons_succ, setIfInBounds_toArray, set_cons_zero, set_cons_succ]
          refine wpTo_tk (i := 4) (v := undef) rfl (by kernel_rfl) (Or.inr ⟨by rfl, rfl⟩) (by assumption) ?_
          try simp only [Act.put, getElem_toArray, getElem_cons_zero, getElem_cons_succ, setIfInBounds_toArray, set_cons_zero, set_cons_succ]
          refine wpTo_tk (i := 5) (v := undef) rfl (by kernel_rfl) (Or.inr ⟨by rfl, rfl⟩) (by assumption) ?_
          try simp only [Act.put, getElem_toArray, getElem_cons_zero, getElem_cons_succ, setIfInBounds_toArray, set_cons_zero, set_cons_succ]
          refine wpTo_tk (i := 6) (v := undef) rfl (by kernel_rfl) (Or.inr ⟨by rfl, rfl⟩) (by assumption) ?_
          try simp only [Act.put, getElem_toArray, getElem_cons_zero, getElem_cons_succ, setIfInBounds_toArray, set_cons_zero, set_cons_succ]
          refine wpTo_tk (i := 7) (v := undef) rfl (by kernel_rfl) (Or.inr ⟨by rfl, rfl⟩) (by assumption) ?_
          try simp only [Act.put, getElem_toArray, getElem_cons_zero, getElem_cons_succ, setIfInBounds_toArray, set_cons_zero, set_cons_succ]
          refine wpTo_tk (i := 8) (v := undef) rfl (by kernel_rfl) (Or.inr ⟨by rfl, rfl⟩) (by assumption) ?_
          try simp only [Act.put, getElem_toArray, getElem_cons_zero, getElem_cons_succ, setIfInBounds_toArray, set_cons_zero, set_cons_succ]
          refine wpTo_tk (i := 9) (v := undef) rfl (by kernel_rfl) (Or.inr ⟨by rfl, rfl⟩) (by assumption) ?_
          try simp only [Act.put, getElem_toArray, getElem_cons_zero, getElem_cons_succ, setIfInBounds_toArray, set_cons_zero, set_cons_succ]
          refine wpTo_tk (i := 10) (v := undef) rfl (by kernel_rfl) (Or.inr ⟨by rfl, rfl⟩) (by assumption) ?_
          try simp only [Act.put, getElem_toArray, getElem_cons_zero, getElem_cons_succ, setIfInBounds_toArray, set_cons_zero, set_cons_succ]
          refine wpTo_tk (i := 11) (v := undef) rfl (by kernel_rfl) (Or.inr ⟨by rfl, rfl⟩) (by assumption) ?_
          try simp only [Act.put, getElem_toArray, getElem_cons_zero, getElem_cons_succ, setIfInBounds_toArray, set_cons_zero, set_cons_succ]
          refine wpTo_tk (i := 12) (v := undef) rfl (by kernel_rfl) (Or.inr ⟨by rfl, rfl⟩) (by assumption) ?_
          try simp only [Act.put, getElem_toArray, getElem_cons_zero, getElem_cons_succ, setIfInBounds_toArray, set_cons_zero, set_cons_succ]
          refine wpTo_tk (i := 13) (v := undef) rfl (by kernel_rfl) (Or.inr ⟨by rfl, rfl⟩) (by assumption) ?_
          try simp only [Act.put, getElem_toArray, getElem_cons_zero, getElem_cons_succ, setIfInBounds_toArray, set_cons_zero, set_cons_succ]
          refine wpTo_tk (i := 14) (v := undef) rfl (by kernel_rfl) (Or.inr ⟨by rfl, rfl⟩) (by assumption) ?_
          try simp only [Act.put, getElem_toArray, getElem_cons_zero, getElem_cons_succ, setIfInBounds_toArray, set_cons_zero, set_cons_succ]
          refine wpTo_ready (rs := [15]) (by kernel_rfl) (by simp) ?_
          refine AllTo.cons (o := _) rfl (fun K hK => ?_) ?_
          ·
           skip
           rw [if_neg (by first | decide | (intro h; cases h))]
           refine hK.out _ _ (fun _ => hHeld) ?_
           clear hK K
           try simp only [Act.put, getElem_toArray, getElem_cons_zero, getElem_cons_succ, setIfInBounds_toArray, set_cons_zero, set_cons_succ]
           refine wpTo_tk (i := 16) (v := ?_) rfl (by kernel_rfl) (Or.inl ⟨by rfl, ?_⟩) (by assumption) ?_
           rotate_left
           · intro w hSw
             have hSw := hSd _ hSw
             (try dsimp only at hSw)
             go_simp <;> with_reducible rfl
           try simp only [Act.put, getElem_toArray, getElem_cons_zero, getElem_cons_succ, setIfInBounds_toArray, set_cons_zero, set_cons_succ]
           refine wpTo_done (by kernel_rfl) ?_ _
           refine NoPanic.normal ?_
           go_wp2_with fail
           go_meet
           case rel => exact ⟨rfl, unhide Kau0, Zau0, unhide Ktu0, Ztu0, unhide QOu0, unhide Bu0⟩
          exact AllTo.nil
      case rest =>
        clear Bwr Kawr Ktwr QOwr Zawr Ztwr HBW
        obtain ⟨rfl, ka, za, kt, zt, ho, hb⟩ := hcut
        have HOX := hide ho
        have HBX := hide hb
        have hc := hcu _ hb
        clear ka kt ho hb za zt
        obtain ⟨wx, hwx⟩ : ∃ w8 : World, w8 = wc := ⟨_, rfl⟩
        subst wc
        have HPA : Hid (nextStep (roomB (itemsR r) (masterV r)) (rows.map RowV.l) x = rows.map RowV.l ++ [[x]]) := by
          have e0 : rows = [] := List.eq_nil_of_length_eq_zero hm
          rw [Hid, e0]; rfl
        have hmL : rows.length = 0 := hm
        have HML := hide hmL
        clear hm hmL
        have HSX := hide (unhide HBX).size
        have hsx : wb.heap.size ≤ wx.heap.size := unhide HSX
        have O2 := hide ((unhide HOX).later ((Below.refl _ wx).alloc (Nat.le_refl _) (.cells #[.int .i64 x] 3)))
        have R2 : Hid (RowV.own (wx.alloc (.cells #[.int .i64 x] 3)) wb.heap.size ⟨wx.heap.size, 1, [x]⟩) := World.ownsRow_lit wx #[.int .i64 x] 1 (by omega) (by unfold maxLen; omega) rfl
        have O3 := hide ((unhide O2).later ((Below.refl _ (wx.alloc (.cells #[.int .i64 x] 3))).alloc (Nat.le_refl _) (.cells #[.slice (some ⟨wx.heap.size, 0, none⟩) 1 1] 29)))
        have R3 := hide ((unhide R2).later ((Below.refl _ (wx.alloc (.cells #[.int .i64 x] 3))).alloc (Nat.le_refl _) (.cells #[.slice (some ⟨wx.heap.size, 0, none⟩) 1 1] 29)))
        have O3L : Hid ((((wx.alloc (.cells #[.int .i64 x] 3)).alloc (.cells #[.slice (some ⟨wx.heap.size, 0, none⟩) 1 1] 29))).ownsRow wb.heap.size 29 1 (.slice (some ⟨g, 0, none⟩) 0 cap) 0 (rows.map RowV.val)) := by have := (unhide O3).out; rw [unhide HML] at this; exact this
        go_wp2_with (first
          | (at_builtin; refine wpList_append_lies _ rfl _ _ 89 rfl wb.heap.size 29 i0 (.slice none 0 0) 1 24 Tryz.underlying89 hi0 hz0 hz1 hz2 rfl (by omega) (.slice (some ⟨g, 0, none⟩) 0 cap) 0 (rows.map RowV.val) rfl (unhide O3L) ⟨wx.heap.size + 1, 0, none⟩ 1 1 [.slice (some ⟨wx.heap.size, 0, none⟩) 1 1] rfl rfl (World.news_of_block (by have := heap_alloc_new (wx.alloc (.cells #[.int .i64 x] 3)) (.cells #[.slice (some ⟨wx.heap.size, 0, none⟩) 1 1] 29); simpa using this)) (by simp [Value.oneCell']) (by omega) (by unfold maxLen; omega) (by omega) (by simp; omega) (wx.heap.size + 2) (by simp) ?_; intro g3 cap3 w3 ho3 hg3 hat3 hlt3)
          | fail)
        have O4 := hide ((unhide O3).pushed (r := ⟨wx.heap.size, 1, [x]⟩) (unhide R3) (fun i hi e => by have h := ((unhide HOX).rws.row i hi).lt.2; have e' : (rows.getD i default).g = wx.heap.size := e; omega) (by have h := ((unhide HOX).out.lt g rfl).2; show wx.heap.size ≠ g; omega) (by rw [unhide HML]; exact ho3) hg3 hat3 (by simp))
        have B4 : Hid (Below wb.heap.size wb w3) := (((unhide HBX).alloc (by omega) _).alloc (by simp; omega) _).grown hg3 (by simp; omega) (fun k hk => by have := own_base (unhide HOX).out; simp [Value.ownBlock] at hk; omega)
        clear ho3 hg3 hat3 hlt3
        go_wp2
        go_roundw
        case rel => exact ⟨k + 1, g3, cap3, 0 + 1, rows ++ [⟨wx.heap.size, 1, [x]⟩], by omega, by go_num, by rw [List.length_append, unhide HML]; rfl, rfl, by rw [unhide HST, unhide HPA, List.map_append]; rfl, unhide O4, unhide B4⟩
        case measure => simp [intOf]; omega
    obtain ⟨q, hq⟩ : ∃ q, m = q + 1 := ⟨m - 1, by omega⟩
    have hm1 : 0 < m := by omega
    have hqm : q < m := by omega
    have HQ := hide (show (m : Int) - 1 = (q : Int) by omega)
    have HQN := hide (show m - 1 = q by omega)
    have hqr : q < rows.length := by omega
    clear hq hm0
    have hrow := (unhide QOwr).rws.row q hqr
    have HROWL := hide (map_getD_l rows q hqr)
    have hll : (rows.getD q default).l.length ≤ 1048580 := by
      have h1 := tot2_row (rows.map RowV.l) q (by rw [List.length_map]; exact hqr)
      rw [unhide HROWL] at h1
      have := (unhide HTT).1
      omega
    have HGC := hide (fun (u : World) (ho : Own2 u wb.heap.size g cap rows) => (ho.cell q hqr).1)
    have HRR := hide (fun (u : World) (ho : Own2 u wb.heap.size g cap rows) => own_reads (ho.rws.row q hqr))
    have HRO1 := hide (fun (u : World) (ho : Own2 u wb.heap.size g cap rows) => ho.rws.row q hqr)
    have HGREW := hide (fun (W w3 : World) (r' : RowV) (H : Nat) (h : Own2 W wb.heap.size g cap rows) => h.grew (w3 := w3) (r := r') (H := H) hqr)
    have HNP : Hid (nextPl (roomB (itemsR r) (masterV r)) (rows.map RowV.l) x = if roomB (itemsR r) (masterV r) (rows.getD q default).l x = true then q else m) := by
      have hl : (rows.map RowV.l).length = m := by rw [List.length_map, hm]
      rw [Hid, nextPl, hl, unhide HQN, unhide HROWL]
      simp [hm1]
    have HPO : Hid (putP (rows.map RowV.l) q x = (rows.map RowV.l).set q ((rows.getD q default).l ++ [x])) := by rw [Hid, putP_old (by rw [List.length_map]; exact hqr), unhide HROWL]
    generalize rows.getD q default = rv at *
    have HGC2 : Hid (∀ u, Own2 u wb.heap.size g cap rows → u.cell? ⟨g, q, none⟩ = some (.slice (some ⟨rv.g, 0, none⟩) rv.l.length rv.cap)) := unhide HGC
    clear hrow HGC
    go_upto_region 8 with fail
    clear hc
    go_cut [43] (fun v wc => v = .bool (roomB (itemsR r) (masterV r) rv.l x) ∧ Blk wc w.heap.size [.int .i64 r.way, .int .i64 r.pal.wd, .int .i64 r.pal.dp, .int .i64 r.pal.ht, .int .i64 r.pal.gram, .int .i64 r.classes, .slice h.ap r.pairs.length h.cp, .slice h.at' r.types.length h.ct, .int .i64 r.master, .slice h.ai r.items.length h.ci] ∧ w.heap.size < wc.heap.size ∧ Blk wc v1.heap.size [.int .i64 (masterV r).id, .int .i64 (masterV r).wd, .int .i64 (masterV r).ht, .int .i64 (masterV r).dp, .int .i64 (masterV r).tare, .int .i64 (masterV r).gram, .int .i64 (masterV r).cost] ∧ v1.heap.size < wc.heap.size ∧ Own2 wc wb.heap.size g cap rows ∧ Below wb.heap.size wb wc)
    case first =>
        refine wp_region_noPanic ?_
        have Bu0 : Hid (Below wb.heap.size wb wr.drew) := (unhide Bwr).drew
        have QOu0 : Hid (Own2 wr.drew wb.heap.size g cap rows) := (unhide QOwr).later (Below.refl _ _).drew
        have Kau0 : Hid (Blk wr.drew w.heap.size [.int .i64 r.way, .int .i64 r.pal.wd, .int .i64 r.pal.dp, .int .i64 r.pal.ht, .int .i64 r.pal.gram, .int .i64 r.classes, .slice h.ap r.pairs.length h.cp, .slice h.at' r.types.length h.ct, .int .i64 r.master, .slice h.ai r.items.length h.ci]) := unhide Kawr
        have Zau0 : w.heap.size < wr.drew.heap.size := Zawr
        have Ktu0 : Hid (Blk wr.drew v1.heap.size [.int .i64 (masterV r).id, .int .i64 (masterV r).wd, .int .i64 (masterV r).ht, .int .i64 (masterV r).dp, .int .i64 (masterV r).tare, .int .i64 (masterV r).gram, .int .i64 (masterV r).cost]) := unhide Ktwr
        have Ztu0 : v1.heap.size < wr.drew.heap.size := Ztwr
        obtain ⟨S, hSdef⟩ : ∃ S : World → Prop, S = (fun w' => w'.cell? ⟨w.heap.size, 0, none⟩ = some (.int .i64 r.way) ∧ w'.cell? ⟨w.heap.size, 1, none⟩ = some (.int .i64 r.pal.wd) ∧ w'.cell? ⟨w.heap.size, 2, none⟩ = some (.int .i64 r.pal.dp) ∧ w'.cell? ⟨w.heap.size, 3, none⟩ = some (.int .i64 r.pal.ht) ∧ w'.cell? ⟨w.heap.size, 4, none⟩ = some (.int .i64 r.pal.gram) ∧ w'.cell? ⟨w.heap.size, 5, none⟩ = some (.int .i64 r.classes) ∧ w'.cell? ⟨w.heap.size, 6, none⟩ = some (.slice h.ap r.pairs.length h.cp) ∧ w'.cell? ⟨w.heap.size, 7, none⟩ = some (.slice h.at' r.types.length h.ct) ∧ w'.cell? ⟨w.heap.size, 8, none⟩ = some (.int .i64 r.master) ∧ w'.cell? ⟨w.heap.size, 9, none⟩ = some (.slice h.ai r.items.length h.ci) ∧ w'.cell? ⟨v1.heap.size, 0, none⟩ = some (.int .i64 (masterV r).id) ∧ w'.cell? ⟨v1.heap.size, 1, none⟩ = some (.int .i64 (masterV r).wd) ∧ w'.cell? ⟨v1.heap.size, 2, none⟩ = some (.int .i64 (masterV r).ht) ∧ w'.cell? ⟨v1.heap.size, 3, none⟩ = some (.int .i64 (masterV r).dp) ∧ w'.cell? ⟨v1.heap.size, 4, none⟩ = some (.int .i64 (masterV r).tare) ∧ w'.cell? ⟨v1.heap.size, 5, none⟩ = some (.int .i64 (masterV r).gram) ∧ w'.cell? ⟨v1.heap.size, 6, none⟩ = some (.int .i64 (masterV r).cost) ∧ w'.cell? ⟨g, q, none⟩ = some (.slice (some ⟨rv.g, 0, none⟩) rv.l.length rv.cap) ∧ w'.cell? ⟨b, off + k, none⟩ = some (.int .i64 x)) := ⟨_, rfl⟩
        have hSmk : ∀ wq, Blk wq w.heap.size [.int .i64 r.way, .int .i64 r.pal.wd, .int .i64 r.pal.dp, .int .i64 r.pal.ht, .int .i64 r.pal.gram, .int .i64 r.classes, .slice h.ap r.pairs.length h.cp, .slice h.at' r.types.length h.ct, .int .i64 r.master, .slice h.ai r.items.length h.ci] → Blk wq v1.heap.size [.int .i64 (masterV r).id, .int .i64 (masterV r).wd, .int .i64 (masterV r).ht, .int .i64 (masterV r).dp, .int .i64 (masterV r).tare, .int .i64 (masterV r).gram, .int .i64 (masterV r).cost] → (wq.cell? ⟨g, q, none⟩ = some (.slice (some ⟨rv.g, 0, none⟩) rv.l.length rv.cap)) → (wq.cell? ⟨b, off + k, none⟩ = some (.int .i64 x)) → S wq := fun wq ka kt p0 p1 => by rw [hSdef]; exact ⟨(ka 0 (by simp)).1, (ka 1 (by simp)).1, (ka 2 (by simp)).1, (ka 3 (by simp)).1, (ka 4 (by simp)).1, (ka 5 (by simp)).1, (ka 6 (by simp)).1, (ka 7 (by simp)).1, (ka 8 (by simp)).1, (ka 9 (by simp)).1, (kt 0 (by simp)).1, (kt 1 (by simp)).1, (kt 2 (by simp)).1, (kt 3 (by simp)).1, (kt 4 (by simp)).1, (kt 5 (by simp)).1, (kt 6 (by simp)).1, p0, p1⟩
        have hSd : ∀ wq, S wq → (fun w' => w'.cell? ⟨w.heap.size, 0, none⟩ = some (.int .i64 r.way) ∧ w'.cell? ⟨w.heap.size, 1, none⟩ = some (.int .i64 r.pal.wd) ∧ w'.cell? ⟨w.heap.size, 2, none⟩ = some (.int .i64 r.pal.dp) ∧ w'.cell? ⟨w.heap.size, 3, none⟩ = some (.int .i64 r.pal.ht) ∧ w'.cell? ⟨w.heap.size, 4, none⟩ = some (.int .i64 r.pal.gram) ∧ w'.cell? ⟨w.heap.size, 5, none⟩ = some (.int .i64 r.classes) ∧ w'.cell? ⟨w.heap.size, 6, none⟩ = some (.slice h.ap r.pairs.length h.cp) ∧ w'.cell? ⟨w.heap.size, 7, none⟩ = some (.slice h.at' r.types.length h.ct) ∧ w'.cell? ⟨w.heap.size, 8, none⟩ = some (.int .i64 r.master) ∧ w'.cell? ⟨w.heap.size, 9, none⟩ = some (.slice h.ai r.items.length h.ci) ∧ w'.cell? ⟨v1.heap.size, 0, none⟩ = some (.int .i64 (masterV r).id) ∧ w'.cell? ⟨v1.heap.size, 1, none⟩ = some (.int .i64 (masterV r).wd) ∧ w'.cell? ⟨v1.heap.size, 2, none⟩ = some (.int .i64 (masterV r).ht) ∧ w'.cell? ⟨v1.heap.size, 3, none⟩ = some (.int .i64 (masterV r).dp) ∧ w'.cell? ⟨v1.heap.size, 4, none⟩ = some (.int .i64 (masterV r).tare) ∧ w'.cell? ⟨v1.heap.size, 5, none⟩ = some (.int .i64 (masterV r).gram) ∧ w'.cell? ⟨v1.heap.size, 6, none⟩ = some (.int .i64 (masterV r).cost) ∧ w'.cell? ⟨g, q, none⟩ = some (.slice (some ⟨rv.g, 0, none⟩) rv.l.length rv.cap) ∧ w'.cell? ⟨b, off + k, none⟩ = some (.int .i64 x)) wq := fun wq h => by rw [hSdef] at h; exact h
        clear hSdef
        have hHeld : S wr.drew := hSmk wr.drew (unhide Kau0) (unhide Ktu0) ((unhide HGC2) _ (unhide QOu0)) (hcu _ (unhide Bu0))
        refine wp_region_to (S := S) (T := []) (by kernel_rfl) hHeld (fun _ => ?_)
        generalize wr.drew = u0 at *
        refine wpTo_tk (i := 0) (v := ?_) rfl (by kernel_rfl) (Or.inl ⟨by rfl, ?_⟩) (by assumption) ?_
        rotate_left
        · intro w hSw
          have hSw := hSd _ hSw
          (try dsimp only at hSw)
          go_simp <;> with_reducible rfl
        try simp only [Act.put, getElem_toArray, getElem_cons_zero, getElem_cons_succ, setIfInBounds_toArray, set_cons_zero, set_cons_succ]
        refine wpTo_tk (i := 1) (v := ?_) rfl (by kernel_rfl) (Or.inl ⟨by rfl, ?_⟩) (by assumption) ?_
        rotate_left
        · intro w hSw
          have hSw := hSd _ hSw
          (try dsimp only at hSw)
          go_simp <;> with_reducible rfl
        refine wpTo_tk (i := 2) (v := ?_) rfl (by kernel_rfl) (Or.inl ⟨by rfl, ?_⟩) (by assumption) ?_
        rotate_left
        · intro w hSw
          have hSw := hSd _ hSw
          (try dsimp only at hSw)
          go_simp <;> with_reducible rfl
        refine wpTo_tk (i := 3) (v := ?_) rfl (by kernel_rfl) (Or.inl ⟨by rfl, ?_⟩) (by assumption) ?_
        rotate_left
        · intro w hSw
          have hSw := hSd _ hSw
          (try dsimp only at hSw)
          go_simp <;> with_reducible rfl
        try simp only [Act.put, getElem_toArray, getElem_cons_zero, getElem_cons_succ, setIfInBounds_toArray, set_cons_zero, set_cons_succ]
        refine wpTo_tk (i := 4) (v := ?_) rfl (by kernel_rfl) (Or.inl ⟨by rfl, ?_⟩) (by assumption) ?_
        rotate_left
        · intro w hSw
          have hSw := hSd _ hSw
          (try dsimp only at hSw)
          go_simp <;> with_reducible rfl
        refine wpTo_tk (i := 5) (v := ?_) rfl (by kernel_rfl) (Or.inl ⟨by rfl, ?_⟩) (by assumption) ?_
        rotate_left
        · intro w hSw
          have hSw := hSd _ hSw
          (try dsimp only at hSw)
          go_simp <;> with_reducible rfl
        refine wpTo_tk (i := 6) (v := ?_) rfl (by kernel_rfl) (Or.inl ⟨by rfl, ?_⟩) (by assumption) ?_
        rotate_left
        · intro w hSw
          have hSw := hSd _ hSw
          (try dsimp only at hSw)
          go_simp <;> with_reducible rfl
        try simp only [Act.put, getElem_toArray, getElem_cons_zero, getElem_cons_succ, setIfInBounds_toArray, set_cons_zero, set_cons_succ]
        refine wpTo_tk (i := 7) (v := ?_) rfl (by kernel_rfl) (Or.inl ⟨by rfl, ?_⟩) (by assumption) ?_
        rotate_left
        · intro w hSw
          have hSw := hSd _ hSw
          (try dsimp only at hSw)
          go_simp <;> with_reducible rfl
        refine wpTo_tk (i := 8) (v := ?_) rfl (by kernel_rfl) (Or.inl ⟨by rfl, ?_⟩) (by assumption) ?_
        rotate_left
        · intro w hSw
          have hSw := hSd _ hSw
          (try dsimp only at hSw)
          go_simp <;> with_reducible rfl
        try simp only [Act.put, getElem_toArray, getElem_cons_zero, getElem_cons_succ, setIfInBounds_toArray, set_cons_zero, set_cons_succ]
        rw [wrap_fits (x := (m : Int) - 1) (by omega) (by omega), unhide HQ]
        refine wpTo_tk (i := 9) (v := ?_) rfl (by kernel_rfl) (Or.inl ⟨by rfl, ?_⟩) (by assumption) ?_
        rotate_left
        · intro w hSw
          have hSw := hSd _ hSw
          (try dsimp only at hSw)
          go_simp <;> with_reducible rfl
        refine wpTo_tk (i := 10) (v := ?_) rfl (by kernel_rfl) (Or.inl ⟨by rfl, ?_⟩) (by assumption) ?_
        rotate_left
        · intro w hSw
          have hSw := hSd _ hSw
          (try dsimp only at hSw)
          go_simp <;> with_reducible rfl
        try simp only [Act.put, getElem_toArray, getElem_cons_zero, getElem_cons_succ, setIfInBounds_toArray, set_cons_zero, set_cons_succ]
        refine wpTo_tk (i := 11) (v := ?_) rfl (by kernel_rfl) (Or.inl ⟨by rfl, ?_⟩) (by assumption) ?_
        rotate_left
        · intro w hSw
          have hSw := hSd _ hSw
          (try dsimp only at hSw)
          go_simp <;> with_reducible rfl
        refine wpTo_tk (i := 12) (v := ?_) rfl (by kernel_rfl) (Or.inl ⟨by rfl, ?_⟩) (by assumption) ?_
        rotate_left
        · intro w hSw
          have hSw := hSd _ hSw
          (try dsimp only at hSw)
          go_simp <;> with_reducible rfl
        refine wpTo_tk (i := 13) (v := ?_) rfl (by kernel_rfl) (Or.inl ⟨by rfl, ?_⟩) (by assumption) ?_
        rotate_left
        · intro w hSw
          have hSw := hSd _ hSw
          (try dsimp only at hSw)
          go_simp <;> with_reducible rfl
        try simp only [Act.put, getElem_toArray, getElem_cons_zero, getElem_cons_succ, setIfInBounds_toArray, set_cons_zero, set_cons_succ]
        refine wpTo_tk (i := 14) (v := ?_) rfl (by kernel_rfl) (Or.inl ⟨by rfl, ?_⟩) (by assumption) ?_
        rotate_left
        · intro w hSw
          have hSw := hSd _ hSw
          (try dsimp only at hSw)
          go_simp <;> with_reducible rfl
        try simp only [Act.put, getElem_toArray, getElem_cons_zero, getElem_cons_succ, setIfInBounds_toArray, set_cons_zero, set_cons_succ]
        refine wpTo_ready (rs := [15]) (by kernel_rfl) (by simp) ?_
        refine AllTo.cons (o := _) rfl (fun K hK => ?_) ?_
        ·
         (try simp only [getElem_toArray, getElem_cons_zero, getElem_cons_succ])
         go_simp
         refine (l7Room_any r h (some ⟨gp, 0, none⟩) N cp (masterV r) rv.g 0 rv.l.length rv.cap rv.l x u0 ((unhide HR).mono ((unhide HWB).trans ((unhide Bu0).mono (unhide HWB).size))) ((unhide UN).mono (unhide Bu0)) ((unhide HRR) _ (unhide QOu0)) (by omega)).mono ?_
         rintro e u1 ⟨rfl, hb⟩
         have Bu1 := hide ((unhide Bu0).trans (hb.mono (unhide Bu0).size))
         have Kau1 := hide (Blk.below hb Zau0 (unhide Kau0))
         have Zau1 := Nat.lt_of_lt_of_le Zau0 hb.size
         have Ktu1 := hide (Blk.below hb Ztu0 (unhide Ktu0))
         have Ztu1 := Nat.lt_of_lt_of_le Ztu0 hb.size
         have QOu1 : Hid (Own2 u1 wb.heap.size g cap rows) := (unhide QOu0).later hb
         clear hb
         clear Bu0 Kau0 Zau0 Ktu0 Ztu0 QOu0
         clear hHeld
         go_wp2_with fail
         have hHeld := hSmk u1 (unhide Kau1) (unhide Ktu1) ((unhide HGC2) _ (unhide QOu1)) (hcu _ (unhide Bu1))
         refine hK.out _ _ (fun _ => hHeld) ?_
         clear hK K
         try simp only [Act.put, getElem_toArray, getElem_cons_zero, getElem_cons_succ, setIfInBounds_toArray, set_cons_zero, set_cons_succ]
         refine wpTo_tk (i := 16) (v := ?_) rfl (by kernel_rfl) (Or.inl ⟨by rfl, ?_⟩) (by assumption) ?_
         rotate_left
         · intro w hSw
           have hSw := hSd _ hSw
           (try dsimp only at hSw)
           go_simp <;> with_reducible rfl
         try simp only [Act.put, getElem_toArray, getElem_cons_zero, getElem_cons_succ, setIfInBounds_toArray, set_cons_zero, set_cons_succ]
         refine wpTo_done (by kernel_rfl) ?_ _
         refine NoPanic.normal ?_
         go_wp2_with fail
         go_meet
         case rel => exact ⟨rfl, unhide Kau1, Zau1, unhide Ktu1, Ztu1, unhide QOu1, unhide Bu1⟩
        exact AllTo.nil
    case rest =>
      clear Bwr Kawr Ktwr QOwr Zawr Ztwr HBW
      obtain ⟨rfl, ka, za, kt, zt, ho, hb⟩ := hcut
      have HOX := hide ho
      have HBX := hide hb
      have hc := hcu _ hb
      have hcell := (unhide HRO1) _ ho
      have hg3 : ∀ x', Below wc.heap.size wc x' → x'.cell? ⟨g, q, none⟩ = some (.slice (some ⟨rv.g, 0, none⟩) rv.l.length rv.cap) := fun x' hx => (hx.cell (p := ⟨g, q, none⟩) (ho.out.lt g rfl).2).trans ((unhide HGC2) _ ho)
      clear ka kt ho za zt
      obtain ⟨wx, hwx⟩ : ∃ w8 : World, w8 = wc := ⟨_, rfl⟩
      subst wc
      cases hroom : roomB (itemsR r) (masterV r) rv.l x
      case false =>
        have HPA : Hid (nextStep (roomB (itemsR r) (masterV r)) (rows.map RowV.l) x = rows.map RowV.l ++ [[x]]) := by
          rw [Hid, nextStep, unhide HNP, hroom, if_neg (by decide), show m = (rows.map RowV.l).length by rw [List.length_map, hm], putP_new]
        clear hg3 hcell hb hroom
        have hmL : rows.length = m := hm
        have HML := hide hmL
        clear hm hmL
        have HSX := hide (unhide HBX).size
        have hsx : wb.heap.size ≤ wx.heap.size := unhide HSX
        have O2 := hide ((unhide HOX).later ((Below.refl _ wx).alloc (Nat.le_refl _) (.cells #[.int .i64 x] 3)))
        have R2 : Hid (RowV.own (wx.alloc (.cells #[.int .i64 x] 3)) wb.heap.size ⟨wx.heap.size, 1, [x]⟩) := World.ownsRow_lit wx #[.int .i64 x] 1 (by omega) (by unfold maxLen; omega) rfl
        have O3 := hide ((unhide O2).later ((Below.refl _ (wx.alloc (.cells #[.int .i64 x] 3))).alloc (Nat.le_refl _) (.cells #[.slice (some ⟨wx.heap.size, 0, none⟩) 1 1] 29)))
        have R3 := hide ((unhide R2).later ((Below.refl _ (wx.alloc (.cells #[.int .i64 x] 3))).alloc (Nat.le_refl _) (.cells #[.slice (some ⟨wx.heap.size, 0, none⟩) 1 1] 29)))
        have O3L : Hid ((((wx.alloc (.cells #[.int .i64 x] 3)).alloc (.cells #[.slice (some ⟨wx.heap.size, 0, none⟩) 1 1] 29))).ownsRow wb.heap.size 29 1 (.slice (some ⟨g, 0, none⟩) m cap) m (rows.map RowV.val)) := by have := (unhide O3).out; rw [unhide HML] at this; exact this
        go_wp2_with (first
          | (at_builtin; refine wpList_append_lies _ rfl _ _ 89 rfl wb.heap.size 29 i0 (.slice none 0 0) 1 24 Tryz.underlying89 hi0 hz0 hz1 hz2 rfl (by omega) (.slice (some ⟨g, 0, none⟩) m cap) m (rows.map RowV.val) rfl (unhide O3L) ⟨wx.heap.size + 1, 0, none⟩ 1 1 [.slice (some ⟨wx.heap.size, 0, none⟩) 1 1] rfl rfl (World.news_of_block (by have := heap_alloc_new (wx.alloc (.cells #[.int .i64 x] 3)) (.cells #[.slice (some ⟨wx.heap.size, 0, none⟩) 1 1] 29); simpa using this)) (by simp [Value.oneCell']) (by omega) (by unfold maxLen; omega) (by omega) (by simp; omega) (wx.heap.size + 2) (by simp) ?_; intro g3 cap3 w3 ho3 hg3 hat3 hlt3)
          | fail)
        have O4 := hide ((unhide O3).pushed (r := ⟨wx.heap.size, 1, [x]⟩) (unhide R3) (fun i hi e => by have h := ((unhide HOX).rws.row i hi).lt.2; have e' : (rows.getD i default).g = wx.heap.size := e; omega) (by have h := ((unhide HOX).out.lt g rfl).2; show wx.heap.size ≠ g; omega) (by rw [unhide HML]; exact ho3) hg3 hat3 (by simp))
        have B4 : Hid (Below wb.heap.size wb w3) := (((unhide HBX).alloc (by omega) _).alloc (by simp; omega) _).grown hg3 (by simp; omega) (fun k hk => by have := own_base (unhide HOX).out; simp [Value.ownBlock] at hk; omega)
        clear ho3 hg3 hat3 hlt3
        go_wp2
        go_roundw
        case rel => exact ⟨k + 1, g3, cap3, m + 1, rows ++ [⟨wx.heap.size, 1, [x]⟩], by omega, by go_num, by rw [List.length_append, unhide HML]; rfl, rfl, by rw [unhide HST, unhide HPA, List.map_append]; rfl, unhide O4, unhide B4⟩
        case measure => simp [intOf]; omega
      case true =>
          have HPA : Hid (nextStep (roomB (itemsR r) (masterV r)) (rows.map RowV.l) x = (rows.map RowV.l).set q (rv.l ++ [x])) := by
            rw [Hid, nextStep, unhide HNP, hroom, if_pos rfl, unhide HPO]
          have HRO : Hid (wx.ownsRow wb.heap.size 3 1 (.slice (some ⟨rv.g, 0, none⟩) rv.l.length rv.cap) rv.l.length (rv.l.map (Value.int .i64))) := hcell
          have HRB : Hid (∀ b, (Value.slice (some ⟨rv.g, 0, none⟩) rv.l.length rv.cap).ownBlock = some b → wb.heap.size ≤ b) := fun b hb => (World.ownsRow.lt hcell b hb).1
          have HGB : Hid (wb.heap.size ≤ g) := ((unhide HOX).out.lt g rfl).1
          have HBN : Hid (b ≠ rv.g) := by have h1 := unhide HBLT; have h2 := (unhide HRB) rv.g rfl; rw [Hid]; omega
          have HSZ : Hid (wb.heap.size ≤ wx.heap.size) := (unhide HBX).size
          have hcx : ∀ u, Below wx.heap.size wx u → u.cell? ⟨b, off + k, none⟩ = some (.int .i64 x) := fun u hu => hcu _ (hb.trans (hu.mono hb.size))
          have Bwx : Hid (Below wx.heap.size wx wx) := Below.refl _ _
          clear hcell hb hroom
          go_upto_region 9 with fail
          clear hc
          refine wp_region_noPanic ?_
          have Bu0 : Hid (Below wx.heap.size wx wx.drew) := (unhide Bwx).drew
          obtain ⟨S, hSdef⟩ : ∃ S : World → Prop, S = (fun w' => w'.cell? ⟨g, q, none⟩ = some (.slice (some ⟨rv.g, 0, none⟩) rv.l.length rv.cap) ∧ w'.cell? ⟨b, off + k, none⟩ = some (.int .i64 x)) := ⟨_, rfl⟩
          have hSmk : ∀ wq, (wq.cell? ⟨g, q, none⟩ = some (.slice (some ⟨rv.g, 0, none⟩) rv.l.length rv.cap)) → (wq.cell? ⟨b, off + k, none⟩ = some (.int .i64 x)) → S wq := fun wq p0 p1 => by rw [hSdef]; exact ⟨p0, p1⟩
          have hSd : ∀ wq, S wq → (fun w' => w'.cell? ⟨g, q, none⟩ = some (.slice (some ⟨rv.g, 0, none⟩) rv.l.length rv.cap) ∧ w'.cell? ⟨b, off + k, none⟩ = some (.int .i64 x)) wq := fun wq h => by rw [hSdef] at h; exact h
          clear hSdef
          have hHeld : S wx.drew := hSmk wx.drew (hg3 _ (unhide Bu0)) (hcx _ (unhide Bu0))
          refine wp_region_to (S := S) (T := [15]) (by kernel_rfl) hHeld (fun _ => ?_)
          generalize wx.drew = u0 at *
          refine wpTo_tk (i := 0) (v := ?_) rfl (by kernel_rfl) (Or.inl ⟨by rfl, ?_⟩) (by assumption) ?_
          rotate_left
          · intro w hSw
            have hSw := hSd _ hSw
            (try dsimp only at hSw)
            go_simp <;> with_reducible rfl
          refine wpTo_tk (i := 1) (v := ?_) rfl (by kernel_rfl) (Or.inl ⟨by rfl, ?_⟩) (by assumption) ?_
          rotate_left
          · intro w hSw
            have hSw := hSd _ hSw
            (try dsimp only at hSw)
            go_simp <;> with_reducible rfl
          refine wpTo_tk (i := 2) (v := ?_) rfl (by kernel_rfl) (Or.inl ⟨by rfl, ?_⟩) (by assumption) ?_
          rotate_left
          · intro w hSw
            have hSw := hSd _ hSw
            (try dsimp only at hSw)
            go_simp <;> with_reducible rfl
          try simp only [Act.put, getElem_toArray, getElem_cons_zero, getElem_cons_succ, setIfInBounds_toArray, set_cons_zero, set_cons_succ]
          rw [wrap_fits (x := (m : Int) - 1) (by omega) (by omega), unhide HQ]
          refine wpTo_tk (i := 3) (v := ?_) rfl (by kernel_rfl) (Or.inl ⟨by rfl, ?_⟩) (by assumption) ?_
          rotate_left
          · intro w hSw
            have hSw := hSd _ hSw
            (try dsimp only at hSw)
            go_simp <;> with_reducible rfl
          try simp only [Act.put, getElem_toArray, getElem_cons_zero, getElem_cons_succ, setIfInBounds_toArray, set_cons_zero, set_cons_succ]
          refine wpTo_tk (i := 4) (v := ?_) rfl (by kernel_rfl) (Or.inl ⟨by rfl, ?_⟩) (by assumption) ?_
          rotate_left
          · intro w hSw
            have hSw := hSd _ hSw
            (try dsimp only at hSw)
            go_simp <;> with_reducible rfl
          refine wpTo_tk (i := 5) (v := ?_) rfl (by kernel_rfl) (Or.inl ⟨by rfl, ?_⟩) (by assumption) ?_
          rotate_left
          · intro w hSw
            have hSw := hSd _ hSw
            (try dsimp only at hSw)
            go_simp <;> with_reducible rfl
          try simp only [Act.put, getElem_toArray, getElem_cons_zero, getElem_cons_succ, setIfInBounds_toArray, set_cons_zero, set_cons_succ]
          rw [wrap_fits (x := (m : Int) - 1) (by omega) (by omega), unhide HQ]
          refine wpTo_tk (i := 6) (v := ?_) rfl (by kernel_rfl) (Or.inl ⟨by rfl, ?_⟩) (by assumption) ?_
          rotate_left
          · intro w hSw
            have hSw := hSd _ hSw
            (try dsimp only at hSw)
            go_simp <;> with_reducible rfl
          refine wpTo_tk (i := 7) (v := ?_) rfl (by kernel_rfl) (Or.inl ⟨by rfl, ?_⟩) (by assumption) ?_
          rotate_left
          · intro w hSw
            have hSw := hSd _ hSw
            (try dsimp only at hSw)
            go_simp <;> with_reducible rfl
          try simp only [Act.put, getElem_toArray, getElem_cons_zero, getElem_cons_succ, setIfInBounds_toArray, set_cons_zero, set_cons_succ]
          refine wpTo_tk (i := 8) (v := ?_) rfl (by kernel_rfl) (Or.inl ⟨by rfl, ?_⟩) (by assumption) ?_
          rotate_left
          · intro w hSw
            have hSw := hSd _ hSw
            (try dsimp only at hSw)
            go_simp <;> with_reducible rfl
          refine wpTo_tk (i := 9) (v := ?_) rfl (by kernel_rfl) (Or.inl ⟨by rfl, ?_⟩) (by assumption) ?_
          rotate_left
          · intro w hSw
            have hSw := hSd _ hSw
            (try dsimp only at hSw)
            go_simp <;> with_reducible rfl
          refine wpTo_tk (i := 10) (v := ?_) rfl (by kernel_rfl) (Or.inl ⟨by rfl, ?_⟩) (by assumption) ?_
          rotate_left
          · intro w hSw
            have hSw := hSd _ hSw
            (try dsimp only at hSw)
            go_simp <;> with_reducible rfl
          try simp only [Act.put, getElem_toArray, getElem_cons_zero, getElem_cons_succ, setIfInBounds_toArray, set_cons_zero, set_cons_succ]
          refine wpTo_tk (i := 11) (v := ?_) rfl (by kernel_rfl) (Or.inl ⟨by rfl, ?_⟩) (by assumption) ?_
          rotate_left
          · intro w hSw
            have hSw := hSd _ hSw
            (try dsimp only at hSw)
            go_simp <;> with_reducible rfl
          try simp only [Act.put, getElem_toArray, getElem_cons_zero, getElem_cons_succ, setIfInBounds_toArray, set_cons_zero, set_cons_succ]
          refine wpTo_ready (rs := [12]) (by kernel_rfl) (by simp) ?_
          refine AllTo.cons (o := _) rfl (fun K hK => ?_) ?_
          ·
           (try simp only [getElem_toArray, getElem_cons_zero, getElem_cons_succ])
           have Bu1 := hide ((unhide Bu0).alloc (unhide Bu0).size (.cells #[.int .i64 x] 3))
           have Kuu1 : Hid (Blk (u0.alloc (.cells #[.int .i64 x] 3)) u0.heap.size [.int .i64 x]) := Blk.allocAt [.int .i64 x] rfl
           have Zuu1 := lt_alloc_new u0 (.cells #[.int .i64 x] 3)
           have Gu : wx.heap.size ≤ u0.heap.size := (unhide Bu0).size
           go_simp
           clear hHeld
           clear Bu0 
           generalize (u0.alloc (.cells #[.int .i64 x] 3)) = u1 at *
           have hHeld := hSmk u1 (hg3 _ (unhide Bu1)) (hcx _ (unhide Bu1))
           refine hK.out _ _ (fun _ => hHeld) ?_
           clear hK K
           try simp only [Act.put, getElem_toArray, getElem_cons_zero, getElem_cons_succ, setIfInBounds_toArray, set_cons_zero, set_cons_succ]
           refine wpTo_ready (rs := [13]) (by kernel_rfl) (by simp) ?_
           refine AllTo.cons (o := _) rfl (fun K hK => ?_) ?_
           ·
            skip
            refine step_append_lies _ (by rfl) _ _ 29 (by rfl) wb.heap.size 3 j0 (.int .i64 0) 1 8 Tryz.underlying29 hj0 hy0 hy1 hy2 rfl (by omega) (.slice (some ⟨rv.g, 0, none⟩) rv.l.length rv.cap) rv.l.length (rv.l.map (Value.int .i64)) (by rfl) (own_laterV (unhide HRO) (unhide Bu1)) ⟨u0.heap.size, 0, none⟩ 1 1 [.int .i64 x] (by rfl) rfl (unhide Kuu1).news (by simp [Value.oneCell']) (by omega) (by unfold maxLen; omega) (by omega) (by have := (unhide Bu1).size; have := unhide HSZ; omega) u1.heap.size rfl ?_
            intro g3 cap3 u2 ho hg hat hlt
            have RN : RowV.own u2 wb.heap.size ⟨g3, cap3, rv.l ++ [x]⟩ := by unfold RowV.own; rw [List.length_append, List.map_append]; exact ho
            obtain ⟨c4, f4, hO4⟩ := (unhide HGREW) u1 u2 ⟨g3, cap3, rv.l ++ [x]⟩ u1.heap.size ((unhide HOX).later (unhide Bu1)) RN hg hat (Nat.le_refl _)
            have hv4 : RowV.val ⟨g3, cap3, rv.l ++ [x]⟩ = .slice (some ⟨g3, 0, none⟩) (rv.l.length + 1) cap3 := by unfold RowV.val; rw [List.length_append]; rfl
            rw [hv4] at hO4
            unfold RowV.val at c4
            have HO4 := hide hO4
            have HB4 := hide (((((unhide HBX).trans ((unhide Bu1).mono (unhide HBX).size))).grown hg (by have := (unhide Bu1).size; have := unhide HSZ; omega) (unhide HRB)).setCell (p := ⟨g, q, none⟩) (unhide HGB) (.slice (some ⟨g3, 0, none⟩) (rv.l.length + 1) cap3))
            have hcx4 := (hg.cell (hcx _ (unhide Bu1)) (by intro e; injection e with e; exact (unhide HBN) e))
            clear ho hg hat hlt hO4 RN hv4 hHeld
            have hHeld := hSmk u2 c4 hcx4
            refine hK.out _ _ (fun _ => hHeld) ?_
            clear hK K
            try simp only [Act.put, getElem_toArray, getElem_cons_zero, getElem_cons_succ, setIfInBounds_toArray, set_cons_zero, set_cons_succ]
            refine wpTo_tk (i := 14) (v := ?_) rfl (by kernel_rfl) (Or.inl ⟨by rfl, ?_⟩) (by assumption) ?_
            rotate_left
            · intro w hSw
              have hSw := hSd _ hSw
              (try dsimp only at hSw)
              go_simp <;> with_reducible rfl
            try simp only [Act.put, getElem_toArray, getElem_cons_zero, getElem_cons_succ, setIfInBounds_toArray, set_cons_zero, set_cons_succ]
            refine wpTo_ready (rs := [15]) (by kernel_rfl) (by simp) ?_
            refine AllTo.cons (o := _) rfl (fun K hK => ?_) ?_
            ·
             (try simp only [getElem_toArray, getElem_cons_zero, getElem_cons_succ])
             go_simp
             refine hK.out _ _ (fun hn => absurd (by decide) hn) ?_
             clear hK K
             try simp only [Act.put, getElem_toArray, getElem_cons_zero, getElem_cons_succ, setIfInBounds_toArray, set_cons_zero, set_cons_succ]
             refine wpTo_done (by kernel_rfl) ?_ _
             refine NoPanic.normal ?_
             go_wp2
             go_roundw
             case rel => exact ⟨k + 1, g, cap, m, rows.set q ⟨g3, cap3, rv.l ++ [x]⟩, by omega, by go_num, by rw [List.length_set]; exact unhide HM, rfl, by rw [unhide HST, unhide HPA, List.map_set], unhide HO4, unhide HB4⟩
             case measure => simp [intOf]; omega
            exact AllTo.nil
           exact AllTo.nil
          exact AllTo.nil
end Go.Proofs.YtphdeojiehigpaaGreatDoor
