/- BoundsOk of the model answers as the bounds say. -/
import Derived.Test.YtlakbnpinennnaaGreatDoorBoundsOk
namespace Go.Proofs.YtlakbnpinennnaaGreatDoor
open Go.RowKit
set_option linter.unusedVariables false
set_option maxHeartbeats 2000000 in
theorem specBoundsOk_any (r : ReqV) (h : ReqH) (w : World) (hr : RdReq w r h) (hs : r.small) :
    Calls Tryz.prog 45 #[reqVal r h] w fun e w' => e = .returned (.bool (boundsB r)) ∧ Below w.heap.size w w' := by
  unfold ReqV.small at hs
  unfold reqVal
  go_enter Tryz.func45, Tryz.ntmps45
  go_wp2_with fail
  refine (l1In_any _ _ _ _).mono ?_
  rintro e w' ⟨rfl, hw⟩
  subst w'
  cases h1 : inB r.way 0 1
  · have HN := hide (boundsB_no (r := r) (.inl h1))
    go_wp2_with fail
    go_ret
    exact ⟨ret_bool (unhide HN).symm, (Below.refl _ _).alloc (Nat.le_refl _) _⟩
  go_wp2_with fail
  refine (specPalletOk_any _ _ _ _ _).mono ?_
  rintro e w1 ⟨rfl, hb1⟩
  have H1 : Hid (Below w.heap.size w w1) := ((Below.refl w.heap.size w).alloc (Nat.le_refl _) _).trans (hb1.mono (by simp))
  have z1 : w.heap.size < w1.heap.size := by have := hb1.size; simp at this; omega
  have A1 : Blk w1 w.heap.size [.int .i64 r.way, .int .i64 r.pal.wd, .int .i64 r.pal.dp, .int .i64 r.pal.ht, .int .i64 r.pal.gram, .int .i64 r.classes, .slice h.ap r.pairs.length h.cp, .slice h.at' r.types.length h.ct, .int .i64 r.master, .slice h.ai r.items.length h.ci] := Blk.below hb1 (by simp) (Blk.allocAt [.int .i64 r.way, .int .i64 r.pal.wd, .int .i64 r.pal.dp, .int .i64 r.pal.ht, .int .i64 r.pal.gram, .int .i64 r.classes, .slice h.ap r.pairs.length h.cp, .slice h.at' r.types.length h.ct, .int .i64 r.master, .slice h.ai r.items.length h.ci] rfl)
  have a1_0 : w1.cell? ⟨w.heap.size, 0, none⟩ = some (.int .i64 r.way) := (A1 0 (by simp)).1
  have a1_1 : w1.cell? ⟨w.heap.size, 1, none⟩ = some (.int .i64 r.pal.wd) := (A1 1 (by simp)).1
  have a1_2 : w1.cell? ⟨w.heap.size, 2, none⟩ = some (.int .i64 r.pal.dp) := (A1 2 (by simp)).1
  have a1_3 : w1.cell? ⟨w.heap.size, 3, none⟩ = some (.int .i64 r.pal.ht) := (A1 3 (by simp)).1
  have a1_4 : w1.cell? ⟨w.heap.size, 4, none⟩ = some (.int .i64 r.pal.gram) := (A1 4 (by simp)).1
  have a1_5 : w1.cell? ⟨w.heap.size, 5, none⟩ = some (.int .i64 r.classes) := (A1 5 (by simp)).1
  have a1_6 : w1.cell? ⟨w.heap.size, 6, none⟩ = some (.slice h.ap r.pairs.length h.cp) := (A1 6 (by simp)).1
  have a1_7 : w1.cell? ⟨w.heap.size, 7, none⟩ = some (.slice h.at' r.types.length h.ct) := (A1 7 (by simp)).1
  have a1_8 : w1.cell? ⟨w.heap.size, 8, none⟩ = some (.int .i64 r.master) := (A1 8 (by simp)).1
  have a1_9 : w1.cell? ⟨w.heap.size, 9, none⟩ = some (.slice h.ai r.items.length h.ci) := (A1 9 (by simp)).1
  have HA1 := hide A1
  clear hb1 A1
  cases h2 : palletB r.pal.wd r.pal.dp r.pal.ht r.pal.gram
  · have HN := hide (boundsB_no (r := r) (.inr (.inl h2)))
    go_wp2_with fail
    go_ret
    exact ⟨ret_bool (unhide HN).symm, unhide H1⟩
  go_wp2_with fail
  refine (l1In_any _ _ _ _).mono ?_
  rintro e w' ⟨rfl, hw⟩
  subst w'
  cases h3 : inB r.classes 1 4
  · have HN := hide (boundsB_no (r := r) (.inr (.inr (.inl h3))))
    go_wp2_with fail
    go_ret
    exact ⟨ret_bool (unhide HN).symm, unhide H1⟩
  by_cases h4 : r.pairs.length ≤ 16
  case neg =>
    have HN := hide (boundsB_no (r := r) (.inr (.inr (.inr (.inl (pairsB_long h4))))))
    go_wp2_with fail
    go_ret
    exact ⟨ret_bool (unhide HN).symm, unhide H1⟩
  go_wp2_with fail
  refine (l1In_any _ _ _ _).mono ?_
  rintro e w' ⟨rfl, hw⟩
  subst w'
  cases h5 : inB r.types.length 1 5
  · have HN := hide (boundsB_no (r := r) (.inr (.inr (.inr (.inr (.inl (typesB_long h5)))))))
    go_wp2_with fail
    go_ret
    exact ⟨ret_bool (unhide HN).symm, unhide H1⟩
  go_wp2_with fail
  refine (l2Id_any _ _).mono ?_
  rintro e w' ⟨rfl, hw⟩
  subst w'
  cases h6 : inB r.master 0 999
  · have HN := hide (boundsB_no (r := r) (.inr (.inr (.inr (.inr (.inr (.inl h6)))))))
    go_wp2_with fail
    go_ret
    exact ⟨ret_bool (unhide HN).symm, unhide H1⟩
  by_cases h7 : r.items.length ≤ 8
  case neg =>
    have HN := hide (boundsB_no (r := r) (.inr (.inr (.inr (.inr (.inr (.inr (itemsB_long h7))))))))
    go_wp2_with fail
    go_ret
    exact ⟨ret_bool (unhide HN).symm, unhide H1⟩
  go_wp2_with fail
  go_loopw [3] (fun i wr => ∃ k : Nat, k ≤ r.pairs.length ∧ i = .int .i64 k ∧ (r.pairs.take k).all pairB = true ∧ Blk wr w.heap.size [.int .i64 r.way, .int .i64 r.pal.wd, .int .i64 r.pal.dp, .int .i64 r.pal.ht, .int .i64 r.pal.gram, .int .i64 r.classes, .slice h.ap r.pairs.length h.cp, .slice h.at' r.types.length h.ct, .int .i64 r.master, .slice h.ai r.items.length h.ci] ∧ w.heap.size < wr.heap.size ∧ Below w.heap.size w wr) (fun i _ => r.pairs.length - (intOf i).toNat)
  case atStart => exact ⟨0, Nat.zero_le _, rfl, rfl, unhide HA1, z1, unhide H1⟩
  case round =>
    clear a1_0 a1_1 a1_2 a1_3 a1_4 a1_5 a1_6 a1_7 a1_8 a1_9 HA1 H1
    obtain ⟨k, hk, rfl, hall, hblk, hz, hbel⟩ := hrel
    have HA := hide hall
    have HK := hide hblk
    have b6 : wr.cell? ⟨w.heap.size, 6, none⟩ = some (.slice h.ap r.pairs.length h.cp) := (hblk 6 (by simp)).1
    have b7 : wr.cell? ⟨w.heap.size, 7, none⟩ = some (.slice h.at' r.types.length h.ct) := (hblk 7 (by simp)).1
    have b9 : wr.cell? ⟨w.heap.size, 9, none⟩ = some (.slice h.ai r.items.length h.ci) := (hblk 9 (by simp)).1
    have HB := hide hbel
    have hq := (hr.mono hbel).1
    clear hall hblk hbel
    by_cases hlt : k < r.pairs.length
    · obtain ⟨b, off, hap, hc⟩ := hq.2 k hlt
      have HS := hide (all_step pairB r.pairs k hlt (unhide HA))
      have HF := hide (all_fell pairB r.pairs k hlt)
      generalize r.pairs.getD k default = q at hc HS HF
      have d0 : wr.cell? ⟨b, off + k * 2, none⟩ = some (.int .i64 q.a) := hc 0 (by omega)
      have d1 : wr.cell? ⟨b, off + k * 2 + 1, none⟩ = some (.int .i64 q.b) := hc 1 (by omega)
      rw [hap] at b6
      have HAP := hide hap
      clear hc hq HA hap
      cases g1 : inB q.a 0 3
      · have HF' := hide (boundsB_no (r := r) (.inr (.inr (.inr (.inl (pairsB_fell (unhide HF (by simp [pairB, g1]))))))))
        clear HF HS
        go_wp2_with ((go_at_call 67; refine (l1In_any _ _ _ _).mono ?_; rintro e w' ⟨rfl, hw⟩; subst w'))
        go_ret
        exact ⟨ret_bool (unhide HF').symm, unhide HB⟩
      cases g2 : inB q.b 0 3
      · have HF' := hide (boundsB_no (r := r) (.inr (.inr (.inr (.inl (pairsB_fell (unhide HF (by simp [pairB, g2]))))))))
        clear HF HS
        go_wp2_with ((go_at_call 67; refine (l1In_any _ _ _ _).mono ?_; rintro e w' ⟨rfl, hw⟩; subst w'))
        go_ret
        exact ⟨ret_bool (unhide HF').symm, unhide HB⟩
      have HS' := hide (unhide HS (by simp [pairB, g1, g2]))
      clear HF HS
      go_wp2_with ((go_at_call 67; refine (l1In_any _ _ _ _).mono ?_; rintro e w' ⟨rfl, hw⟩; subst w'))
      go_roundw
      case rel => exact ⟨k + 1, by omega, by go_num, unhide HS', unhide HK, hz, unhide HB⟩
      case measure => simp [intOf]; omega
    have HP := hide (pairsB_true h4 (all_whole pairB r.pairs k (by omega) (unhide HA)))
    clear hq HA
    go_wp2_with fail
    go_loopw [4] (fun i wr => ∃ k : Nat, k ≤ r.types.length ∧ i = .int .i64 k ∧ (r.types.take k).all TypeV.ok = true ∧ Blk wr w.heap.size [.int .i64 r.way, .int .i64 r.pal.wd, .int .i64 r.pal.dp, .int .i64 r.pal.ht, .int .i64 r.pal.gram, .int .i64 r.classes, .slice h.ap r.pairs.length h.cp, .slice h.at' r.types.length h.ct, .int .i64 r.master, .slice h.ai r.items.length h.ci] ∧ w.heap.size < wr.heap.size ∧ Below w.heap.size w wr) (fun i _ => r.types.length - (intOf i).toNat)
    case atStart => exact ⟨0, Nat.zero_le _, rfl, rfl, unhide HK, hz, unhide HB⟩
    case round =>
      clear b6 b7 b9 HK HB hz
      obtain ⟨k2, hk2, rfl, hall, hblk, hz, hbel⟩ := hrel
      have HA := hide hall
      have HK := hide hblk
      have b7 : wr.cell? ⟨w.heap.size, 7, none⟩ = some (.slice h.at' r.types.length h.ct) := (hblk 7 (by simp)).1
      have b9 : wr.cell? ⟨w.heap.size, 9, none⟩ = some (.slice h.ai r.items.length h.ci) := (hblk 9 (by simp)).1
      have HB := hide hbel
      have hq := (hr.mono hbel).2.1
      clear hall hblk hbel
      by_cases hlt2 : k2 < r.types.length
      · obtain ⟨b, off, hap, hc⟩ := hq.2 k2 hlt2
        have HS := hide (all_step TypeV.ok r.types k2 hlt2 (unhide HA))
        have HF := hide (all_fell TypeV.ok r.types k2 hlt2)
        generalize r.types.getD k2 default = q at hc HS HF
        have d0 : wr.cell? ⟨b, off + k2 * 7, none⟩ = some (.int .i64 q.id) := hc 0 (by omega)
        have d1 : wr.cell? ⟨b, off + k2 * 7 + 1, none⟩ = some (.int .i64 q.wd) := hc 1 (by omega)
        have d2 : wr.cell? ⟨b, off + k2 * 7 + 2, none⟩ = some (.int .i64 q.ht) := hc 2 (by omega)
        have d3 : wr.cell? ⟨b, off + k2 * 7 + 3, none⟩ = some (.int .i64 q.dp) := hc 3 (by omega)
        have d4 : wr.cell? ⟨b, off + k2 * 7 + 4, none⟩ = some (.int .i64 q.tare) := hc 4 (by omega)
        have d5 : wr.cell? ⟨b, off + k2 * 7 + 5, none⟩ = some (.int .i64 q.gram) := hc 5 (by omega)
        have d6 : wr.cell? ⟨b, off + k2 * 7 + 6, none⟩ = some (.int .i64 q.cost) := hc 6 (by omega)
        rw [hap] at b7
        clear hc hq HA hap
        go_wp2_with fail
        refine (specTypeOk_any _ _ _ _ _ _ _ _).mono ?_
        rintro e w2 ⟨rfl, hb2⟩
        have HB2 : Hid (Below w.heap.size w w2) := (unhide HB).trans (hb2.mono (unhide HB).size)
        have HK2 := hide (Blk.below hb2 hz (unhide HK))
        have z2 := Nat.lt_of_lt_of_le hz hb2.size
        clear hb2 HB HK
        cases g1 : typeB q.id q.wd q.ht q.dp q.tare q.gram q.cost
        · have HF' := hide (boundsB_no (r := r) (.inr (.inr (.inr (.inr (.inl (typesB_fell (unhide HF g1))))))))
          go_wp2_with fail
          go_ret
          exact ⟨ret_bool (unhide HF').symm, unhide HB2⟩
        · have HS' := hide (unhide HS g1)
          go_wp2_with fail
          go_roundw
          case rel => exact ⟨k2 + 1, by omega, by go_num, unhide HS', unhide HK2, z2, unhide HB2⟩
          case measure => simp [intOf]; omega
      have HT := hide (typesB_true h5 (all_whole TypeV.ok r.types k2 (by omega) (unhide HA)))
      clear hq HA
      go_wp2_with fail
      go_loopw [5, 6] (fun u i wr => ∃ k : Nat, k ≤ r.items.length ∧ i = .int .i64 k ∧ u = .int .i64 (cntSum (r.items.take k)) ∧ (r.items.take k).all ItemV.ok = true ∧ Blk wr w.heap.size [.int .i64 r.way, .int .i64 r.pal.wd, .int .i64 r.pal.dp, .int .i64 r.pal.ht, .int .i64 r.pal.gram, .int .i64 r.classes, .slice h.ap r.pairs.length h.cp, .slice h.at' r.types.length h.ct, .int .i64 r.master, .slice h.ai r.items.length h.ci] ∧ w.heap.size < wr.heap.size ∧ Below w.heap.size w wr) (fun _ i _ => r.items.length - (intOf i).toNat)
      case atStart => exact ⟨0, Nat.zero_le _, rfl, rfl, rfl, unhide HK, hz, unhide HB⟩
      case round =>
        clear b7 b9 HK HB hz
        obtain ⟨k3, hk3, rfl, rfl, hall, hblk, hz, hbel⟩ := hrel
        obtain ⟨s0, s1⟩ := cntSum_bd _ hall
        have s2 : (r.items.take k3).length ≤ 8 := by rw [List.length_take]; omega
        have HA := hide hall
        have HK := hide hblk
        have b9 : wr.cell? ⟨w.heap.size, 9, none⟩ = some (.slice h.ai r.items.length h.ci) := (hblk 9 (by simp)).1
        have HB := hide hbel
        have hq := (hr.mono hbel).2.2
        clear hall hblk hbel
        by_cases hlt3 : k3 < r.items.length
        · obtain ⟨b, off, hap, hc⟩ := hq.2 k3 hlt3
          have hqb := RdR.lt (by omega) ItemV.len (hap ▸ hq) (by omega)
          have HS := hide (all_step ItemV.ok r.items k3 hlt3 (unhide HA))
          have HF := hide (all_fell ItemV.ok r.items k3 hlt3)
          have HC := hide (cntSum_step r.items k3 hlt3)
          have HQ := hide (fun hh => item_cnt (q := r.items.getD k3 default) hh)
          generalize r.items.getD k3 default = q at hc HS HF HC HQ
          generalize cntSum (r.items.take k3) = s at s0 s1 HC
          have d0 : wr.cell? ⟨b, off + k3 * 7, none⟩ = some (.int .i64 q.id) := hc 0 (by omega)
          have d1 : wr.cell? ⟨b, off + k3 * 7 + 1, none⟩ = some (.int .i64 q.wd) := hc 1 (by omega)
          have d2 : wr.cell? ⟨b, off + k3 * 7 + 2, none⟩ = some (.int .i64 q.ht) := hc 2 (by omega)
          have d3 : wr.cell? ⟨b, off + k3 * 7 + 3, none⟩ = some (.int .i64 q.dp) := hc 3 (by omega)
          have d4 : wr.cell? ⟨b, off + k3 * 7 + 4, none⟩ = some (.int .i64 q.gram) := hc 4 (by omega)
          have d5 : wr.cell? ⟨b, off + k3 * 7 + 5, none⟩ = some (.int .i64 q.cls) := hc 5 (by omega)
          have d6 : wr.cell? ⟨b, off + k3 * 7 + 6, none⟩ = some (.int .i64 q.cnt) := hc 6 (by omega)
          rw [hap] at b9
          clear hc hq HA hap
          go_wp2_with fail
          refine (specItemOk_any _ _ _ _ _ _ _ _).mono ?_
          rintro e w2 ⟨rfl, hb2⟩
          have HB2 : Hid (Below w.heap.size w w2) := (unhide HB).trans (hb2.mono (unhide HB).size)
          have HK2 := hide (Blk.below hb2 hz (unhide HK))
          have z2 := Nat.lt_of_lt_of_le hz hb2.size
          have c6 : w2.cell? ⟨b, off + k3 * 7 + 6, none⟩ = some (.int .i64 q.cnt) := (hb2.cell (p := ⟨b, off + k3 * 7 + 6, none⟩) hqb).trans d6
          have c9 : w2.cell? ⟨w.heap.size, 9, none⟩ = some (.slice (some ⟨b, off, none⟩) r.items.length h.ci) := (hb2.cell (p := ⟨w.heap.size, 9, none⟩) hz).trans b9
          clear hb2 HB HK
          cases g1 : itemB q.id q.wd q.ht q.dp q.gram q.cls q.cnt
          · have HF' := hide (boundsB_no (r := r) (.inr (.inr (.inr (.inr (.inr (.inr (itemsB_fell (unhide HF g1)))))))))
            go_wp2_with fail
            go_ret
            exact ⟨ret_bool (unhide HF').symm, unhide HB2⟩
          · have HS' := hide (unhide HS g1)
            obtain ⟨c1, c2⟩ := unhide HQ g1
            go_wp2_with fail
            go_roundw
            case rel => exact ⟨k3 + 1, by omega, by go_num, by rw [unhide HC], unhide HS', unhide HK2, z2, unhide HB2⟩
            case measure => simp [intOf]; omega
        have HI := hide (itemsB_end h7 (all_whole ItemV.ok r.items k3 (by omega) (unhide HA)))
        have HE : Hid (boundsB r = decide (cntSum r.items ≤ 12)) := by
          show _ = _
          rw [← unhide HI]
          simp [boundsB, PalletV.ok, h1, h2, h3, unhide HP, unhide HT, h6]
        rw [List.take_of_length_le (show r.items.length ≤ k3 by omega)]
        clear HA s0 s1 HI
        generalize cntSum r.items = s at HE
        go_wp2_with fail
        go_ret
        exact ⟨ret_bool (unhide HE).symm, unhide HB⟩
end Go.Proofs.YtlakbnpinennnaaGreatDoor
