/- SpecClass, SpecClass2: one text. -/
import Derived.Test.YtcblpoeeembniabGreatDoorPkF
import Derived.Test.YtcblpoeeembniabGreatDoorPkD
import Derived.Test.YtcblpoeeembniabGreatDoorPkI
import Derived.Test.YtcblpoeeembniabGreatDoorPkC
import Derived.Deep.RegionHeld3
import Derived.Deep.DeepMust
/- The model's Class. -/
namespace Go.Proofs.YtcblpoeeembniabGreatDoor
open Go.RowKit
set_option linter.unusedVariables false
set_option linter.unusedSimpArgs false

theorem hasI_step (l : List Int) (k : Nat) (x : Int) (h : k < l.length) (h0 : hasI (l.take k) x = false) (h1 : (l.getD k 0 == x) = false) : hasI (l.take (k + 1)) x = false := by
 have hg : l.getD k 0 = l[k] := by simp [h]
 rw [hg] at h1
 unfold hasI at *
 rw [List.take_succ_eq_append_getElem h, List.any_append, h0]
 simp [h1]
theorem hasI_hit (l : List Int) (k i : Nat) (x : Int) (hki : k < i) (h : i ≤ l.length) (h1 : (l.getD k 0 == x) = true) : hasI (l.take i) x = true := by
 rw [hasI_iff]
 have hg : l.getD k 0 = l[k] := by simp [show k < l.length by omega]
 rw [hg, beq_iff_eq] at h1
 rw [← h1]
 exact List.mem_take_iff_getElem.2 ⟨k, by omega, rfl⟩
theorem idT_at (ts : List TypeV) (k : Nat) (h : k < ts.length) : (idsT ts).getD k 0 = (ts.getD k default).id := by simp [idsT, h]
theorem idI_at (ts : List ItemV) (k : Nat) (h : k < ts.length) : (idsI ts).getD k 0 = (ts.getD k default).id := by simp [idsI, h]
theorem namesS_no {r : ReqV} (h : masterB r = false ∨ onceB (idsT r.types) = false ∨ onceB (idsI r.items) = false ∨ r.items.all (kindItem r.classes) = false ∨ r.pairs.all (kindPair r.classes) = false) : namesB r = false := by
 rcases h with h | h | h | h | h <;> simp [namesB, kindsB, h]
theorem namesS_eq {r : ReqV} (h1 : onceB (idsT r.types) = true) (h2 : onceB (idsI r.items) = true) (h3 : r.items.all (kindItem r.classes) = true) (h4 : r.pairs.all (kindPair r.classes) = true) : namesB r = masterB r := by simp [namesB, kindsB, h1, h2, h3, h4]
set_option maxHeartbeats 4000000 in
theorem l5Names_any (r : ReqV) (h : ReqH) (w : World) (hr : RdReq w r h) (hs : r.small) :
 Calls Tryz.prog 49 #[reqVal r h] w fun e w' => e = .returned (.bool (namesB r)) ∧ Below w.heap.size w w' := by
 have htl : r.types.length ≤ 1048600 := by unfold ReqV.small at hs; omega
 unfold ReqV.small at hs
 unfold reqVal
 obtain ⟨hp0, ht0, hi0⟩ := hr
 obtain ⟨pa, ta, ia, pc, tc, ic⟩ := h
 dsimp only at hp0 ht0 hi0 ⊢
 go_enter Tryz.func49, Tryz.ntmps49
 go_wp2
 have HX : Blk (w.alloc (.cells #[.int .i64 r.way, .int .i64 r.pal.wd, .int .i64 r.pal.dp, .int .i64 r.pal.ht, .int .i64 r.pal.gram, .int .i64 r.classes, .slice pa r.pairs.length pc, .slice ta r.types.length tc, .int .i64 r.master, .slice ia r.items.length ic] 41)) w.heap.size [.int .i64 r.way, .int .i64 r.pal.wd, .int .i64 r.pal.dp, .int .i64 r.pal.ht, .int .i64 r.pal.gram, .int .i64 r.classes, .slice pa r.pairs.length pc, .slice ta r.types.length tc, .int .i64 r.master, .slice ia r.items.length ic] := Blk.allocAt [.int .i64 r.way, .int .i64 r.pal.wd, .int .i64 r.pal.dp, .int .i64 r.pal.ht, .int .i64 r.pal.gram, .int .i64 r.classes, .slice pa r.pairs.length pc, .slice ta r.types.length tc, .int .i64 r.master, .slice ia r.items.length ic] rfl
 have HB : Below w.heap.size w (w.alloc (.cells #[.int .i64 r.way, .int .i64 r.pal.wd, .int .i64 r.pal.dp, .int .i64 r.pal.ht, .int .i64 r.pal.gram, .int .i64 r.classes, .slice pa r.pairs.length pc, .slice ta r.types.length tc, .int .i64 r.master, .slice ia r.items.length ic] 41)) := (Below.refl w.heap.size w).alloc (Nat.le_refl _) _
 have lt0 : w.heap.size < (w.alloc (.cells #[.int .i64 r.way, .int .i64 r.pal.wd, .int .i64 r.pal.dp, .int .i64 r.pal.ht, .int .i64 r.pal.gram, .int .i64 r.classes, .slice pa r.pairs.length pc, .slice ta r.types.length tc, .int .i64 r.master, .slice ia r.items.length ic] 41)).heap.size := by simp
 have HI : Hid (RdR ItemV.cells 7 (w.alloc (.cells #[.int .i64 r.way, .int .i64 r.pal.wd, .int .i64 r.pal.dp, .int .i64 r.pal.ht, .int .i64 r.pal.gram, .int .i64 r.classes, .slice pa r.pairs.length pc, .slice ta r.types.length tc, .int .i64 r.master, .slice ia r.items.length ic] 41)) ia r.items.length r.items) := hi0.mono (by omega) ItemV.len HB
 have HP : Hid (RdR PairV.cells 2 (w.alloc (.cells #[.int .i64 r.way, .int .i64 r.pal.wd, .int .i64 r.pal.dp, .int .i64 r.pal.ht, .int .i64 r.pal.gram, .int .i64 r.classes, .slice pa r.pairs.length pc, .slice ta r.types.length tc, .int .i64 r.master, .slice ia r.items.length ic] 41)) pa r.pairs.length r.pairs) := hp0.mono (by omega) PairV.len HB
 have HT : Hid (RdR TypeV.cells 7 (w.alloc (.cells #[.int .i64 r.way, .int .i64 r.pal.wd, .int .i64 r.pal.dp, .int .i64 r.pal.ht, .int .i64 r.pal.gram, .int .i64 r.classes, .slice pa r.pairs.length pc, .slice ta r.types.length tc, .int .i64 r.master, .slice ia r.items.length ic] 41)) ta r.types.length r.types) := ht0.mono (by omega) TypeV.len HB
 generalize (w.alloc (.cells #[.int .i64 r.way, .int .i64 r.pal.wd, .int .i64 r.pal.dp, .int .i64 r.pal.ht, .int .i64 r.pal.gram, .int .i64 r.classes, .slice pa r.pairs.length pc, .slice ta r.types.length tc, .int .i64 r.master, .slice ia r.items.length ic] 41)) = W at *
 obtain ⟨G, hG⟩ : ∃ G, G = w.heap.size := ⟨_, rfl⟩
 rw [← hG] at HX lt0 ⊢
 have HG := hide hG
 have HBH := hide HB
 have HXX := hide HX
 clear hG HB HX hp0 hi0 ht0
 go_loopw [3] (fun v wr => ∃ i : Nat, i ≤ r.types.length ∧ v = .int .i64 (i : Int) ∧ (List.range i).all (onceAt (idsT r.types)) = true ∧ Below W.heap.size W wr) (fun v _ => r.types.length - (intOf v).toNat)
 case atStart => exact ⟨0, Nat.zero_le _, rfl, rfl, Below.refl _ _⟩
 case round =>
  obtain ⟨i, hi, rfl, hall, hb⟩ := hrel
  have A1 := Blk.below hb lt0 HXX.out
  have a7 : wr.cell? ⟨G, 7, none⟩ = some (.slice ta r.types.length tc) := (A1 7 (by simp)).1
  have HBI := hide hb
  have HALL := hide hall
  clear hb hall A1
  by_cases hlt : i < r.types.length
  · skip
    obtain ⟨wo, rfl⟩ : ∃ wo : World, wo = wr := ⟨_, rfl⟩
    go_wp2
    go_loopw [4] (fun j wq => ∃ k : Nat, k ≤ i ∧ j = .int .i64 (k : Int) ∧ hasI ((idsT r.types).take k) ((idsT r.types).getD i 0) = false ∧ Below W.heap.size W wq) (fun j _ => i - (intOf j).toNat)
    case atStart => exact ⟨0, Nat.zero_le _, rfl, rfl, HBI.out⟩
    case round =>
     obtain ⟨k, hk, rfl, hno, hb⟩ := hrel
     have A1 := Blk.below hb lt0 HXX.out
     have a7 : wr.cell? ⟨G, 7, none⟩ = some (.slice ta r.types.length tc) := (A1 7 (by simp)).1
     have HBB := hide hb
     by_cases hki : k < i
     · have hk2 : k < r.types.length := by omega
       have HSTEP := hide (fun h1 => hasI_step (idsT r.types) k ((idsT r.types).getD i 0) (by rw [idsT_len]; exact hk2) hno h1)
       have HHIT := hide (fun h1 => hasI_hit (idsT r.types) k i ((idsT r.types).getD i 0) hki (by rw [idsT_len]; omega) h1)
       rw [idT_at r.types k hk2, idT_at r.types i hlt] at HSTEP HHIT
       obtain ⟨b, off, rfl, hci⟩ := HT.out.2 i hlt
       obtain ⟨b2, off2, hbo, hck⟩ := HT.out.2 k hk2
       simp only [Option.some.injEq, Addr.mk.injEq] at hbo
       obtain ⟨rfl, rfl, _⟩ := hbo
       have HOI : Hid ((idsT r.types).getD i 0 = (r.types.getD i default).id) := idT_at r.types i hlt
       generalize r.types.getD i default = p at hci HSTEP HHIT HOI
       generalize r.types.getD k default = q at hck HSTEP HHIT
       have d0 : wr.cell? ⟨b, off + i * 7, none⟩ = some (.int .i64 p.id) := (hb.cell (World.block_lt_of_cell? _ _ (hci 0 (by omega)))).trans (hci 0 (by omega))
       have e0 : wr.cell? ⟨b, off + k * 7, none⟩ = some (.int .i64 q.id) := (hb.cell (World.block_lt_of_cell? _ _ (hck 0 (by omega)))).trans (hck 0 (by omega))
       clear hci hck hb A1 hno
       cases hid : (q.id == p.id)
       · have HS2 := hide (HSTEP.out hid)
         have hid2 : (p.id == q.id) = false := by rw [flip_beq]; exact hid
         clear HSTEP HHIT
         go_wp2
         go_quiet (fail)
         go_wp2
         go_roundw
         case rel => exact ⟨k + 1, by omega, by go_num, by rw [unhide HOI]; exact unhide HS2, below_drewN HBB.out _⟩
         case measure => simp [intOf]; omega
       · have HS2 := hide (HHIT.out hid)
         have hid2 : (p.id == q.id) = true := by rw [flip_beq]; exact hid
         clear HSTEP HHIT
         go_wp2
         go_quiet (fail)
         go_wp2
         go_ret
         refine ⟨ret_bool (namesS_no (Or.inr <| Or.inl (onceB_miss _ i (by rw [idsT_len]; exact hlt) ?_))).symm, HBH.out.trans ((below_drewN HBB.out _).mono HBH.out.size)⟩
         unfold onceAt
         rw [unhide HOI, unhide HS2]
         rfl
     · have hki2 : k = i := by omega
       subst hki2
       go_wp2
       go_roundw
       case rel => exact ⟨k + 1, by omega, by go_num, onceB_step _ k HALL.out (by unfold onceAt; rw [hno]; rfl), hb⟩
       case measure => simp [intOf]; omega
  · have HO1 : Hid (onceB (idsT r.types) = true) := by unfold onceB Hid; rw [idsT_len, show r.types.length = i by omega]; exact unhide HALL
    clear HALL
    obtain ⟨wo, rfl⟩ : ∃ wo : World, wo = wr := ⟨_, rfl⟩
    go_wp2
    go_loopw [5] (fun v wr => ∃ i : Nat, i ≤ r.items.length ∧ v = .int .i64 (i : Int) ∧ (List.range i).all (onceAt (idsI r.items)) = true ∧ (r.items.take i).all (kindItem r.classes) = true ∧ Below W.heap.size W wr) (fun v _ => r.items.length - (intOf v).toNat)
    case atStart => exact ⟨0, Nat.zero_le _, rfl, rfl, rfl, unhide HBI⟩
    case round =>
     clear hlt a7 HBI
     obtain ⟨i, hi, rfl, hall, hkin, hb⟩ := hrel
     have A1 := Blk.below hb lt0 HXX.out
     have a5 : wr.cell? ⟨G, 5, none⟩ = some (.int .i64 r.classes) := (A1 5 (by simp)).1
     have a9 : wr.cell? ⟨G, 9, none⟩ = some (.slice ia r.items.length ic) := (A1 9 (by simp)).1
     have HBI := hide hb
     have HALL := hide hall
     have HKIN := hide hkin
     by_cases hlt : i < r.items.length
     · have HST := hide (all_step (kindItem r.classes) r.items i hlt hkin)
       have HFE := hide (all_fell (kindItem r.classes) r.items i hlt)
       have HCQ : Hid (∃ b off, ia = some ⟨b, off, none⟩ ∧ wr.cell? ⟨b, off + i * 7 + 5, none⟩ = some (.int .i64 (r.items.getD i default).cls)) := by
        obtain ⟨b, off, hbo, hc⟩ := HI.out.2 i hlt
        exact ⟨b, off, hbo, (hb.cell (World.block_lt_of_cell? _ _ (hc 5 (by omega)))).trans (hc 5 (by omega))⟩
       have HKQ : Hid (kindItem r.classes (r.items.getD i default) = decide ((r.items.getD i default).cls < r.classes)) := rfl
       generalize (r.items.getD i default).cls = qc at HKQ HCQ
       obtain ⟨b, off, hbo, d5⟩ := unhide HCQ
       rw [hbo] at a9
       clear HCQ hbo hb hall hkin A1
       by_cases hge : r.classes ≤ qc
       · have HF := hide (HFE.out (by rw [unhide HKQ]; simp; omega))
         go_wp2
         go_quiet (fail)
         go_wp2
         go_ret
         exact ⟨ret_bool (namesS_no (Or.inr <| Or.inr <| Or.inr <| Or.inl HF.out)).symm, HBH.out.trans ((below_drewN HBI.out _).mono HBH.out.size)⟩
       · have HF := hide (HST.out (by rw [unhide HKQ]; simp; omega))
         go_wp2
         go_quiet (fail)
         go_wp2
         clear HST HFE HKQ d5
         obtain ⟨wo, rfl⟩ : ∃ wo : World, wo = wr := ⟨_, rfl⟩
         go_wp2
         go_loopw [6] (fun j wq => ∃ k : Nat, k ≤ i ∧ j = .int .i64 (k : Int) ∧ hasI ((idsI r.items).take k) ((idsI r.items).getD i 0) = false ∧ Below W.heap.size W wq) (fun j _ => i - (intOf j).toNat)
         case atStart => exact ⟨0, Nat.zero_le _, rfl, rfl, below_drewN HBI.out _⟩
         case round =>
          obtain ⟨k, hk, rfl, hno, hb⟩ := hrel
          have A1 := Blk.below hb lt0 HXX.out
          have a9 : wr.cell? ⟨G, 9, none⟩ = some (.slice ia r.items.length ic) := (A1 9 (by simp)).1
          have HBB := hide hb
          by_cases hki : k < i
          · have hk2 : k < r.items.length := by omega
            have HSTEP := hide (fun h1 => hasI_step (idsI r.items) k ((idsI r.items).getD i 0) (by rw [idsI_len]; exact hk2) hno h1)
            have HHIT := hide (fun h1 => hasI_hit (idsI r.items) k i ((idsI r.items).getD i 0) hki (by rw [idsI_len]; omega) h1)
            rw [idI_at r.items k hk2, idI_at r.items i hlt] at HSTEP HHIT
            obtain ⟨b, off, rfl, hci⟩ := HI.out.2 i hlt
            obtain ⟨b2, off2, hbo, hck⟩ := HI.out.2 k hk2
            simp only [Option.some.injEq, Addr.mk.injEq] at hbo
            obtain ⟨rfl, rfl, _⟩ := hbo
            have HOI : Hid ((idsI r.items).getD i 0 = (r.items.getD i default).id) := idI_at r.items i hlt
            generalize r.items.getD i default = p at hci HSTEP HHIT HOI
            generalize r.items.getD k default = q at hck HSTEP HHIT
            have d0 : wr.cell? ⟨b, off + i * 7, none⟩ = some (.int .i64 p.id) := (hb.cell (World.block_lt_of_cell? _ _ (hci 0 (by omega)))).trans (hci 0 (by omega))
            have e0 : wr.cell? ⟨b, off + k * 7, none⟩ = some (.int .i64 q.id) := (hb.cell (World.block_lt_of_cell? _ _ (hck 0 (by omega)))).trans (hck 0 (by omega))
            clear hci hck hb A1 hno
            cases hid : (q.id == p.id)
            · have HS2 := hide (HSTEP.out hid)
              have hid2 : (p.id == q.id) = false := by rw [flip_beq]; exact hid
              clear HSTEP HHIT
              go_wp2
              go_quiet (fail)
              go_wp2
              go_roundw
              case rel => exact ⟨k + 1, by omega, by go_num, by rw [unhide HOI]; exact unhide HS2, below_drewN HBB.out _⟩
              case measure => simp [intOf]; omega
            · have HS2 := hide (HHIT.out hid)
              have hid2 : (p.id == q.id) = true := by rw [flip_beq]; exact hid
              clear HSTEP HHIT
              go_wp2
              go_quiet (fail)
              go_wp2
              go_ret
              refine ⟨ret_bool (namesS_no (Or.inr <| Or.inr <| Or.inl (onceB_miss _ i (by rw [idsI_len]; exact hlt) ?_))).symm, HBH.out.trans ((below_drewN HBB.out _).mono HBH.out.size)⟩
              unfold onceAt
              rw [unhide HOI, unhide HS2]
              rfl
          · have hki2 : k = i := by omega
            subst hki2
            go_wp2
            go_roundw
            case rel => exact ⟨k + 1, by omega, by go_num, onceB_step _ k HALL.out (by unfold onceAt; rw [hno]; rfl), unhide HF, hb⟩
            case measure => simp [intOf]; omega
     · have HO2 : Hid (onceB (idsI r.items) = true) := by unfold onceB Hid; rw [idsI_len, show r.items.length = i by omega]; exact unhide HALL
       have HO3 := hide (all_whole (kindItem r.classes) r.items i (by omega) hkin)
       clear HALL HKIN hb hall hkin A1
       obtain ⟨wo, rfl⟩ : ∃ wo : World, wo = wr := ⟨_, rfl⟩
       go_wp2
       go_loopw [7] (fun v wr => ∃ i : Nat, i ≤ r.pairs.length ∧ v = .int .i64 (i : Int) ∧ (r.pairs.take i).all (kindPair r.classes) = true ∧ Below W.heap.size W wr) (fun v _ => r.pairs.length - (intOf v).toNat)
       case atStart => exact ⟨0, Nat.zero_le _, rfl, rfl, unhide HBI⟩
       case round =>
        clear hlt a5 a9 HBI
        obtain ⟨j, hj, rfl, hall, hb⟩ := hrel
        have A1 := Blk.below hb lt0 HXX.out
        have a5 : wr.cell? ⟨G, 5, none⟩ = some (.int .i64 r.classes) := (A1 5 (by simp)).1
        have a6 : wr.cell? ⟨G, 6, none⟩ = some (.slice pa r.pairs.length pc) := (A1 6 (by simp)).1
        have z0 : G < wr.heap.size := Nat.lt_of_lt_of_le lt0 hb.size
        have HBI := hide hb
        by_cases hlt : j < r.pairs.length
        · obtain ⟨b, off, rfl, hc⟩ := HP.out.2 j hlt
          have HST := hide (all_step (kindPair r.classes) r.pairs j hlt hall)
          have HFE := hide (all_fell (kindPair r.classes) r.pairs j hlt)
          generalize r.pairs.getD j default = q at hc HST HFE
          have d0 : wr.cell? ⟨b, off + j * 2, none⟩ = some (.int .i64 q.a) := (hb.cell (World.block_lt_of_cell? _ _ (hc 0 (by omega)))).trans (hc 0 (by omega))
          have d1 : wr.cell? ⟨b, off + j * 2 + 1, none⟩ = some (.int .i64 q.b) := (hb.cell (World.block_lt_of_cell? _ _ (hc 1 (by omega)))).trans (hc 1 (by omega))
          clear hc hb hall A1
          have HKQ : Hid (kindPair r.classes q = (decide (q.a < r.classes) && decide (q.b < r.classes))) := rfl
          by_cases hga : r.classes ≤ q.a
          · have HF := hide (HFE.out (by rw [unhide HKQ]; simp; omega))
            have hd : decide (r.classes ≤ q.a) = true := by simpa using hga
            go_wp2
            go_quiet (fail)
            go_wp2
            go_ret
            exact ⟨ret_bool (namesS_no (Or.inr <| Or.inr <| Or.inr <| Or.inr HF.out)).symm, HBH.out.trans ((below_drewN HBI.out _).mono HBH.out.size)⟩
          · have hd : decide (r.classes ≤ q.a) = false := by simpa using hga
            by_cases hgb : r.classes ≤ q.b
            · have HF := hide (HFE.out (by rw [unhide HKQ]; simp; omega))
              go_wp2
              go_quiet (fail)
              go_wp2
              go_ret
              exact ⟨ret_bool (namesS_no (Or.inr <| Or.inr <| Or.inr <| Or.inr HF.out)).symm, HBH.out.trans ((below_drewN HBI.out _).mono HBH.out.size)⟩
            · have HF := hide (HST.out (by rw [unhide HKQ]; simp; omega))
              go_wp2
              go_quiet (fail)
              go_wp2
              go_roundw
              case rel => exact ⟨j + 1, by omega, by go_num, unhide HF, below_drewN HBI.out _⟩
              case measure => simp [intOf]; omega
        · have HO4 := hide (all_whole (kindPair r.classes) r.pairs j (by omega) hall)
          obtain ⟨a0, a1, a2, a3, a4⟩ := Blk.cs5 A1
          have a7 : wr.cell? ⟨G, 7, none⟩ = some (.slice ta r.types.length tc) := (A1 7 (by simp)).1
          have a8 : wr.cell? ⟨G, 8, none⟩ = some (.int .i64 r.master) := (A1 8 (by simp)).1
          have a9 : wr.cell? ⟨G, 9, none⟩ = some (.slice ia r.items.length ic) := (A1 9 (by simp)).1
          have RQ : Hid (RdReq wr r ⟨pa, ta, ia, pc, tc, ic⟩) := RdReq.mono (w := W) ⟨unhide HP, unhide HT, unhide HI⟩ hb
          clear hb hall A1
          go_wp2_with fail
          refine (specMasterOf_any r ⟨pa, ta, ia, pc, tc, ic⟩ _ RQ.out htl).mono ?_
          rintro e w9 ⟨rfl, hb9⟩
          have H9 := hide (bw_call HBI.out hb9)
          clear hb9
          go_wp2
          go_ret
          refine ⟨ret_bool (namesS_eq HO1.out HO2.out HO3.out HO4.out).symm, HBH.out.trans ((bw_alloc H9.out _).mono HBH.out.size)⟩
end Go.Proofs.YtcblpoeeembniabGreatDoor

/- The model's Class. -/
namespace Go.Proofs.YtcblpoeeembniabGreatDoor
open Go.RowKit
set_option linter.unusedVariables false
set_option linter.unusedSimpArgs false

theorem stands_not {p : PalletV} {t : TypeV} (h : p.wd < t.wd ∨ p.dp < t.dp ∨ p.ht < t.ht ∨ p.gram < t.tare + t.gram) : standsB p t = false := by
 cases e : standsB p t
 · rfl
 · exfalso
   simp [standsB] at e
   omega
theorem stands_ok {p : PalletV} {t : TypeV} (h1 : ¬ p.wd < t.wd) (h2 : ¬ p.dp < t.dp) (h3 : ¬ p.ht < t.ht) (h4 : ¬ p.gram < t.tare + t.gram) : standsB p t = true := by
 simp [standsB]
 omega
set_option maxHeartbeats 4000000 in
theorem specClass_any (r : ReqV) (h : ReqH) (w : World) (hr : RdReq w r h) (hs : r.small) :
 Calls Tryz.prog 25 #[reqVal r h] w fun e w' => e = .returned (.int .i64 (classI r)) ∧ Below w.heap.size w w' := by
 have hpl : r.pairs.length ≤ 1048600 := by unfold ReqV.small at hs; omega
 have htl : r.types.length ≤ 1048600 := by unfold ReqV.small at hs; omega
 have hil : r.items.length ≤ 1048600 := by unfold ReqV.small at hs; omega
 unfold reqVal
 obtain ⟨pa, ta, ia, pc, tc, ic⟩ := h
 dsimp only
 go_enter Tryz.func25, Tryz.ntmps25
 go_wp2_with fail
 generalize hW : (w.alloc (.cells #[.int .i64 r.way, .int .i64 r.pal.wd, .int .i64 r.pal.dp, .int .i64 r.pal.ht, .int .i64 r.pal.gram, .int .i64 r.classes, .slice pa r.pairs.length pc, .slice ta r.types.length tc, .int .i64 r.master, .slice ia r.items.length ic] 41)) = w1 at *
 obtain ⟨hb, Kaw1, zaw1⟩ := en1 hW
 have hb := unhide hb
 have Hw1 : Hid (Below w.heap.size w w1) := hb
 clear hb hW
 have Qrw1 : Hid (RdReq w1 r ⟨pa, ta, ia, pc, tc, ic⟩) := hr.mono Hw1.out
 obtain ⟨aw1_0, aw1_1, aw1_2, aw1_3, aw1_4, aw1_5, aw1_6, aw1_7, aw1_8, aw1_9⟩ := Blk.cs10 Kaw1.out
 refine (specBoundsOk_any r ⟨pa, ta, ia, pc, tc, ic⟩ _ Qrw1.out hs).mono ?_
 rintro e w2 ⟨rfl, hbw2⟩
 clear aw1_0 aw1_1 aw1_2 aw1_3 aw1_4 aw1_5 aw1_6 aw1_7 aw1_8 aw1_9
 have Hw2 : Hid (Below w.heap.size w w2) := Hw1.out.trans (hbw2.mono Hw1.out.size)
 have Kaw2 := hide (Blk.below hbw2 zaw1 Kaw1.out)
 have zaw2 : w.heap.size < w2.heap.size := Nat.lt_of_lt_of_le zaw1 hbw2.size
 have Qrw2 : Hid (RdReq w2 r ⟨pa, ta, ia, pc, tc, ic⟩) := Qrw1.out.mono hbw2
 clear Hw1 Kaw1 zaw1 Qrw1
 clear hbw2
 cases x1 : boundsB r
 · go_wp2
   go_ret
   exact ⟨ret_num (class_bounds x1).symm, unhide Hw2⟩
 have Hx1 := hide x1
 clear x1
 obtain ⟨aw2_0, aw2_1, aw2_2, aw2_3, aw2_4, aw2_5, aw2_6, aw2_7, aw2_8, aw2_9⟩ := Blk.cs10 Kaw2.out
 go_wp2_with fail
 refine (l5Names_any r ⟨pa, ta, ia, pc, tc, ic⟩ _ Qrw2.out hs).mono ?_
 rintro e w3 ⟨rfl, hbw3⟩
 clear aw2_0 aw2_1 aw2_2 aw2_3 aw2_4 aw2_5 aw2_6 aw2_7 aw2_8 aw2_9
 have Hw3 : Hid (Below w.heap.size w w3) := Hw2.out.trans (hbw3.mono Hw2.out.size)
 have Kaw3 := hide (Blk.below hbw3 zaw2 Kaw2.out)
 have zaw3 : w.heap.size < w3.heap.size := Nat.lt_of_lt_of_le zaw2 hbw3.size
 have Qrw3 : Hid (RdReq w3 r ⟨pa, ta, ia, pc, tc, ic⟩) := Qrw2.out.mono hbw3
 clear Hw2 Kaw2 zaw2 Qrw2
 clear hbw3
 cases x2 : namesB r
 · go_wp2
   go_ret
   exact ⟨ret_num (class_names Hx1.out x2).symm, unhide Hw3⟩
 have Hx2 := hide x2
 clear x2
 obtain ⟨aw3_0, aw3_1, aw3_2, aw3_3, aw3_4, aw3_5, aw3_6, aw3_7, aw3_8, aw3_9⟩ := Blk.cs10 Kaw3.out
 go_wp2_with fail
 refine (specTableOk_any _ _ _ r.pairs r.classes _ Qrw3.out.1 hpl).mono ?_
 rintro e w' ⟨rfl, hw⟩
 clear aw3_0 aw3_1 aw3_2 aw3_3 aw3_4 aw3_5 aw3_6 aw3_7 aw3_8 aw3_9
 subst w'
 cases x3 : tableB r.pairs r.classes
 · go_wp2
   go_ret
   exact ⟨ret_num (class_table Hx1.out Hx2.out x3).symm, unhide Hw3⟩
 have Hx3 := hide x3
 clear x3
 obtain ⟨aw3_0, aw3_1, aw3_2, aw3_3, aw3_4, aw3_5, aw3_6, aw3_7, aw3_8, aw3_9⟩ := Blk.cs10 Kaw3.out
 go_wp2_with fail
 refine (specMasterOf_any r ⟨pa, ta, ia, pc, tc, ic⟩ _ Qrw3.out htl).mono ?_
 rintro e w4 ⟨rfl, hbw4⟩
 clear aw3_0 aw3_1 aw3_2 aw3_3 aw3_4 aw3_5 aw3_6 aw3_7 aw3_8 aw3_9
 have Hw4 : Hid (Below w.heap.size w w4) := Hw3.out.trans (hbw4.mono Hw3.out.size)
 have Kaw4 := hide (Blk.below hbw4 zaw3 Kaw3.out)
 have zaw4 : w.heap.size < w4.heap.size := Nat.lt_of_lt_of_le zaw3 hbw4.size
 have Qrw4 : Hid (RdReq w4 r ⟨pa, ta, ia, pc, tc, ic⟩) := Qrw3.out.mono hbw4
 clear Hw3 Kaw3 zaw3 Qrw3
 clear hbw4
 obtain ⟨aw4_0, aw4_1, aw4_2, aw4_3, aw4_4, aw4_5, aw4_6, aw4_7, aw4_8, aw4_9⟩ := Blk.cs10 Kaw4.out
 go_wp2
 clear aw4_0 aw4_1 aw4_2 aw4_3 aw4_4 aw4_5 aw4_6 aw4_7 aw4_8 aw4_9
 generalize hW : (w4.alloc (.cells #[.int .i64 (masterV r).id, .int .i64 (masterV r).wd, .int .i64 (masterV r).ht, .int .i64 (masterV r).dp, .int .i64 (masterV r).tare, .int .i64 (masterV r).gram, .int .i64 (masterV r).cost] 54)) = w5 at *
 obtain ⟨hb, Ktw5, ztw5⟩ := en1 hW
 have hb := unhide hb
 have Hw5 : Hid (Below w.heap.size w w5) := Hw4.out.trans (hb.mono Hw4.out.size)
 have Kaw5 := hide (Blk.below hb zaw4 Kaw4.out)
 have zaw5 : w.heap.size < w5.heap.size := Nat.lt_of_lt_of_le zaw4 hb.size
 have Qrw5 : Hid (RdReq w5 r ⟨pa, ta, ia, pc, tc, ic⟩) := Qrw4.out.mono hb
 clear Hw4 Kaw4 zaw4 Qrw4
 clear hb hW
 have HN := hide (pal_nums r Hx1.out)
 have HI : Hid (RdR ItemV.cells 7 w5 ia r.items.length r.items) := Qrw5.out.2.2
 have HT : Hid (RdR TypeV.cells 7 w5 ta r.types.length r.types) := Qrw5.out.2.1
 clear Qrw5 hr
 have HUN : Hid (unitsB r = r.items.all (fitsM (masterV r))) := rfl
 generalize masterV r = m at *
 go_loopw [5] (fun i wr => ∃ k : Nat, k ≤ r.items.length ∧ i = .int .i64 (k : Int) ∧ (r.items.take k).all (fitsM m) = true ∧ Below w5.heap.size w5 wr) (fun i _ => r.items.length - (intOf i).toNat)
 case atStart => exact ⟨0, Nat.zero_le _, rfl, rfl, Below.refl _ _⟩
 case round =>
  obtain ⟨k, hk, rfl, hall, hb⟩ := hrel
  have A1 := Blk.below hb zaw5 Kaw5.out
  have T1 := Blk.below hb ztw5 Ktw5.out
  have a7 : wr.cell? ⟨w.heap.size, 7, none⟩ = some (.slice ta r.types.length tc) := (A1 7 (by simp)).1
  have a9 : wr.cell? ⟨w.heap.size, 9, none⟩ = some (.slice ia r.items.length ic) := (A1 9 (by simp)).1
  obtain ⟨t0, t1, t2, t3, t4, t5, t6⟩ := Blk.cs7 T1
  have HBB := hide hb
  by_cases hlt : k < r.items.length
  · obtain ⟨b, off, rfl, hc⟩ := HI.out.2 k hlt
    have HST := hide (all_step (fitsM m) r.items k hlt hall)
    have HFE := hide (all_fell (fitsM m) r.items k hlt)
    generalize r.items.getD k default = q at hc HST HFE
    have d0 : wr.cell? ⟨b, off + k * 7, none⟩ = some (.int .i64 q.id) := (hb.cell (World.block_lt_of_cell? _ _ (hc 0 (by omega)))).trans (hc 0 (by omega))
    have d1 : wr.cell? ⟨b, off + k * 7 + 1, none⟩ = some (.int .i64 q.wd) := (hb.cell (World.block_lt_of_cell? _ _ (hc 1 (by omega)))).trans (hc 1 (by omega))
    have d2 : wr.cell? ⟨b, off + k * 7 + 2, none⟩ = some (.int .i64 q.ht) := (hb.cell (World.block_lt_of_cell? _ _ (hc 2 (by omega)))).trans (hc 2 (by omega))
    have d3 : wr.cell? ⟨b, off + k * 7 + 3, none⟩ = some (.int .i64 q.dp) := (hb.cell (World.block_lt_of_cell? _ _ (hc 3 (by omega)))).trans (hc 3 (by omega))
    have d4 : wr.cell? ⟨b, off + k * 7 + 4, none⟩ = some (.int .i64 q.gram) := (hb.cell (World.block_lt_of_cell? _ _ (hc 4 (by omega)))).trans (hc 4 (by omega))
    have d5 : wr.cell? ⟨b, off + k * 7 + 5, none⟩ = some (.int .i64 q.cls) := (hb.cell (World.block_lt_of_cell? _ _ (hc 5 (by omega)))).trans (hc 5 (by omega))
    have d6 : wr.cell? ⟨b, off + k * 7 + 6, none⟩ = some (.int .i64 q.cnt) := (hb.cell (World.block_lt_of_cell? _ _ (hc 6 (by omega)))).trans (hc 6 (by omega))
    have KS : Hid (∀ w', Below wr.heap.size wr w' → (w'.cell? ⟨w.heap.size, 9, none⟩ = some (.slice (some ⟨b, off, none⟩) r.items.length ic) ∧ w'.cell? ⟨b, off + k * 7, none⟩ = some (.int .i64 q.id) ∧ w'.cell? ⟨b, off + k * 7 + 1, none⟩ = some (.int .i64 q.wd) ∧ w'.cell? ⟨b, off + k * 7 + 2, none⟩ = some (.int .i64 q.ht) ∧ w'.cell? ⟨b, off + k * 7 + 3, none⟩ = some (.int .i64 q.dp) ∧ w'.cell? ⟨b, off + k * 7 + 4, none⟩ = some (.int .i64 q.gram) ∧ w'.cell? ⟨b, off + k * 7 + 5, none⟩ = some (.int .i64 q.cls) ∧ w'.cell? ⟨b, off + k * 7 + 6, none⟩ = some (.int .i64 q.cnt) ∧ w'.cell? ⟨w4.heap.size, 0, none⟩ = some (.int .i64 m.id) ∧ w'.cell? ⟨w4.heap.size, 1, none⟩ = some (.int .i64 m.wd) ∧ w'.cell? ⟨w4.heap.size, 2, none⟩ = some (.int .i64 m.ht) ∧ w'.cell? ⟨w4.heap.size, 3, none⟩ = some (.int .i64 m.dp) ∧ w'.cell? ⟨w4.heap.size, 4, none⟩ = some (.int .i64 m.tare) ∧ w'.cell? ⟨w4.heap.size, 5, none⟩ = some (.int .i64 m.gram) ∧ w'.cell? ⟨w4.heap.size, 6, none⟩ = some (.int .i64 m.cost))) := by
     intro w' hb2
     have lk : ∀ {x : Addr} {v : Value}, wr.cell? x = some v → w'.cell? x = some v := fun {x v} hx => (hb2.cell (World.block_lt_of_cell? wr _ hx)).trans hx
     exact ⟨lk a9, lk d0, lk d1, lk d2, lk d3, lk d4, lk d5, lk d6, lk t0, lk t1, lk t2, lk t3, lk t4, lk t5, lk t6⟩
    clear hc hb hall A1 T1
    go_wp2
    go_region_held3 (fun w' => w'.cell? ⟨w.heap.size, 9, none⟩ = some (.slice (some ⟨b, off, none⟩) r.items.length ic) ∧ w'.cell? ⟨b, off + k * 7, none⟩ = some (.int .i64 q.id) ∧ w'.cell? ⟨b, off + k * 7 + 1, none⟩ = some (.int .i64 q.wd) ∧ w'.cell? ⟨b, off + k * 7 + 2, none⟩ = some (.int .i64 q.ht) ∧ w'.cell? ⟨b, off + k * 7 + 3, none⟩ = some (.int .i64 q.dp) ∧ w'.cell? ⟨b, off + k * 7 + 4, none⟩ = some (.int .i64 q.gram) ∧ w'.cell? ⟨b, off + k * 7 + 5, none⟩ = some (.int .i64 q.cls) ∧ w'.cell? ⟨b, off + k * 7 + 6, none⟩ = some (.int .i64 q.cnt) ∧ w'.cell? ⟨w4.heap.size, 0, none⟩ = some (.int .i64 m.id) ∧ w'.cell? ⟨w4.heap.size, 1, none⟩ = some (.int .i64 m.wd) ∧ w'.cell? ⟨w4.heap.size, 2, none⟩ = some (.int .i64 m.ht) ∧ w'.cell? ⟨w4.heap.size, 3, none⟩ = some (.int .i64 m.dp) ∧ w'.cell? ⟨w4.heap.size, 4, none⟩ = some (.int .i64 m.tare) ∧ w'.cell? ⟨w4.heap.size, 5, none⟩ = some (.int .i64 m.gram) ∧ w'.cell? ⟨w4.heap.size, 6, none⟩ = some (.int .i64 m.cost)) (first | exact KS.out _ (Below.refl _ _).drew | exact KS.out _ B9.out) ((go_at_call 52; go_must (refine (specFits_any q m _).mono ?_; rintro e w9 ⟨rfl, hb9⟩; have B9 : Hid (Below wr.heap.size wr w9) := bw_call (W := wr) (by exact (Below.refl _ _).drew) hb9; clear hb9)))
    cases hf : fitsB q m
    · have HF := hide (HFE.out hf)
      go_wp2
      go_ret
      refine ⟨ret_num (class_units Hx1.out Hx2.out Hx3.out ?_).symm, ?_⟩
      · rw [unhide HUN, unhide HF]
      · exact Hw5.out.trans ((bw_call HBB.out B9.out).mono Hw5.out.size)
    · have HF := hide (HST.out hf)
      go_wp2
      go_roundw
      case rel => exact ⟨k + 1, by omega, by go_num, unhide HF, bw_call HBB.out B9.out⟩
      case measure => simp [intOf]; omega
  · have hIA := all_whole (fitsM m) r.items k (by omega) hall
    have HX4 : Hid (unitsB r = true) := by rw [Hid, unhide HUN]; exact hIA
    clear hb hall A1 T1 hIA HUN
    obtain ⟨wo, rfl⟩ : ∃ wo : World, wo = wr := ⟨_, rfl⟩
    go_wp2
    go_loopw [6] (fun i wr => ∃ k : Nat, k ≤ r.types.length ∧ i = .int .i64 (k : Int) ∧ (r.types.take k).all (standsB r.pal) = true ∧ Below w5.heap.size w5 wr) (fun i _ => r.types.length - (intOf i).toNat)
    case atStart => exact ⟨0, Nat.zero_le _, rfl, rfl, unhide HBB⟩
    case round =>
     clear hlt a7 a9 t0 t1 t2 t3 t4 t5 t6 HBB
     obtain ⟨j, hj, rfl, hall, hb⟩ := hrel
     have A1 := Blk.below hb zaw5 Kaw5.out
     have a1 : wr.cell? ⟨w.heap.size, 1, none⟩ = some (.int .i64 r.pal.wd) := (A1 1 (by simp)).1
     have a2 : wr.cell? ⟨w.heap.size, 2, none⟩ = some (.int .i64 r.pal.dp) := (A1 2 (by simp)).1
     have a3 : wr.cell? ⟨w.heap.size, 3, none⟩ = some (.int .i64 r.pal.ht) := (A1 3 (by simp)).1
     have a4 : wr.cell? ⟨w.heap.size, 4, none⟩ = some (.int .i64 r.pal.gram) := (A1 4 (by simp)).1
     have a7 : wr.cell? ⟨w.heap.size, 7, none⟩ = some (.slice ta r.types.length tc) := (A1 7 (by simp)).1
     have z0 : w.heap.size < wr.heap.size := Nat.lt_of_lt_of_le zaw5 hb.size
     have HBB := hide hb
     by_cases hlt : j < r.types.length
     · obtain ⟨b, off, rfl, hc⟩ := HT.out.2 j hlt
       have HST := hide (all_step (standsB r.pal) r.types j hlt hall)
       have HFE := hide (all_fell (standsB r.pal) r.types j hlt)
       have hq := HN.out (r.types.getD j default) (mem_getD r.types j hlt)
       generalize r.types.getD j default = q at hc HST HFE hq
       obtain ⟨n1, n2, n3, n4⟩ := hq
       have d0 : wr.cell? ⟨b, off + j * 7, none⟩ = some (.int .i64 q.id) := (hb.cell (World.block_lt_of_cell? _ _ (hc 0 (by omega)))).trans (hc 0 (by omega))
       have d1 : wr.cell? ⟨b, off + j * 7 + 1, none⟩ = some (.int .i64 q.wd) := (hb.cell (World.block_lt_of_cell? _ _ (hc 1 (by omega)))).trans (hc 1 (by omega))
       have d2 : wr.cell? ⟨b, off + j * 7 + 2, none⟩ = some (.int .i64 q.ht) := (hb.cell (World.block_lt_of_cell? _ _ (hc 2 (by omega)))).trans (hc 2 (by omega))
       have d3 : wr.cell? ⟨b, off + j * 7 + 3, none⟩ = some (.int .i64 q.dp) := (hb.cell (World.block_lt_of_cell? _ _ (hc 3 (by omega)))).trans (hc 3 (by omega))
       have d4 : wr.cell? ⟨b, off + j * 7 + 4, none⟩ = some (.int .i64 q.tare) := (hb.cell (World.block_lt_of_cell? _ _ (hc 4 (by omega)))).trans (hc 4 (by omega))
       have d5 : wr.cell? ⟨b, off + j * 7 + 5, none⟩ = some (.int .i64 q.gram) := (hb.cell (World.block_lt_of_cell? _ _ (hc 5 (by omega)))).trans (hc 5 (by omega))
       have d6 : wr.cell? ⟨b, off + j * 7 + 6, none⟩ = some (.int .i64 q.cost) := (hb.cell (World.block_lt_of_cell? _ _ (hc 6 (by omega)))).trans (hc 6 (by omega))
       clear hc hb hall A1
       by_cases g1 : r.pal.wd < q.wd
       · have HF := hide (HFE.out (stands_not (Or.inl g1)))
         go_wp2
         go_ret
         exact ⟨ret_num (class_loads Hx1.out Hx2.out Hx3.out HX4.out HF.out).symm, Hw5.out.trans ((bw_alloc HBB.out _).mono Hw5.out.size)⟩
       by_cases g2 : r.pal.dp < q.dp
       · have HF := hide (HFE.out (stands_not (Or.inr (Or.inl g2))))
         go_wp2
         go_ret
         exact ⟨ret_num (class_loads Hx1.out Hx2.out Hx3.out HX4.out HF.out).symm, Hw5.out.trans ((bw_alloc HBB.out _).mono Hw5.out.size)⟩
       by_cases g3 : r.pal.ht < q.ht
       · have HF := hide (HFE.out (stands_not (Or.inr (Or.inr (Or.inl g3)))))
         go_wp2
         go_ret
         exact ⟨ret_num (class_loads Hx1.out Hx2.out Hx3.out HX4.out HF.out).symm, Hw5.out.trans ((bw_alloc HBB.out _).mono Hw5.out.size)⟩
       by_cases g4 : r.pal.gram < q.tare + q.gram
       · have HF := hide (HFE.out (stands_not (Or.inr (Or.inr (Or.inr g4)))))
         go_wp2
         go_ret
         exact ⟨ret_num (class_loads Hx1.out Hx2.out Hx3.out HX4.out HF.out).symm, Hw5.out.trans ((bw_alloc HBB.out _).mono Hw5.out.size)⟩
       · have HF := hide (HST.out (stands_ok g1 g2 g3 g4))
         go_wp2
         go_roundw
         case rel => exact ⟨j + 1, by omega, by go_num, unhide HF, bw_alloc HBB.out _⟩
         case measure => simp [intOf]; omega
     · have hIA := all_whole (standsB r.pal) r.types j (by omega) hall
       have HX5 : Hid (loadsB r = true) := hIA
       clear hIA hall
       go_wp2
       go_ret
       exact ⟨ret_num (class_none Hx1.out Hx2.out Hx3.out HX4.out HX5.out).symm, Hw5.out.trans (hb.mono Hw5.out.size)⟩
end Go.Proofs.YtcblpoeeembniabGreatDoor
