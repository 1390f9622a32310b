/- The model's Class. -/
import Derived.Test.YtlakbnpinennnaaGreatDoorClassPlain
import Derived.Test.YtlakbnpinennnaaGreatDoorSpecBounds
import Derived.Test.YtlakbnpinennnaaGreatDoorTableEnd
import Derived.Test.YtlakbnpinennnaaGreatDoorFitsSpec
import Derived.Deep.RegionHeld3
import Derived.Deep.DeepMust
namespace Go.Proofs.YtlakbnpinennnaaGreatDoor
open Go.RowKit
set_option linter.unusedVariables false
set_option linter.unusedSimpArgs false

theorem hasI_step (l : List Int) (k : Nat) (x : Int) (h : k < l.length) (h0 : hasI (l.take k) x = false) (h1 : (l.getD k 0 == x) = false) : hasI (l.take (k + 1)) x = false := by
  have hg : l.getD k 0 = l[k] := by simp [h]
  rw [hg] at h1
  unfold hasI at *
  rw [List.take_succ_eq_append_getElem h, List.any_append, h0]
  simp [h1]
theorem hasI_hit (l : List Int) (k i : Nat) (x : Int) (hki : k < i) (h : i ≤ l.length) (h1 : (l.getD k 0 == x) = true) : hasI (l.take i) x = true := by
  rw [hasI_iff]
  have hg : l.getD k 0 = l[k] := by simp [show k < l.length by omega]
  rw [hg, beq_iff_eq] at h1
  rw [← h1]
  exact List.mem_take_iff_getElem.2 ⟨k, by omega, rfl⟩
theorem idT_at (ts : List TypeV) (k : Nat) (h : k < ts.length) : (idsT ts).getD k 0 = (ts.getD k default).id := by simp [idsT, h]
theorem idI_at (ts : List ItemV) (k : Nat) (h : k < ts.length) : (idsI ts).getD k 0 = (ts.getD k default).id := by simp [idsI, h]
theorem namesS_no {r : ReqV} (h : masterB r = false ∨ onceB (idsT r.types) = false ∨ onceB (idsI r.items) = false ∨ r.items.all (kindItem r.classes) = false ∨ r.pairs.all (kindPair r.classes) = false) : namesB r = false := by
  rcases h with h | h | h | h | h <;> simp [namesB, kindsB, h]
theorem namesS_eq {r : ReqV} (h1 : onceB (idsT r.types) = true) (h2 : onceB (idsI r.items) = true) (h3 : r.items.all (kindItem r.classes) = true) (h4 : r.pairs.all (kindPair r.classes) = true) : namesB r = masterB r := by simp [namesB, kindsB, h1, h2, h3, h4]
set_option maxHeartbeats 4000000 in
theorem l5Names_any (r : ReqV) (h : ReqH) (w : World) (hr : RdReq w r h) (hs : r.small) :
    Calls Tryz.prog 46 #[reqVal r h] w fun e w' => e = .returned (.bool (namesB r)) ∧ Below w.heap.size w w' := by
  have htl : r.types.length ≤ 1048600 := by unfold ReqV.small at hs; omega
  unfold ReqV.small at hs
  unfold reqVal
  obtain ⟨hp0, ht0, hi0⟩ := hr
  obtain ⟨pa, ta, ia, pc, tc, ic⟩ := h
  dsimp only at hp0 ht0 hi0 ⊢
  go_enter Tryz.func46, Tryz.ntmps46
  go_wp2
  have HX : Blk (w.alloc (.cells #[.int .i64 r.way, .int .i64 r.pal.wd, .int .i64 r.pal.dp, .int .i64 r.pal.ht, .int .i64 r.pal.gram, .int .i64 r.classes, .slice pa r.pairs.length pc, .slice ta r.types.length tc, .int .i64 r.master, .slice ia r.items.length ic] 30)) w.heap.size [.int .i64 r.way, .int .i64 r.pal.wd, .int .i64 r.pal.dp, .int .i64 r.pal.ht, .int .i64 r.pal.gram, .int .i64 r.classes, .slice pa r.pairs.length pc, .slice ta r.types.length tc, .int .i64 r.master, .slice ia r.items.length ic] := Blk.allocAt [.int .i64 r.way, .int .i64 r.pal.wd, .int .i64 r.pal.dp, .int .i64 r.pal.ht, .int .i64 r.pal.gram, .int .i64 r.classes, .slice pa r.pairs.length pc, .slice ta r.types.length tc, .int .i64 r.master, .slice ia r.items.length ic] rfl
  have HB : Below w.heap.size w (w.alloc (.cells #[.int .i64 r.way, .int .i64 r.pal.wd, .int .i64 r.pal.dp, .int .i64 r.pal.ht, .int .i64 r.pal.gram, .int .i64 r.classes, .slice pa r.pairs.length pc, .slice ta r.types.length tc, .int .i64 r.master, .slice ia r.items.length ic] 30)) := (Below.refl w.heap.size w).alloc (Nat.le_refl _) _
  have lt0 : w.heap.size < (w.alloc (.cells #[.int .i64 r.way, .int .i64 r.pal.wd, .int .i64 r.pal.dp, .int .i64 r.pal.ht, .int .i64 r.pal.gram, .int .i64 r.classes, .slice pa r.pairs.length pc, .slice ta r.types.length tc, .int .i64 r.master, .slice ia r.items.length ic] 30)).heap.size := by simp
  have HI : Hid (RdR ItemV.cells 7 (w.alloc (.cells #[.int .i64 r.way, .int .i64 r.pal.wd, .int .i64 r.pal.dp, .int .i64 r.pal.ht, .int .i64 r.pal.gram, .int .i64 r.classes, .slice pa r.pairs.length pc, .slice ta r.types.length tc, .int .i64 r.master, .slice ia r.items.length ic] 30)) ia r.items.length r.items) := hi0.mono (by omega) ItemV.len HB
  have HP : Hid (RdR PairV.cells 2 (w.alloc (.cells #[.int .i64 r.way, .int .i64 r.pal.wd, .int .i64 r.pal.dp, .int .i64 r.pal.ht, .int .i64 r.pal.gram, .int .i64 r.classes, .slice pa r.pairs.length pc, .slice ta r.types.length tc, .int .i64 r.master, .slice ia r.items.length ic] 30)) pa r.pairs.length r.pairs) := hp0.mono (by omega) PairV.len HB
  have HT : Hid (RdR TypeV.cells 7 (w.alloc (.cells #[.int .i64 r.way, .int .i64 r.pal.wd, .int .i64 r.pal.dp, .int .i64 r.pal.ht, .int .i64 r.pal.gram, .int .i64 r.classes, .slice pa r.pairs.length pc, .slice ta r.types.length tc, .int .i64 r.master, .slice ia r.items.length ic] 30)) ta r.types.length r.types) := ht0.mono (by omega) TypeV.len HB
  generalize (w.alloc (.cells #[.int .i64 r.way, .int .i64 r.pal.wd, .int .i64 r.pal.dp, .int .i64 r.pal.ht, .int .i64 r.pal.gram, .int .i64 r.classes, .slice pa r.pairs.length pc, .slice ta r.types.length tc, .int .i64 r.master, .slice ia r.items.length ic] 30)) = W at *
  obtain ⟨G, hG⟩ : ∃ G, G = w.heap.size := ⟨_, rfl⟩
  rw [← hG] at HX lt0 ⊢
  have HG := hide hG
  have HBH := hide HB
  have HXX := hide HX
  clear hG HB HX hp0 hi0 ht0
  go_loopw [3] (fun v wr => ∃ i : Nat, i ≤ r.types.length ∧ v = .int .i64 (i : Int) ∧ (List.range i).all (onceAt (idsT r.types)) = true ∧ Below W.heap.size W wr) (fun v _ => r.types.length - (intOf v).toNat)
  case atStart => exact ⟨0, Nat.zero_le _, rfl, rfl, Below.refl _ _⟩
  case round =>
    obtain ⟨i, hi, rfl, hall, hb⟩ := hrel
    have A1 := Blk.below hb lt0 (unhide HXX)
    have a7 : wr.cell? ⟨G, 7, none⟩ = some (.slice ta r.types.length tc) := (A1 7 (by simp)).1
    have HBI := hide hb
    have HALL := hide hall
    clear hb hall A1
    by_cases hlt : i < r.types.length
    · skip
      obtain ⟨wo, rfl⟩ : ∃ wo : World, wo = wr := ⟨_, rfl⟩
      go_wp2
      go_loopw [4] (fun j wq => ∃ k : Nat, k ≤ i ∧ j = .int .i64 (k : Int) ∧ hasI ((idsT r.types).take k) ((idsT r.types).getD i 0) = false ∧ Below W.heap.size W wq) (fun j _ => i - (intOf j).toNat)
      case atStart => exact ⟨0, Nat.zero_le _, rfl, rfl, HBI.out⟩
      case round =>
        obtain ⟨k, hk, rfl, hno, hb⟩ := hrel
        have A1 := Blk.below hb lt0 (unhide HXX)
        have a7 : wr.cell? ⟨G, 7, none⟩ = some (.slice ta r.types.length tc) := (A1 7 (by simp)).1
        have HBB := hide hb
        by_cases hki : k < i
        · have hk2 : k < r.types.length := by omega
          have HSTEP := hide (fun h1 => hasI_step (idsT r.types) k ((idsT r.types).getD i 0) (by rw [idsT_len]; exact hk2) hno h1)
          have HHIT := hide (fun h1 => hasI_hit (idsT r.types) k i ((idsT r.types).getD i 0) hki (by rw [idsT_len]; omega) h1)
          rw [idT_at r.types k hk2, idT_at r.types i hlt] at HSTEP HHIT
          obtain ⟨b, off, rfl, hci⟩ := (unhide HT).2 i hlt
          obtain ⟨b2, off2, hbo, hck⟩ := (unhide HT).2 k hk2
          simp only [Option.some.injEq, Addr.mk.injEq] at hbo
          obtain ⟨rfl, rfl, _⟩ := hbo
          have HOI : Hid ((idsT r.types).getD i 0 = (r.types.getD i default).id) := idT_at r.types i hlt
          generalize r.types.getD i default = p at hci HSTEP HHIT HOI
          generalize r.types.getD k default = q at hck HSTEP HHIT
          have d0 : wr.cell? ⟨b, off + i * 7, none⟩ = some (.int .i64 p.id) := (hb.cell (World.block_lt_of_cell? _ _ (hci 0 (by omega)))).trans (hci 0 (by omega))
          have e0 : wr.cell? ⟨b, off + k * 7, none⟩ = some (.int .i64 q.id) := (hb.cell (World.block_lt_of_cell? _ _ (hck 0 (by omega)))).trans (hck 0 (by omega))
          clear hci hck hb A1 hno
          cases hid : (q.id == p.id)
          · have HS2 := hide ((unhide HSTEP) hid)
            have hid2 : (p.id == q.id) = false := by rw [flip_beq]; exact hid
            clear HSTEP HHIT
            go_wp2
            go_quiet (fail)
            go_wp2
            go_roundw
            case rel => exact ⟨k + 1, by omega, by go_num, by rw [unhide HOI]; exact unhide HS2, below_drewN (unhide HBB) _⟩
            case measure => simp [intOf]; omega
          · have HS2 := hide ((unhide HHIT) hid)
            have hid2 : (p.id == q.id) = true := by rw [flip_beq]; exact hid
            clear HSTEP HHIT
            go_wp2
            go_quiet (fail)
            go_wp2
            go_ret
            refine ⟨ret_bool (namesS_no (Or.inr <| Or.inl (onceB_miss _ i (by rw [idsT_len]; exact hlt) ?_))).symm, (unhide HBH).trans ((below_drewN (unhide HBB) _).mono (unhide HBH).size)⟩
            unfold onceAt
            rw [unhide HOI, unhide HS2]
            rfl
        · have hki2 : k = i := by omega
          subst hki2
          go_wp2
          go_roundw
          case rel => exact ⟨k + 1, by omega, by go_num, onceB_step _ k (unhide HALL) (by unfold onceAt; rw [hno]; rfl), hb⟩
          case measure => simp [intOf]; omega
    · have HO1 : Hid (onceB (idsT r.types) = true) := by unfold onceB Hid; rw [idsT_len, show r.types.length = i by omega]; exact unhide HALL
      clear HALL
      obtain ⟨wo, rfl⟩ : ∃ wo : World, wo = wr := ⟨_, rfl⟩
      go_wp2
      go_loopw [5] (fun v wr => ∃ i : Nat, i ≤ r.items.length ∧ v = .int .i64 (i : Int) ∧ (List.range i).all (onceAt (idsI r.items)) = true ∧ (r.items.take i).all (kindItem r.classes) = true ∧ Below W.heap.size W wr) (fun v _ => r.items.length - (intOf v).toNat)
      case atStart => exact ⟨0, Nat.zero_le _, rfl, rfl, rfl, unhide HBI⟩
      case round =>
        clear hlt a7 HBI
        obtain ⟨i, hi, rfl, hall, hkin, hb⟩ := hrel
        have A1 := Blk.below hb lt0 (unhide HXX)
        have a5 : wr.cell? ⟨G, 5, none⟩ = some (.int .i64 r.classes) := (A1 5 (by simp)).1
        have a9 : wr.cell? ⟨G, 9, none⟩ = some (.slice ia r.items.length ic) := (A1 9 (by simp)).1
        have HBI := hide hb
        have HALL := hide hall
        have HKIN := hide hkin
        by_cases hlt : i < r.items.length
        · have HST := hide (all_step (kindItem r.classes) r.items i hlt hkin)
          have HFE := hide (all_fell (kindItem r.classes) r.items i hlt)
          have HCQ : Hid (∃ b off, ia = some ⟨b, off, none⟩ ∧ wr.cell? ⟨b, off + i * 7 + 5, none⟩ = some (.int .i64 (r.items.getD i default).cls)) := by
            obtain ⟨b, off, hbo, hc⟩ := (unhide HI).2 i hlt
            exact ⟨b, off, hbo, (hb.cell (World.block_lt_of_cell? _ _ (hc 5 (by omega)))).trans (hc 5 (by omega))⟩
          have HKQ : Hid (kindItem r.classes (r.items.getD i default) = decide ((r.items.getD i default).cls < r.classes)) := rfl
          generalize (r.items.getD i default).cls = qc at HKQ HCQ
          obtain ⟨b, off, hbo, d5⟩ := unhide HCQ
          rw [hbo] at a9
          clear HCQ hbo hb hall hkin A1
          by_cases hge : r.classes ≤ qc
          · have HF := hide ((unhide HFE) (by rw [unhide HKQ]; simp; omega))
            go_wp2
            go_quiet (fail)
            go_wp2
            go_ret
            exact ⟨ret_bool (namesS_no (Or.inr <| Or.inr <| Or.inr <| Or.inl (unhide HF))).symm, (unhide HBH).trans ((below_drewN (unhide HBI) _).mono (unhide HBH).size)⟩
          · have HF := hide ((unhide HST) (by rw [unhide HKQ]; simp; omega))
            go_wp2
            go_quiet (fail)
            go_wp2
            clear HST HFE HKQ d5
            obtain ⟨wo, rfl⟩ : ∃ wo : World, wo = wr := ⟨_, rfl⟩
            go_wp2
            go_loopw [6] (fun j wq => ∃ k : Nat, k ≤ i ∧ j = .int .i64 (k : Int) ∧ hasI ((idsI r.items).take k) ((idsI r.items).getD i 0) = false ∧ Below W.heap.size W wq) (fun j _ => i - (intOf j).toNat)
            case atStart => exact ⟨0, Nat.zero_le _, rfl, rfl, below_drewN (unhide HBI) _⟩
            case round =>
              obtain ⟨k, hk, rfl, hno, hb⟩ := hrel
              have A1 := Blk.below hb lt0 (unhide HXX)
              have a9 : wr.cell? ⟨G, 9, none⟩ = some (.slice ia r.items.length ic) := (A1 9 (by simp)).1
              have HBB := hide hb
              by_cases hki : k < i
              · have hk2 : k < r.items.length := by omega
                have HSTEP := hide (fun h1 => hasI_step (idsI r.items) k ((idsI r.items).getD i 0) (by rw [idsI_len]; exact hk2) hno h1)
                have HHIT := hide (fun h1 => hasI_hit (idsI r.items) k i ((idsI r.items).getD i 0) hki (by rw [idsI_len]; omega) h1)
                rw [idI_at r.items k hk2, idI_at r.items i hlt] at HSTEP HHIT
                obtain ⟨b, off, rfl, hci⟩ := (unhide HI).2 i hlt
                obtain ⟨b2, off2, hbo, hck⟩ := (unhide HI).2 k hk2
                simp only [Option.some.injEq, Addr.mk.injEq] at hbo
                obtain ⟨rfl, rfl, _⟩ := hbo
                have HOI : Hid ((idsI r.items).getD i 0 = (r.items.getD i default).id) := idI_at r.items i hlt
                generalize r.items.getD i default = p at hci HSTEP HHIT HOI
                generalize r.items.getD k default = q at hck HSTEP HHIT
                have d0 : wr.cell? ⟨b, off + i * 7, none⟩ = some (.int .i64 p.id) := (hb.cell (World.block_lt_of_cell? _ _ (hci 0 (by omega)))).trans (hci 0 (by omega))
                have e0 : wr.cell? ⟨b, off + k * 7, none⟩ = some (.int .i64 q.id) := (hb.cell (World.block_lt_of_cell? _ _ (hck 0 (by omega)))).trans (hck 0 (by omega))
                clear hci hck hb A1 hno
                cases hid : (q.id == p.id)
                · have HS2 := hide ((unhide HSTEP) hid)
                  have hid2 : (p.id == q.id) = false := by rw [flip_beq]; exact hid
                  clear HSTEP HHIT
                  go_wp2
                  go_quiet (fail)
                  go_wp2
                  go_roundw
                  case rel => exact ⟨k + 1, by omega, by go_num, by rw [unhide HOI]; exact unhide HS2, below_drewN (unhide HBB) _⟩
                  case measure => simp [intOf]; omega
                · have HS2 := hide ((unhide HHIT) hid)
                  have hid2 : (p.id == q.id) = true := by rw [flip_beq]; exact hid
                  clear HSTEP HHIT
                  go_wp2
                  go_quiet (fail)
                  go_wp2
                  go_ret
                  refine ⟨ret_bool (namesS_no (Or.inr <| Or.inr <| Or.inl (onceB_miss _ i (by rw [idsI_len]; exact hlt) ?_))).symm, (unhide HBH).trans ((below_drewN (unhide HBB) _).mono (unhide HBH).size)⟩
                  unfold onceAt
                  rw [unhide HOI, unhide HS2]
                  rfl
              · have hki2 : k = i := by omega
                subst hki2
                go_wp2
                go_roundw
                case rel => exact ⟨k + 1, by omega, by go_num, onceB_step _ k (unhide HALL) (by unfold onceAt; rw [hno]; rfl), unhide HF, hb⟩
                case measure => simp [intOf]; omega
        · have HO2 : Hid (onceB (idsI r.items) = true) := by unfold onceB Hid; rw [idsI_len, show r.items.length = i by omega]; exact unhide HALL
          have HO3 := hide (all_whole (kindItem r.classes) r.items i (by omega) hkin)
          clear HALL HKIN hb hall hkin A1
          obtain ⟨wo, rfl⟩ : ∃ wo : World, wo = wr := ⟨_, rfl⟩
          go_wp2
          go_loopw [7] (fun v wr => ∃ i : Nat, i ≤ r.pairs.length ∧ v = .int .i64 (i : Int) ∧ (r.pairs.take i).all (kindPair r.classes) = true ∧ Below W.heap.size W wr) (fun v _ => r.pairs.length - (intOf v).toNat)
          case atStart => exact ⟨0, Nat.zero_le _, rfl, rfl, unhide HBI⟩
          case round =>
            clear hlt a5 a9 HBI
            obtain ⟨j, hj, rfl, hall, hb⟩ := hrel
            have A1 := Blk.below hb lt0 (unhide HXX)
            have a5 : wr.cell? ⟨G, 5, none⟩ = some (.int .i64 r.classes) := (A1 5 (by simp)).1
            have a6 : wr.cell? ⟨G, 6, none⟩ = some (.slice pa r.pairs.length pc) := (A1 6 (by simp)).1
            have z0 : G < wr.heap.size := Nat.lt_of_lt_of_le lt0 hb.size
            have HBI := hide hb
            by_cases hlt : j < r.pairs.length
            · obtain ⟨b, off, rfl, hc⟩ := (unhide HP).2 j hlt
              have HST := hide (all_step (kindPair r.classes) r.pairs j hlt hall)
              have HFE := hide (all_fell (kindPair r.classes) r.pairs j hlt)
              generalize r.pairs.getD j default = q at hc HST HFE
              have d0 : wr.cell? ⟨b, off + j * 2, none⟩ = some (.int .i64 q.a) := (hb.cell (World.block_lt_of_cell? _ _ (hc 0 (by omega)))).trans (hc 0 (by omega))
              have d1 : wr.cell? ⟨b, off + j * 2 + 1, none⟩ = some (.int .i64 q.b) := (hb.cell (World.block_lt_of_cell? _ _ (hc 1 (by omega)))).trans (hc 1 (by omega))
              clear hc hb hall A1
              have HKQ : Hid (kindPair r.classes q = (decide (q.a < r.classes) && decide (q.b < r.classes))) := rfl
              by_cases hga : r.classes ≤ q.a
              · have HF := hide ((unhide HFE) (by rw [unhide HKQ]; simp; omega))
                have hd : decide (r.classes ≤ q.a) = true := by simpa using hga
                go_wp2
                go_quiet (fail)
                go_wp2
                go_ret
                exact ⟨ret_bool (namesS_no (Or.inr <| Or.inr <| Or.inr <| Or.inr (unhide HF))).symm, (unhide HBH).trans ((below_drewN (unhide HBI) _).mono (unhide HBH).size)⟩
              · have hd : decide (r.classes ≤ q.a) = false := by simpa using hga
                by_cases hgb : r.classes ≤ q.b
                · have HF := hide ((unhide HFE) (by rw [unhide HKQ]; simp; omega))
                  go_wp2
                  go_quiet (fail)
                  go_wp2
                  go_ret
                  exact ⟨ret_bool (namesS_no (Or.inr <| Or.inr <| Or.inr <| Or.inr (unhide HF))).symm, (unhide HBH).trans ((below_drewN (unhide HBI) _).mono (unhide HBH).size)⟩
                · have HF := hide ((unhide HST) (by rw [unhide HKQ]; simp; omega))
                  go_wp2
                  go_quiet (fail)
                  go_wp2
                  go_roundw
                  case rel => exact ⟨j + 1, by omega, by go_num, unhide HF, below_drewN (unhide HBI) _⟩
                  case measure => simp [intOf]; omega
            · have HO4 := hide (all_whole (kindPair r.classes) r.pairs j (by omega) hall)
              have a0 : wr.cell? ⟨G, 0, none⟩ = some (.int .i64 r.way) := (A1 0 (by simp)).1
              have a1 : wr.cell? ⟨G, 1, none⟩ = some (.int .i64 r.pal.wd) := (A1 1 (by simp)).1
              have a2 : wr.cell? ⟨G, 2, none⟩ = some (.int .i64 r.pal.dp) := (A1 2 (by simp)).1
              have a3 : wr.cell? ⟨G, 3, none⟩ = some (.int .i64 r.pal.ht) := (A1 3 (by simp)).1
              have a4 : wr.cell? ⟨G, 4, none⟩ = some (.int .i64 r.pal.gram) := (A1 4 (by simp)).1
              have a7 : wr.cell? ⟨G, 7, none⟩ = some (.slice ta r.types.length tc) := (A1 7 (by simp)).1
              have a8 : wr.cell? ⟨G, 8, none⟩ = some (.int .i64 r.master) := (A1 8 (by simp)).1
              have a9 : wr.cell? ⟨G, 9, none⟩ = some (.slice ia r.items.length ic) := (A1 9 (by simp)).1
              have RQ : Hid (RdReq wr r ⟨pa, ta, ia, pc, tc, ic⟩) := RdReq.mono (w := W) ⟨unhide HP, unhide HT, unhide HI⟩ hb
              clear hb hall A1
              go_wp2_with fail
              refine (specMasterOf_any r ⟨pa, ta, ia, pc, tc, ic⟩ _ (unhide RQ) htl).mono ?_
              rintro e w9 ⟨rfl, hb9⟩
              have H9 := hide (bw_call (unhide HBI) hb9)
              clear hb9
              go_wp2
              go_ret
              refine ⟨ret_bool (namesS_eq (unhide HO1) (unhide HO2) (unhide HO3) (unhide HO4)).symm, (unhide HBH).trans ((bw_alloc (unhide H9) _).mono (unhide HBH).size)⟩
end Go.Proofs.YtlakbnpinennnaaGreatDoor
